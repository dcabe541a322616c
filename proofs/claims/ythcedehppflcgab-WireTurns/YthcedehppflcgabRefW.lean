/-
  The walks of the document's own functions on frames: numbers as bytes and back, a head, what is summed ahead.
-/
import Derived.Test.YthcedehppflcgabRef
import Derived.Test.YthcedehppflcgabParseM
import Derived.Deep.DeepFit
namespace Go.Proofs.Ythcedehppflcgab
open Go.ChangeShapes Go.WideShapes Go.ChangeAt Go.RowKit

/-- a number as n bytes, the highest first. -/
def be (v : Int) : Nat → List UInt8
  | 0 => []
  | n + 1 => be (v / 256) n ++ [b8 v]
theorem be_one (v : Int) : be v 1 = [b8 v] := rfl
theorem be_two (v : Int) : be v 2 = w16 v := rfl
theorem be_four (v : Int) : be v 4 = l32 v := by
  have e : v / 256 / 256 = v / 65536 := by omega
  unfold be be be be be l32 w16
  rw [e]; rfl
theorem be_len (v : Int) (n : Nat) : (be v n).length = n := by
  induction n generalizing v with
  | zero => rfl
  | succ n ih => simp [be, ih]
theorem byte_text (w : World) (c : UInt8) (x : Int) (hx : x = (c.toNat : Int)) : (convert 38 9 (.slice (some ⟨w.heap.size, 0, none⟩) 1 1)).run Try.prog (w.alloc (.cells #[.int .u8 x] 5)) = .ok (.string ⟨#[c]⟩) (w.alloc (.cells #[.int .u8 x] 5)) := by
  subst hx
  refine run_convert_bytes_back (P := Try.prog) (w.alloc (.cells #[.int .u8 (c.toNat : Int)] 5)) 38 9 5 ⟨w.heap.size, 0, none⟩ 1 [c] Try.underlying38 Try.underlying5 Try.underlying9 ?_
  intro j hj
  have hj' : j = 0 := by simp at hj; omega
  subst hj'
  exact World.cell?_alloc_mark w #[.int .u8 (c.toNat : Int)] 5 (0, 0) 0
/-- what is left of a number behind k bytes of it. -/
def hi (v : Int) : Nat → Int
  | 0 => v
  | k + 1 => hi v k / 256
theorem hi_bd (v : Int) (h0 : 0 ≤ v) (h1 : v ≤ 9223372036854775807) (k : Nat) : 0 ≤ hi v k ∧ hi v k ≤ 9223372036854775807 := by
  induction k with
  | zero => exact ⟨h0, h1⟩
  | succ k ih => unfold hi; omega
theorem hi_down (v : Int) (j : Nat) : hi (v / 256) j = hi v (j + 1) := by
  induction j with
  | zero => rfl
  | succ j ij => unfold hi; rw [ij]
theorem be_next (v : Int) (j : Nat) : be v (j + 1) = [b8 (hi v j)] ++ be v j := by
  induction j generalizing v with
  | zero => rfl
  | succ j ihj =>
    show be (v / 256) (j + 1) ++ [b8 v] = _
    rw [ihj (v / 256), hi_down]; simp [be]
theorem be_split (v : Int) (n k : Nat) (h : k ≤ n) : be v n = be (hi v k) (n - k) ++ be v k := by
  induction k generalizing n with
  | zero => simp [be, hi]
  | succ k ih =>
    rw [ih n (by omega)]
    obtain ⟨m, hm⟩ : ∃ m, n - k = m + 1 := ⟨n - k - 1, by omega⟩
    have hm' : n - (k + 1) = m := by omega
    rw [hm, hm']
    rw [be_next v k]
    simp [be, hi]
theorem txt_cons (c : UInt8) (l : List UInt8) : txt ([c] ++ l) = ⟨#[c]⟩ ++ txt l := by
  rw [← txt_of ((⟨#[c]⟩ : ByteArray) ++ txt l)]
  congr 1
set_option maxHeartbeats 1000000 in
theorem bytesOf_any (v : Int) (n : Nat) (w : World) (h0 : 0 ≤ v) (h1 : v ≤ 9223372036854775807) (hn : n ≤ 8) :
    Calls Try.prog 44 #[.int .i64 v, .int .i64 (n : Int)] w fun e w' => e = .returned (.string (txt (be v n))) ∧ Below w.heap.size w w' := by
  go_enter Try.func44, Try.ntmps44
  go_wp2
  go_loopw [0, 1, 5] (fun x m s W => ∃ k : Nat, k ≤ n ∧ x = .int .i64 (hi v k) ∧ m = .int .i64 ((n - k : Nat) : Int) ∧ s = .string (txt (be v k)) ∧ Below w.heap.size w W) (fun _ m _ _ => (intOf m).toNat)
  case atStart => exact ⟨0, by omega, rfl, by simp, rfl, Below.refl _ _⟩
  case round =>
    obtain ⟨k, hk, rfl, rfl, rfl, hB⟩ := hrel
    obtain ⟨b0, b1⟩ := hi_bd v h0 h1 k
    by_cases hlt : k < n
    · have HB : Hid (be v (k + 1) = [b8 (hi v k)] ++ be v k) := be_next v k
      have hx : IntKind.u8.wrap (hi v k % 256) = ((b8 (hi v k)).toNat : Int) := by rw [wrap_u8, b8_nat]; omega
      have hc := fun W => byte_text W (b8 (hi v k)) _ rfl
      have hsz : (txt (be v k)).size = k := by rw [txt_size, be_len]
      have hs : ((n - k : Nat) : Int) - 1 = ((n - (k + 1) : Nat) : Int) := by omega
      have hp : (0 : Int) < ((n - k : Nat) : Int) := by omega
      go_wp2
      go_roundw
      case rel => exact ⟨k + 1, by omega, rfl, rfl, by rw [HB.out, txt_cons], hB.alloc hB.size _⟩
      case measure => simp [intOf]; omega
    · have e : k = n := by omega
      subst e
      go_wp2
      go_ret
      exact ⟨rfl, hB⟩
/-- a text as a number, the highest byte first. -/
def num (l : List UInt8) : Int := l.foldl (fun n c => 256 * n + (c.toNat : Int)) 0
theorem num_snoc (l : List UInt8) (c : UInt8) : num (l ++ [c]) = 256 * num l + (c.toNat : Int) := by simp [num]
theorem num_two (l : List UInt8) (k : Nat) (h : k + 1 < l.length) : num ((l.drop k).take 2) = wAt l k := by
  have e : (l.drop k).take 2 = [l[k], l[k + 1]] := by
    rw [List.drop_eq_getElem_cons (by omega), List.drop_eq_getElem_cons (by omega)]; rfl
  rw [e]
  unfold num wAt byt
  simp [List.getD_eq_getElem?_getD, List.getElem?_eq_getElem (show k < l.length by omega), List.getElem?_eq_getElem h]
  omega
theorem num_four (l : List UInt8) (k : Nat) (h : k + 3 < l.length) : num ((l.drop k).take 4) = lAt l k := by
  have e : (l.drop k).take 4 = [l[k], l[k + 1], l[k + 2], l[k + 3]] := by
    rw [List.drop_eq_getElem_cons (by omega), List.drop_eq_getElem_cons (by omega), List.drop_eq_getElem_cons (by omega), List.drop_eq_getElem_cons (by omega)]; rfl
  rw [e]
  unfold num lAt wAt byt
  simp [List.getD_eq_getElem?_getD, List.getElem?_eq_getElem (show k < l.length by omega), List.getElem?_eq_getElem (show k + 1 < l.length by omega), List.getElem?_eq_getElem (show k + 2 < l.length by omega), List.getElem?_eq_getElem h]
  omega
theorem num_bd (l : List UInt8) (h : l.length ≤ 4) : 0 ≤ num l ∧ num l ≤ 4294967295 := by
  have e : ∀ c : UInt8, 0 ≤ (c.toNat : Int) ∧ (c.toNat : Int) ≤ 255 := byte_bd
  match l, h with
  | [], _ => simp [num]
  | [a], _ => have := e a; simp [num]; omega
  | [a, b], _ => have := e a; have := e b; simp [num]; omega
  | [a, b, c], _ => have := e a; have := e b; have := e c; simp [num]; omega
  | [a, b, c, d], _ => have := e a; have := e b; have := e c; have := e d; simp [num]; omega
  | _ :: _ :: _ :: _ :: _ :: _, h => simp at h
theorem numberOf_any (s : ByteArray) (w : World) (hs : s.size ≤ 4) :
    Calls Try.prog 24 #[.string s] w fun e w' => e = .returned (.int .i64 (num s.data.toList)) ∧ Below w.heap.size w w' := by
  obtain ⟨C, cap, hconv, hcell⟩ := bytes_new s w
  go_enter Try.func24, Try.ntmps24
  go_wp2
  go_loop [3, 9] (fun t i => ∃ k : Nat, k ≤ s.size ∧ i = .int .i64 k ∧ t = .int .i64 (num (s.data.toList.take k))) (fun _ i => s.size - (intOf i).toNat)
  case atStart => exact ⟨0, by omega, rfl, by simp [num]⟩
  case round =>
    obtain ⟨k, hk, rfl, rfl⟩ := hrel
    have hbd := num_bd (s.data.toList.take k) (by rw [List.length_take]; omega)
    by_cases hlt : k < s.size
    · have HS : Hid (num (s.data.toList.take (k + 1)) = 256 * num (s.data.toList.take k) + (s[k].toNat : Int)) := by
        show _ = _
        rw [take_snoc s k hlt, num_snoc]
      have c0 := byte_bd s[k]
      have hc := hcell k hlt
      go_wp2
      go_round
      case rel => exact ⟨k + 1, by omega, by go_num, by rw [HS.out]⟩
      case measure => simp [intOf]; omega
    · have HA : Hid (num (s.data.toList.take k) = num s.data.toList) := by
        show _ = _
        rw [List.take_of_length_le (by simp; omega)]
      go_wp2
      go_ret
      exact ⟨ret_int (by rw [HA.out]), ((Below.refl _ _).alloc (Nat.le_refl _) _).drew⟩
theorem bytes1_any (v : Int) (w : World) (h0 : 0 ≤ v) (h1 : v ≤ 9223372036854775807) : Calls Try.prog 44 #[.int .i64 v, .int .i64 1] w fun e w' => e = .returned (.string (txt [b8 v])) ∧ Below w.heap.size w w' := bytesOf_any v 1 w h0 h1 (by omega)
theorem bytes2_any (v : Int) (w : World) (h0 : 0 ≤ v) (h1 : v ≤ 9223372036854775807) : Calls Try.prog 44 #[.int .i64 v, .int .i64 2] w fun e w' => e = .returned (.string (txt (w16 v))) ∧ Below w.heap.size w w' := bytesOf_any v 2 w h0 h1 (by omega)
theorem bytes4_any (v : Int) (w : World) (h0 : 0 ≤ v) (h1 : v ≤ 9223372036854775807) : Calls Try.prog 44 #[.int .i64 v, .int .i64 4] w fun e w' => e = .returned (.string (txt (l32 v))) ∧ Below w.heap.size w w' := by
  have := bytesOf_any v 4 w h0 h1 (by omega)
  rw [be_four] at this; exact this
@[simp] theorem txt_size1 (v : Int) : (txt [b8 v]).size = 1 := rfl
@[simp] theorem txt_size2 (v : Int) : (txt (w16 v)).size = 2 := rfl
@[simp] theorem txt_size4 (v : Int) : (txt (l32 v)).size = 4 := rfl
theorem txt_app (a b : List UInt8) : txt a ++ txt b = txt (a ++ b) := by
  rw [← txt_of (txt a ++ txt b)]
  congr 1
/-- the document's head of a frame. -/
theorem headOf_any (k : Pkt) (n : Int) (w : World) (n0 : 0 ≤ n) (n1 : n ≤ 1000000) (h0 : 0 ≤ k.proto ∧ k.proto ≤ 255) (h1 : 0 ≤ k.src ∧ k.src ≤ 4294967295) (h2 : 0 ≤ k.dst ∧ k.dst ≤ 4294967295) (h3 : 0 ≤ k.ttl ∧ k.ttl ≤ 255) (h4 : 0 ≤ k.id ∧ k.id ≤ 65535) :
    Calls Try.prog 43 #[.int .i64 k.proto, .int .i64 k.src, .int .i64 k.dst, .int .i64 k.ttl, .int .i64 k.id, .int .i64 n] w fun e w' => e = .returned (.string (txt (hd k (20 + n) (65535 - bk (tot (hd k (20 + n) 0)))))) ∧ Below w.heap.size w w' := by
  have HT : Hid ((⟨#[69, 0]⟩ : ByteArray) ++ txt (w16 (20 + n)) ++ txt (w16 k.id) ++ ⟨#[0, 0]⟩ ++ txt [b8 k.ttl] ++ txt [b8 k.proto] ++ ⟨#[0, 0]⟩ ++ (txt (l32 k.src) ++ txt (l32 k.dst)) = txt (hd k (20 + n) 0)) := by
    show _ = _
    rw [show (⟨#[69, 0]⟩ : ByteArray) = txt [69, 0] from rfl, show (⟨#[0, 0]⟩ : ByteArray) = txt (w16 0) from rfl]
    simp only [txt_app]
    congr 1
  have HU : Hid ((⟨#[69, 0]⟩ : ByteArray) ++ txt (w16 (20 + n)) ++ txt (w16 k.id) ++ ⟨#[0, 0]⟩ ++ txt [b8 k.ttl] ++ txt [b8 k.proto] ++ txt (w16 (65535 - bk (tot (hd k (20 + n) 0)))) ++ (txt (l32 k.src) ++ txt (l32 k.dst)) = txt (hd k (20 + n) (65535 - bk (tot (hd k (20 + n) 0))))) := by
    show _ = _
    rw [show (⟨#[69, 0]⟩ : ByteArray) = txt [69, 0] from rfl, show (⟨#[0, 0]⟩ : ByteArray) = txt (w16 0) from rfl]
    simp only [txt_app]
    congr 1
  have hB := Below.refl w.heap.size w
  have hk := bk_bd (tot (hd k (20 + n) 0))
  have CC : ∀ w, Calls Try.prog 45 #[.string (txt (hd k (20 + n) 0))] w fun e w' => e = .returned (.int .i64 (65535 - bk (tot (hd k (20 + n) 0)))) ∧ Below w.heap.size w w' := by
    intro w
    have := checkRef_any (txt (hd k (20 + n) 0)) w (by rw [txt_size, hd_len]; omega)
    rw [txt_list] at this; exact this
  go_enter Try.func43, Try.ntmps43
  go_wp2_with (first
    | (go_at_call 44; go_fit (bytes2_any _ _ (by omega) (by omega)); rintro e w' ⟨rfl, hb⟩; replace hB := hB.trans (hb.mono hB.size))
    | (go_at_call 44; go_fit (bytes1_any _ _ (by omega) (by omega)); rintro e w' ⟨rfl, hb⟩; replace hB := hB.trans (hb.mono hB.size))
    | (go_at_call 44; go_fit (bytes4_any _ _ (by omega) (by omega)); rintro e w' ⟨rfl, hb⟩; replace hB := hB.trans (hb.mono hB.size))
    | (go_at_call 45; rw [HT.out]; go_fit (CC _); rintro e w' ⟨rfl, hb⟩; replace hB := hB.trans (hb.mono hB.size)))
  go_ret
  exact ⟨ret_str HU.out, hB⟩
/-- what is summed ahead, as the document has it. -/
theorem ahead_any (src dst proto n : Int) (w : World) (h0 : 0 ≤ proto ∧ proto ≤ 255) (h1 : 0 ≤ src ∧ src ≤ 4294967295) (h2 : 0 ≤ dst ∧ dst ≤ 4294967295) (h3 : 0 ≤ n ∧ n ≤ 140737488351232) :
    Calls Try.prog 26 #[.int .i64 src, .int .i64 dst, .int .i64 proto, .int .i64 n] w fun e w' => e = .returned (.string (txt (ps src dst proto n))) ∧ Below w.heap.size w w' := by
  have hB := Below.refl w.heap.size w
  by_cases hp : proto = 1
  · subst hp
    go_enter Try.func26, Try.ntmps26
    go_wp2
    go_ret
    exact ⟨rfl, hB⟩
  · have hp' : (proto == 1) = false := by simpa using hp
    have HU : Hid (txt (l32 src) ++ txt (l32 dst) ++ txt (w16 proto) ++ txt (w16 n) = txt (ps src dst proto n)) := by
      show _ = _
      simp only [txt_app]
      unfold ps
      rw [if_neg hp]
    clear hp
    go_enter Try.func26, Try.ntmps26
    go_wp2_with (first
      | (go_at_call 44; go_fit (bytes2_any _ _ (by omega) (by omega)); rintro e w' ⟨rfl, hb⟩; replace hB := hB.trans (hb.mono hB.size))
      | (go_at_call 44; go_fit (bytes4_any _ _ (by omega) (by omega)); rintro e w' ⟨rfl, hb⟩; replace hB := hB.trans (hb.mono hB.size)))
    go_ret
    exact ⟨ret_str HU.out, hB⟩
end Go.Proofs.Ythcedehppflcgab
