/-
  The walk of Parse.
-/
import Derived.Test.YthcedehppflcgabParse3
import Derived.Test.YthcedehppflcgabParse4
import Derived.Test.YthcedehppflcgabZero
namespace Go.Proofs.Ythcedehppflcgab
open Go.ChangeShapes Go.WideShapes Go.ChangeAt Go.RowKit

theorem failedP_any (e : Int) (w : World) : Calls Try.prog 21 #[.int .i64 e] w fun r w' => r = .returned (.tuple #[pv p0, .int .i64 e]) ∧ Below w.heap.size w w' := by
  go_enter Try.func21, Try.ntmps21
  go_wp2
  exact bodyPost_ret (v := .tuple #[pv p0, .int .i64 e]) (by simp [results, Try.results21, go_sem, pv, p0]; rfl) rfl ⟨rfl, ((Below.refl _ _).alloc (Nat.le_refl _) _).alloc (by simp) _⟩
theorem Twelve.below {w w' : World} {b : Nat} {cs : Array Value} (h : Twelve w b cs) (hb : Below w.heap.size w w') : Twelve w' b cs :=
  (hb.block b (Array.getElem?_eq_some_iff.1 h).1).trans h
theorem parse_head (s : ByteArray) (w : World) (hs : s.size ≤ 140737488351232) (h : headBad s.data.toList ≠ 0) :
    Calls Try.prog 9 #[.string s] w fun e w' => e = .returned (.tuple #[pv p0, .int .i64 (headBad s.data.toList)]) ∧ Below w.heap.size w w' := by
  have hn : (headBad s.data.toList == 0) = false := by simpa using h
  have T0 : Twelve (w.alloc (.cells #[.int .i64 0, .int .i64 0, .int .i64 0, .int .i64 0, .int .i64 0, .int .i64 0, .int .i64 0, .int .i64 0, .int .i64 0, .int .i64 0, .int .i64 0, .string ⟨#[]⟩] 23)) w.heap.size #[.int .i64 0, .int .i64 0, .int .i64 0, .int .i64 0, .int .i64 0, .int .i64 0, .int .i64 0, .int .i64 0, .int .i64 0, .int .i64 0, .int .i64 0, .string ⟨#[]⟩] := heap_alloc_new w _
  have hB : Below w.heap.size w (w.alloc (.cells #[.int .i64 0, .int .i64 0, .int .i64 0, .int .i64 0, .int .i64 0, .int .i64 0, .int .i64 0, .int .i64 0, .int .i64 0, .int .i64 0, .int .i64 0, .string ⟨#[]⟩] 23)) := (Below.refl _ _).alloc (Nat.le_refl _) _
  have c0 := T0.cell; have f0 := T0.free
  go_enter Try.func9, Try.ntmps9
  go_wp2_with (first
    | (go_at_call 20; refine (headWrong_any s _ hs).mono ?_; rintro e w' ⟨rfl, hb⟩; replace T0 := T0.below hb; replace hB := hB.trans (hb.mono hB.size); clear hb; have c0 := T0.cell; have f0 := T0.free)
    | (go_at_call 21; refine (failedP_any _ _).mono ?_; rintro e w' ⟨rfl, hb⟩; replace T0 := T0.below hb; replace hB := hB.trans (hb.mono hB.size); clear hb; have c0 := T0.cell; have f0 := T0.free; unfold pv p0))
  refine bodyPost_ret (v := .tuple #[pv p0, .int .i64 (headBad s.data.toList)]) (by simp [results, Try.results9, go_sem, pv, p0, c0] <;> rfl) rfl ⟨rfl, ?_⟩
  iterate 12 (refine Below.setCell ?_ (by exact Nat.le_refl _) _)
  exact hB
theorem parse_part (s : ByteArray) (w : World) (hs : s.size ≤ 140737488351232) (h0 : headBad s.data.toList = 0) (h1 : partBad s.data.toList (byt s.data.toList 9) ≠ 0) :
    Calls Try.prog 9 #[.string s] w fun e w' => e = .returned (.tuple #[pv p0, .int .i64 (partBad s.data.toList (byt s.data.toList 9))]) ∧ Below w.heap.size w w' := by
  have H := head_zero _ h0
  have h20 : 20 ≤ s.size := by have := H.len; rw [len_list] at this; exact this
  have h65 : s.size ≤ 65535 := by have := H.small; rw [len_list] at this; exact this
  have g9 := byt_get s 9 (by omega)
  obtain ⟨b3, b4⟩ := byt_bd s.data.toList 9
  have hz : (headBad s.data.toList == 0) = true := by simpa using h0
  have hn : (partBad s.data.toList (byt s.data.toList 9) == 0) = false := by simpa using h1
  have T0 : Twelve (w.alloc (.cells #[.int .i64 0, .int .i64 0, .int .i64 0, .int .i64 0, .int .i64 0, .int .i64 0, .int .i64 0, .int .i64 0, .int .i64 0, .int .i64 0, .int .i64 0, .string ⟨#[]⟩] 23)) w.heap.size #[.int .i64 0, .int .i64 0, .int .i64 0, .int .i64 0, .int .i64 0, .int .i64 0, .int .i64 0, .int .i64 0, .int .i64 0, .int .i64 0, .int .i64 0, .string ⟨#[]⟩] := heap_alloc_new w _
  have hB : Below w.heap.size w (w.alloc (.cells #[.int .i64 0, .int .i64 0, .int .i64 0, .int .i64 0, .int .i64 0, .int .i64 0, .int .i64 0, .int .i64 0, .int .i64 0, .int .i64 0, .int .i64 0, .string ⟨#[]⟩] 23)) := (Below.refl _ _).alloc (Nat.le_refl _) _
  have c0 := T0.cell; have f0 := T0.free
  go_enter Try.func9, Try.ntmps9
  go_wp2_with (first
    | (go_at_call 20; refine (headWrong_any s _ hs).mono ?_; rintro e w' ⟨rfl, hb⟩; rw [h0]; replace T0 := T0.below hb; replace hB := hB.trans (hb.mono hB.size); clear hb; have c0 := T0.cell; have f0 := T0.free)
    | (go_at_call 22; refine (partWrong_any s _ _ h20 h65 H.kind).mono ?_; rintro e w' ⟨rfl, hb⟩; replace T0 := T0.below hb; replace hB := hB.trans (hb.mono hB.size); clear hb; have c0 := T0.cell; have f0 := T0.free)
    | (go_at_call 21; refine (failedP_any _ _).mono ?_; rintro e w' ⟨rfl, hb⟩; replace T0 := T0.below hb; replace hB := hB.trans (hb.mono hB.size); clear hb; have c0 := T0.cell; have f0 := T0.free; unfold pv p0))
  refine bodyPost_ret (v := .tuple #[pv p0, .int .i64 (partBad s.data.toList (byt s.data.toList 9))]) (by simp [results, Try.results9, go_sem, pv, p0, c0] <;> rfl) rfl ⟨rfl, ?_⟩
  iterate 12 (refine Below.setCell ?_ (by exact Nat.le_refl _) _)
  exact hB

theorem pkt_body (l : List UInt8) : (pktOf l).body.size ≤ l.length := by
  unfold pktOf
  split <;> (try split) <;> simp [txt_size] <;> omega
set_option maxHeartbeats 1000000 in
theorem parse_bad (s : ByteArray) (w : World) (hs : s.size ≤ 140737488351232) (h0 : headBad s.data.toList = 0) (h1 : partBad s.data.toList (byt s.data.toList 9) = 0) (k : Pkt) (hk : pktOf s.data.toList = k) (h2 : good k ≠ 0) :
    Calls Try.prog 9 #[.string s] w fun e w' => e = .returned (.tuple #[pv p0, .int .i64 (good k)]) ∧ Below w.heap.size w w' := by
  have H := head_zero _ h0
  have h20 : 20 ≤ s.size := by have := H.len; rw [len_list] at this; exact this
  have h65 : s.size ≤ 65535 := by have := H.small; rw [len_list] at this; exact this
  have g9 := byt_get s 9 (by omega)
  obtain ⟨b3, b4⟩ := byt_bd s.data.toList 9
  have hz : (headBad s.data.toList == 0) = true := by simpa using h0
  have P := part_ok _ _ h1
  have hpl := part_least _ H.kind
  have h28 : 28 ≤ s.size := by have := P.len; rw [len_list] at this; omega
  have hf := P.ping
  have ht : byt s.data.toList 9 = 6 → 40 ≤ s.size := fun e => by have := P.len; rw [len_list, e, show partN 6 = 20 from rfl] at this; omega
  have hbody : k.body.size ≤ 140737488351232 := by rw [← hk]; have := pkt_body s.data.toList; rw [len_list] at this; omega
  have hn : (good k == 0) = false := by simpa using h2
  have T0 : Twelve (w.alloc (.cells #[.int .i64 0, .int .i64 0, .int .i64 0, .int .i64 0, .int .i64 0, .int .i64 0, .int .i64 0, .int .i64 0, .int .i64 0, .int .i64 0, .int .i64 0, .string ⟨#[]⟩] 23)) w.heap.size #[.int .i64 0, .int .i64 0, .int .i64 0, .int .i64 0, .int .i64 0, .int .i64 0, .int .i64 0, .int .i64 0, .int .i64 0, .int .i64 0, .int .i64 0, .string ⟨#[]⟩] := heap_alloc_new w _
  have hB : Below w.heap.size w (w.alloc (.cells #[.int .i64 0, .int .i64 0, .int .i64 0, .int .i64 0, .int .i64 0, .int .i64 0, .int .i64 0, .int .i64 0, .int .i64 0, .int .i64 0, .int .i64 0, .string ⟨#[]⟩] 23)) := (Below.refl _ _).alloc (Nat.le_refl _) _
  have c0 := T0.cell; have f0 := T0.free
  go_enter Try.func9, Try.ntmps9
  go_wp2_with (first
    | (go_at_call 20; refine (headWrong_any s _ hs).mono ?_; rintro e w' ⟨rfl, hb⟩; rw [h0]; replace T0 := T0.below hb; replace hB := hB.trans (hb.mono hB.size); clear hb; have c0 := T0.cell; have f0 := T0.free)
    | (go_at_call 22; refine (partWrong_any s _ _ h20 h65 H.kind).mono ?_; rintro e w' ⟨rfl, hb⟩; rw [h1]; replace T0 := T0.below hb; replace hB := hB.trans (hb.mono hB.size); clear hb; have c0 := T0.cell; have f0 := T0.free)
    | (go_at_call 23; refine (packetOf_any s _ h28 h65 H.kind hf ht).mono ?_; rintro e w3 ⟨rfl, hb⟩; replace T0 := T0.below hb; replace hB := hB.trans (hb.mono hB.size); clear hb; have c0 := T0.cell; have f0 := T0.free; rw [hk]; unfold pv; have T1 : Twelve (w3.alloc (.cells #[.int .i64 k.proto, .int .i64 k.src, .int .i64 k.sport, .int .i64 k.dst, .int .i64 k.dport, .int .i64 k.ttl, .int .i64 k.id, .int .i64 k.flags, .int .i64 k.seq, .int .i64 k.ack, .int .i64 k.win, .string k.body] 23)) w3.heap.size #[.int .i64 k.proto, .int .i64 k.src, .int .i64 k.sport, .int .i64 k.dst, .int .i64 k.dport, .int .i64 k.ttl, .int .i64 k.id, .int .i64 k.flags, .int .i64 k.seq, .int .i64 k.ack, .int .i64 k.win, .string k.body] := heap_alloc_new w3 _; replace hB := hB.alloc (by have := hB.size; omega) (.cells #[.int .i64 k.proto, .int .i64 k.src, .int .i64 k.sport, .int .i64 k.dst, .int .i64 k.dport, .int .i64 k.ttl, .int .i64 k.id, .int .i64 k.flags, .int .i64 k.seq, .int .i64 k.ack, .int .i64 k.win, .string k.body] 23); replace T0 := T0.below ((Below.refl _ _).alloc (Nat.le_refl _) (.cells #[.int .i64 k.proto, .int .i64 k.src, .int .i64 k.sport, .int .i64 k.dst, .int .i64 k.dport, .int .i64 k.ttl, .int .i64 k.id, .int .i64 k.flags, .int .i64 k.seq, .int .i64 k.ack, .int .i64 k.win, .string k.body] 23)))
    | (go_at_call 18; refine (good_any k _ hbody).mono ?_; rintro e w' ⟨rfl, hb⟩; replace T0 := T0.below hb; replace hB := hB.trans (hb.mono hB.size); replace T1 := T1.below hb; clear hb; have c0 := T0.cell; have f0 := T0.free; have c1 := T1.cell; have f1 := T1.free)
    | (go_at_call 21; refine (failedP_any _ _).mono ?_; rintro e w' ⟨rfl, hb⟩; replace T0 := T0.below hb; replace hB := hB.trans (hb.mono hB.size); clear hb; have c0 := T0.cell; have f0 := T0.free; unfold pv p0))
  refine bodyPost_ret (v := .tuple #[pv p0, .int .i64 (good k)]) (by simp [results, Try.results9, go_sem, pv, p0, c0] <;> rfl) rfl ⟨rfl, ?_⟩
  iterate 12 (refine Below.setCell ?_ (by exact Nat.le_refl _) _)
  exact hB

set_option maxHeartbeats 1000000 in
theorem parse_good (s : ByteArray) (w : World) (hs : s.size ≤ 140737488351232) (h0 : headBad s.data.toList = 0) (h1 : partBad s.data.toList (byt s.data.toList 9) = 0) (k : Pkt) (hk : pktOf s.data.toList = k) (h2 : good k = 0) :
    Calls Try.prog 9 #[.string s] w fun e w' => e = .returned (.tuple #[pv k, .int .i64 0]) ∧ Below w.heap.size w w' := by
  have H := head_zero _ h0
  have h20 : 20 ≤ s.size := by have := H.len; rw [len_list] at this; exact this
  have h65 : s.size ≤ 65535 := by have := H.small; rw [len_list] at this; exact this
  have g9 := byt_get s 9 (by omega)
  obtain ⟨b3, b4⟩ := byt_bd s.data.toList 9
  have hz : (headBad s.data.toList == 0) = true := by simpa using h0
  have P := part_ok _ _ h1
  have hpl := part_least _ H.kind
  have h28 : 28 ≤ s.size := by have := P.len; rw [len_list] at this; omega
  have hf := P.ping
  have ht : byt s.data.toList 9 = 6 → 40 ≤ s.size := fun e => by have := P.len; rw [len_list, e, show partN 6 = 20 from rfl] at this; omega
  have hbody : k.body.size ≤ 140737488351232 := by rw [← hk]; have := pkt_body s.data.toList; rw [len_list] at this; omega
  have T0 : Twelve (w.alloc (.cells #[.int .i64 0, .int .i64 0, .int .i64 0, .int .i64 0, .int .i64 0, .int .i64 0, .int .i64 0, .int .i64 0, .int .i64 0, .int .i64 0, .int .i64 0, .string ⟨#[]⟩] 23)) w.heap.size #[.int .i64 0, .int .i64 0, .int .i64 0, .int .i64 0, .int .i64 0, .int .i64 0, .int .i64 0, .int .i64 0, .int .i64 0, .int .i64 0, .int .i64 0, .string ⟨#[]⟩] := heap_alloc_new w _
  have hB : Below w.heap.size w (w.alloc (.cells #[.int .i64 0, .int .i64 0, .int .i64 0, .int .i64 0, .int .i64 0, .int .i64 0, .int .i64 0, .int .i64 0, .int .i64 0, .int .i64 0, .int .i64 0, .string ⟨#[]⟩] 23)) := (Below.refl _ _).alloc (Nat.le_refl _) _
  have c0 := T0.cell; have f0 := T0.free
  go_enter Try.func9, Try.ntmps9
  go_wp2_with (first
    | (go_at_call 20; refine (headWrong_any s _ hs).mono ?_; rintro e w' ⟨rfl, hb⟩; rw [h0]; replace T0 := T0.below hb; replace hB := hB.trans (hb.mono hB.size); clear hb; have c0 := T0.cell; have f0 := T0.free)
    | (go_at_call 22; refine (partWrong_any s _ _ h20 h65 H.kind).mono ?_; rintro e w' ⟨rfl, hb⟩; rw [h1]; replace T0 := T0.below hb; replace hB := hB.trans (hb.mono hB.size); clear hb; have c0 := T0.cell; have f0 := T0.free)
    | (go_at_call 23; refine (packetOf_any s _ h28 h65 H.kind hf ht).mono ?_; rintro e w3 ⟨rfl, hb⟩; replace T0 := T0.below hb; replace hB := hB.trans (hb.mono hB.size); clear hb; have c0 := T0.cell; have f0 := T0.free; rw [hk]; unfold pv; have T1 : Twelve (w3.alloc (.cells #[.int .i64 k.proto, .int .i64 k.src, .int .i64 k.sport, .int .i64 k.dst, .int .i64 k.dport, .int .i64 k.ttl, .int .i64 k.id, .int .i64 k.flags, .int .i64 k.seq, .int .i64 k.ack, .int .i64 k.win, .string k.body] 23)) w3.heap.size #[.int .i64 k.proto, .int .i64 k.src, .int .i64 k.sport, .int .i64 k.dst, .int .i64 k.dport, .int .i64 k.ttl, .int .i64 k.id, .int .i64 k.flags, .int .i64 k.seq, .int .i64 k.ack, .int .i64 k.win, .string k.body] := heap_alloc_new w3 _; replace hB := hB.alloc (by have := hB.size; omega) (.cells #[.int .i64 k.proto, .int .i64 k.src, .int .i64 k.sport, .int .i64 k.dst, .int .i64 k.dport, .int .i64 k.ttl, .int .i64 k.id, .int .i64 k.flags, .int .i64 k.seq, .int .i64 k.ack, .int .i64 k.win, .string k.body] 23); replace T0 := T0.below ((Below.refl _ _).alloc (Nat.le_refl _) (.cells #[.int .i64 k.proto, .int .i64 k.src, .int .i64 k.sport, .int .i64 k.dst, .int .i64 k.dport, .int .i64 k.ttl, .int .i64 k.id, .int .i64 k.flags, .int .i64 k.seq, .int .i64 k.ack, .int .i64 k.win, .string k.body] 23)))
    | (go_at_call 18; refine (good_any k _ hbody).mono ?_; rintro e w' ⟨rfl, hb⟩; rw [h2]; replace T0 := T0.below hb; replace hB := hB.trans (hb.mono hB.size); replace T1 := T1.below hb; clear hb; have c0 := T0.cell; have f0 := T0.free; have c1 := T1.cell; have f1 := T1.free))
  refine bodyPost_ret (v := .tuple #[pv k, .int .i64 0]) (by simp [results, Try.results9, go_sem, pv, c0]) rfl ⟨rfl, ?_⟩
  iterate 12 (refine Below.setCell ?_ (by exact Nat.le_refl _) _)
  exact hB

theorem parse_any (s : ByteArray) (w : World) (hs : s.size ≤ 140737488351232) :
    Calls Try.prog 9 #[.string s] w fun e w' => e = .returned (.tuple #[pv (parsed s.data.toList), .int .i64 (bad s.data.toList)]) ∧ Below w.heap.size w w' := by
  by_cases h0 : headBad s.data.toList = 0
  · by_cases h1 : partBad s.data.toList (byt s.data.toList 9) = 0
    · have e : bad s.data.toList = good (pktOf s.data.toList) := by unfold bad; rw [if_neg (by omega), if_neg (by omega)]
      by_cases h2 : good (pktOf s.data.toList) = 0
      · rw [parsed, e, if_pos h2, h2]; exact parse_good s w hs h0 h1 _ rfl h2
      · rw [parsed, e, if_neg h2]; exact parse_bad s w hs h0 h1 _ rfl h2
    · have e : bad s.data.toList = partBad s.data.toList (byt s.data.toList 9) := by unfold bad; rw [if_neg (by omega), if_pos h1]
      rw [parsed, e, if_neg h1]; exact parse_part s w hs h0 h1
  · have e : bad s.data.toList = headBad s.data.toList := by unfold bad; rw [if_pos h0]
    rw [parsed, e, if_neg h0]; exact parse_head s w hs h0
end Go.Proofs.Ythcedehppflcgab
