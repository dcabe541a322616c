/-
  The document's own Parse, for all bytes.
-/
import Derived.Test.YthcedehppflcgabRefP2
import Derived.Test.YthcedehppflcgabRefPe
import Derived.Test.YthcedehppflcgabRefPp8
import Derived.Test.YthcedehppflcgabRefPp0
import Derived.Test.YthcedehppflcgabRefPua
import Derived.Test.YthcedehppflcgabRefPub
import Derived.Test.YthcedehppflcgabRefPtk
namespace Go.Proofs.Ythcedehppflcgab
open Go.ChangeShapes Go.WideShapes Go.ChangeAt Go.RowKit
set_option linter.unusedSimpArgs false
set_option linter.unusedVariables false

theorem pref_any (s : ByteArray) (w : World) (hs : s.size ≤ 140737488351232) :
    Calls Try.prog 10 #[.string s] w fun e w' => e = .returned (.tuple #[pv (parsed s.data.toList), .int .i64 (bad s.data.toList)]) ∧ Below w.heap.size w w' := by
  by_cases h20 : s.size < 20
  · exact pref_short s w hs h20
  by_cases hb : byt s.data.toList 0 = 69 ∧ wAt s.data.toList 2 = s.data.toList.length ∧ bk (tot (s.data.toList.take 20)) = 65535 ∧ byt s.data.toList 1 = 0 ∧ byt s.data.toList 6 = 0 ∧ byt s.data.toList 7 = 0 ∧ byt s.data.toList 8 ≠ 0
  rotate_left
  · exact pref_head s w hs (by omega) hb
  obtain ⟨b0, b2, bs, b1, b6, b7, b8⟩ := hb
  have H : HeadO s.data.toList := ⟨b0, b2, bs, b1, by rw [show wAt s.data.toList 6 = byt s.data.toList 6 * 256 + byt s.data.toList 7 from rfl]; omega, b8⟩
  have hll := len_list s
  have h65 : s.size ≤ 65535 := by
    have e : wAt s.data.toList 2 = byt s.data.toList 2 * 256 + byt s.data.toList 3 := rfl
    have := byt_bd s.data.toList 2; have := byt_bd s.data.toList 3; omega
  have h20' : 20 ≤ s.size := by omega
  by_cases k1 : byt s.data.toList 9 = 1
  · by_cases hv : ((8 : Int) ≤ (s.size : Int) - 20 ∧ bk (tot (chkd s.data.toList (byt s.data.toList 9))) = 65535 ∧ (byt s.data.toList 20 = 0 ∨ byt s.data.toList 20 = 8) ∧ byt s.data.toList 21 = 0)
    rotate_left
    · exact pref_pinge s w h65 h20' H k1 hv
    obtain ⟨v1, v2, v3, v4⟩ := hv
    by_cases hg : good (pktOf s.data.toList) = 0
    · rcases v3 with q | q
      · exact pref_ping0g s w h65 h20' H k1 ⟨v1, v2, q, v4⟩ hg
      · exact pref_ping8g s w h65 h20' H k1 ⟨v1, v2, q, v4⟩ hg
    · rcases v3 with q | q
      · exact pref_ping0n s w h65 h20' H k1 ⟨v1, v2, q, v4⟩ hg
      · exact pref_ping8n s w h65 h20' H k1 ⟨v1, v2, q, v4⟩ hg
  by_cases k6 : byt s.data.toList 9 = 6
  · by_cases hv : ((20 : Int) ≤ (s.size : Int) - 20 ∧ bk (tot (chkd s.data.toList (byt s.data.toList 9))) = 65535 ∧ byt s.data.toList 32 = 80 ∧ byt s.data.toList 33 ≤ 63 ∧ byt s.data.toList 38 = 0 ∧ byt s.data.toList 39 = 0)
    rotate_left
    · exact pref_tcpe s w h65 h20' H k6 hv
    by_cases hg : good (pktOf s.data.toList) = 0
    · exact pref_tcpkg s w h65 h20' H k6 hv hg
    · exact pref_tcpkn s w h65 h20' H k6 hv hg
  by_cases k17 : byt s.data.toList 9 = 17
  · by_cases hv : ((8 : Int) ≤ (s.size : Int) - 20 ∧ bk (tot (chkd s.data.toList (byt s.data.toList 9))) = 65535 ∧ ¬ (byt s.data.toList 26 = 0 ∧ byt s.data.toList 27 = 0))
    rotate_left
    · exact pref_udpe s w h65 h20' H k17 hv
    obtain ⟨v1, v2, v3⟩ := hv
    by_cases hq : wAt s.data.toList 24 = (s.size : Int) - 20
    · by_cases hg : good (pktOf s.data.toList) = 0
      · by_cases h26 : byt s.data.toList 26 = 0
        · exact pref_udpbg s w h65 h20' H k17 ⟨v1, v2, h26, fun h => v3 ⟨h26, h⟩⟩ hg hq
        · exact pref_udpag s w h65 h20' H k17 ⟨v1, v2, h26⟩ hg hq
      · by_cases h26 : byt s.data.toList 26 = 0
        · exact pref_udpbn s w h65 h20' H k17 ⟨v1, v2, h26, fun h => v3 ⟨h26, h⟩⟩ hg hq
        · exact pref_udpan s w h65 h20' H k17 ⟨v1, v2, h26⟩ hg hq
    · by_cases h26 : byt s.data.toList 26 = 0
      · exact pref_udpbu s w h65 h20' H k17 ⟨v1, v2, h26, fun h => v3 ⟨h26, h⟩⟩ hq
      · exact pref_udpau s w h65 h20' H k17 ⟨v1, v2, h26⟩ hq
  exact pref_none s w h65 h20' H ⟨k1, k6, k17⟩
end Go.Proofs.Ythcedehppflcgab
