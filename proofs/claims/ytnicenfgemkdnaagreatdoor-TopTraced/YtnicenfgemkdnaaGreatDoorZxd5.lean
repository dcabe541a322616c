/-
  Of what a law stands on.
-/
import Derived.Test.YtnicenfgemkdnaaGreatDoorZxd4
set_option linter.unusedSimpArgs false
set_option linter.unusedVariables false
namespace Go.Proofs.YtnicenfgemkdnaaGreatDoor
open _root_.Go.Proofs.Tryz
set_option maxHeartbeats 16000000
set_option maxRecDepth 100000
open Go.ChangeShapes Go.WideShapes Go.ChangeAt Go.RowKit
theorem qe0{ops:Array Oper}{rest:List Oper}{o:Oper}{a:Act}{w:World}{Q:Exit->Act->World->Prop}(t:TypeId)(x:Operand)(ho:o.op=.load t x)(hw:Region.wanted o (yielded ops a.tmps)=true)(b off:Nat)(hx:a.eval x=.pointer (some ⟨b,off,none⟩))(cs:List Value)(d:TypeDesc)(h:w.rangeAt b off cs)(hu:prog.underlying t=some d)(hd:d.isRow=true)(hi:(prog.info? t).map (·.size)=some cs.length)(hr:wpList prog ops Q rest (a.put o.dst (.agg cs.toArray)) w):wpList prog ops Q (o::rest) a w:=
 wpList_step fun K hK=>by
  rw[if_pos hw]
  exact wp_load_mid t x ho b off hx cs d h hu hd hi (hK _ _ hr)
theorem sZxd53{p:Prop}(h:p:=by
 go_ret
 first|exact⟨_,by first|exact HF.out|simpa using HF.out,rfl,hB⟩|exact Or.inr ⟨by simpa using HF.out,rfl,hB⟩|exact Or.inl ⟨by simpa using HF.out,rfl,hB⟩):p:=h
theorem sZxd52{p:Prop}(h:p:=by
 go_wp2_with (first|(refine wpList_load_mid ?_ 32 _ rfl bN 0 rfl (ocl (qd0 f ms)) _ RN.owners underlying32 rfl (qhm _) ?_;(· rfl);rw[qip])|(refine wpList_load_mid ?_ 32 _ rfl bT 0 rfl (ocl f) _ RT.owners underlying32 rfl (qhm _) ?_;(· rfl);rw[qip])|(refine qb1 32 _ _ rfl rfl (oc (qd0 f ms)) (oc f) rfl rfl eqGuardType32 _ _ (qq8 _ _ hwN hwF _) hEO.out ?_)|(refine qe0 36 _ rfl ?_ bN 21 rfl (hcl (qdq h ms)) _ RN.homes underlying36 rfl (qfd _) ?_;(· rfl);rw[qkf])|(refine qe0 36 _ rfl ?_ bT 21 rfl (hcl h) _ RT.homes underlying36 rfl (qfd _) ?_;(· rfl);rw[qkf])|(refine qb1 36 _ _ rfl ?_ (hc8 (qdq h ms)) (hc8 h) rfl rfl eqGuardType36 _ _ (qmy _ _ hwM hwH _) hEH.out ?_;· rfl)|(refine qac 39 _ rfl ?_ _ rfl (tc f g h (.slice a0 n cap)) RT _ underlying39 rfl (qaq _ _ _ _) ?_;· rfl)|(go_at_call 56;refine(qkt f g h (.slice a0 n cap) ms _ (hM.keep hB hlt)).mono ?_;rintro e w5 ⟨r,hr,rfl,hb5⟩;obtain rfl:r=true:=zm;clear hr;replace hB:=hB.trans (hb5.mono hB.size)))
 exact sZxd53):p:=h
theorem sZxd54{p:Prop}(h:p:=by
 refine hK.out _ _ ⟨RT,R5⟩ (fun _=>?_)
 clear hK K
 try simp only[ZZ]
 refine tq 11 (.bool true) rfl ⟨RT,R5⟩ ?_
 simp only[ZZ]
 refine AN ?_
 go_wp2
 exact sZxd53):p:=h
theorem qf8(f:Nat->Int)(g:Nat->Bool)(h:Nat->Int)(sl:Value)(ms:List Mp)(hwH:wfH h)(w:World)(hM:qaz w sl ms):
  Calls prog 21 #[.agg (tc f g h sl)] w fun e w'=>∃r:Bool,(r=true↔qbq f h ms)/\e=.returned (.bool r)/\Below w.heap.size w w':=by
 have hB:=Below.refl w.heap.size w
 have hM0:=hM
 obtain⟨a0,cap,hsl,-⟩:=hM0
 obtain⟨n,hn⟩:∃n,n=ms.length:=⟨_,rfl⟩
 rw[←hn] at hsl
 subst hsl
 have HN:Hid (n=ms.length):=hn
 clear hn
 have hlt:=hM.lt
 have C0:=fun w=>qni f g w
 unfold plv at C0
 cases hgp:qcv f with
 | false=>
  rw[hgp] at C0
  have HF:Hid ((false=true)↔qbq f h ms):=by
   show _↔_
   exact⟨fun h=>by simp at h,fun h=>by have:=h.pool;rw[hgp] at this;exact this⟩
  clear hgp
  go_enter func21,ntmps21
  go_wp2_with (first|(refine bx 39 _ _ ?_;intro bT w1 lT RT hb1;replace lT:=Nat.le_trans hB.size lT;replace hB:=hB.trans (hb1.mono hB.size);have hrp:=RT.pool)|(refine wpList_load_mid rfl 35 _ rfl _ _ rfl _ _ hrp underlying35 rfl (qkh f g) ?_;rw[Array.toArray_toList])|(go_at_call 52;go_fit (C0 _);rintro e w5 ⟨rfl,hb5⟩;replace hB:=hB.trans (hb5.mono hB.size)))
  exact sZxd53
 | true=>
  rw[hgp] at C0
  have HG:Hid (qcv f=true):=hgp
  have hwF:=qpn hgp
  clear hgp
  go_enter func21,ntmps21
  go_wp2_with (first|(refine bx 39 _ _ ?_;intro bT w1 lT RT hb1;replace lT:=Nat.le_trans hB.size lT;replace hB:=hB.trans (hb1.mono hB.size);have hrp:=RT.pool)|(refine wpList_load_mid rfl 35 _ rfl _ _ rfl _ _ hrp underlying35 rfl (qkh f g) ?_;rw[Array.toArray_toList])|(go_at_call 52;go_fit (C0 _);rintro e w5 ⟨rfl,hb5⟩;clear hrp;replace RT:=RT.below hb5;replace hB:=hB.trans (hb5.mono hB.size))|(refine ay 39 qb8 ?_;intro bN w2 lN RN hb2;have nTN:=RT.ne lN;replace lN:=Nat.le_trans hB.size lN;replace RT:=RT.below hb2;replace hB:=hB.trans (hb2.mono hB.size);have cM:w2.cell? ⟨bT,29,none⟩=some (.slice a0 n cap):=RT.cell 29))
  go_loopw [15] (fun i W=>∃j:Nat,j<=ms.length/\i=.int .i64 j/\MsOk f h (ms.take j)/\Below w.heap.size w W/\Row 39 W bT (tc f g h (.slice a0 n cap))/\Row 39 W bN (tc (qd0 f (ms.take j)) (fun _=>false) (qdq h (ms.take j)) (.slice none 0 0))) (fun i _=>n-(intOf i).toNat)
  case atStart=>exact⟨0,by omega,rfl,qvg f h,hB,RT,by rw[List.take_zero,q09,q3t];exact RN⟩
  case round=>
   clear hB RT RN cM hb1
   obtain⟨j,hj,rfl,hok,hB,RT,RN⟩:=hrel
   by_cases hlj:j<ms.length
   ·have hjn:(j:Int)<(n:Int):=by have:=HN.out;omega
    have hjc:(j:Int)<=(cap:Int):=by have:=hM.cap;omega
    have hj0:(0:Int)<=(j:Int):=by omega
    have hjw:=qga hlj hM.len
    obtain⟨⟨p,s,i,a,q⟩,hm⟩:∃m,ms[j]=m:=⟨_,rfl⟩
    have hMW:=hM.keep hB hlt
    have hrg:=hMW.at j hlj hm
    have hmem:(p,s,i,a,q)∈ms:=hm▸List.getElem_mem hlj
    have htk:=qic hlj hm
    by_cases hst0:qdb f h (p,s,i,a,q)
    rotate_left
    ·have hst:Hid (¬qdb f h (p,s,i,a,q)):=hst0
     have HF:Hid ((false=true)↔qbq f h ms):=by
      show _↔_
      exact⟨fun h=>by simp at h,fun h=>absurd (h.maps.1 _ hmem) hst0⟩
     clear hst0 hmem htk hm hok
     go_wp2_with (first|(refine qb5 rfl (.tmp 13) (.tmp 15) rfl (.slice a0 n cap) ms hMW rfl j rfl hlj ?_)|(refine wpList_load_mid rfl 46 _ rfl _ _ rfl (mcl (p,s,i,a,q)) _ hrg underlying46 rfl (qby _) ?_;rw[qc2])|(refine ay 46 qa4 ?_;intro b5 w3 l5 R5 hb3;have nT:=RT.ne l5;have nN:=RN.ne l5;replace l5:=Nat.le_trans hB.size l5;replace RT:=RT.below hb3;replace RN:=RN.below hb3;replace hB:=hB.trans (hb3.mono hB.size))|(refine sx 46 _ _ (mc (p,s,i,a,q)) R5 ?_;intro w4 R5 t4;replace RT:=t4.row RT nT;replace RN:=t4.row RN nN;replace hB:=t4.below _ _ l5 hB))
     refine RD (fun W=>Row 39 W bT (tc f g h (.slice a0 n cap))/\Row 46 W b5 (mc (p,s,i,a,q))) ⟨RT,R5⟩ (fun _=>?_)
     refine tk 0 (.agg (tc f g h (.slice a0 n cap))) rfl (yx 39 (.tmp 1) (tc f g h (.slice a0 n cap)) (fun _ h=>h.1)) ⟨RT,R5⟩ (tk 1 (.agg (mc (p,s,i,a,q))) rfl (qav 46 (.tmp 5) rfl kr b5 kr (mc (p,s,i,a,q)) (fun _ h=>h.2) _ underlying46 rfl (qak (p,s,i,a,q))) ⟨RT,R5⟩ ?_)
     simp only[ZZ]
     refine AR [2] ?_
     refine AC (fun K hK=>?_) ?_
     ·go_simp
      go_at_call 53;refine(qnw f g h (.slice a0 n cap) p s i a q _).mono ?_;rintro e w5 ⟨r,hr,rfl,hb5⟩;(try replace hb5:=qa1 hb5);obtain rfl:r=false:=(by cases r with|false=>rfl|true=>exact absurd (hr.1 rfl) hst.out);replace RT:=RT.below hb5;replace RN:=RN.below hb5;replace R5:=R5.below hb5;replace hB:=hB.trans (hb5.mono hB.size);clear hr
      go_wp2_with fail
      refine hK.out _ _ ⟨RT,R5⟩ (fun _=>?_)
      clear hK K
      try simp only[ZZ]
      refine tq 3 (.bool true) rfl ⟨RT,R5⟩ (tq 4 (.bool true) rfl ⟨RT,R5⟩ (tk 5 undef rfl (Or.inr ⟨by kernel_rfl,rfl⟩) ⟨RT,R5⟩ ?_))
      simp only[ZZ]
      refine tk 6 undef rfl (Or.inr ⟨by kernel_rfl,rfl⟩) ⟨RT,R5⟩ (tk 7 undef rfl (Or.inr ⟨by kernel_rfl,rfl⟩) ⟨RT,R5⟩ (tk 8 undef rfl (Or.inr ⟨by kernel_rfl,rfl⟩) ⟨RT,R5⟩ ?_))
      simp only[ZZ]
      refine tk 9 undef rfl (Or.inr ⟨by kernel_rfl,rfl⟩) ⟨RT,R5⟩ ?_
      simp only[ZZ]
      refine AR [10] ?_
      refine AC (fun K hK=>?_) ?_
      ·rw[if_neg (ne_true_of_eq_false kr)]
       exact sZxd54
      exact AZ
     exact AZ
    have hst:Hid (qdb f h (p,s,i,a,q)):=hst0
    cases hmt:qc0 (ms.take j) (p,s,i,a,q) with
    | true=>
     have hmeet:Hid (qc0 (ms.take j) (p,s,i,a,q)=true):=hmt
     have HF:Hid ((false=true)↔qbq f h ms):=by
      show _↔_
      refine⟨fun h=>by simp at h,fun h=>?_⟩
      have h1:=h.maps.2.sublist (List.take_sublist (j+1) ms)
      rw[htk,List.pairwise_append] at h1
      have h2:qc0 (ms.take j) (p,s,i,a,q)=false:=qi6.2 (fun o ho=>h1.2.2 o ho (p,s,i,a,q) zm)
      rw[hmt] at h2
      exact absurd h2 zm
     clear hst0 hmem htk hm hok hmt
     go_wp2_with (first|(refine qb5 rfl (.tmp 13) (.tmp 15) rfl (.slice a0 n cap) ms hMW rfl j rfl hlj ?_)|(refine wpList_load_mid rfl 46 _ rfl _ _ rfl (mcl (p,s,i,a,q)) _ hrg underlying46 rfl (qby _) ?_;rw[qc2])|(refine ay 46 qa4 ?_;intro b5 w3 l5 R5 hb3;have nT:=RT.ne l5;have nN:=RN.ne l5;replace l5:=Nat.le_trans hB.size l5;replace RT:=RT.below hb3;replace RN:=RN.below hb3;replace hB:=hB.trans (hb3.mono hB.size))|(refine sx 46 _ _ (mc (p,s,i,a,q)) R5 ?_;intro w4 R5 t4;replace RT:=t4.row RT nT;replace RN:=t4.row RN nN;replace hB:=t4.below _ _ l5 hB))
     refine RD (fun W=>Row 39 W bT (tc f g h (.slice a0 n cap))/\Row 46 W b5 (mc (p,s,i,a,q))) ⟨RT,R5⟩ (fun _=>?_)
     refine tk 0 (.agg (tc f g h (.slice a0 n cap))) rfl (yx 39 (.tmp 1) (tc f g h (.slice a0 n cap)) (fun _ h=>h.1)) ⟨RT,R5⟩ (tk 1 (.agg (mc (p,s,i,a,q))) rfl (qav 46 (.tmp 5) rfl kr b5 kr (mc (p,s,i,a,q)) (fun _ h=>h.2) _ underlying46 rfl (qak (p,s,i,a,q))) ⟨RT,R5⟩ ?_)
     simp only[ZZ]
     refine AR [2] ?_
     refine AC (fun K hK=>?_) ?_
     ·go_simp
      go_at_call 53;refine(qnw f g h (.slice a0 n cap) p s i a q _).mono ?_;rintro e w5 ⟨r,hr,rfl,hb5⟩;(try replace hb5:=qa1 hb5);obtain rfl:r=true:=hr.2 hst.out;replace RT:=RT.below hb5;replace RN:=RN.below hb5;replace R5:=R5.below hb5;replace hB:=hB.trans (hb5.mono hB.size);clear hr
      go_wp2_with fail
      refine hK.out _ _ ⟨RT,R5⟩ (fun _=>?_)
      clear hK K
      try simp only[ZZ]
      refine tq 3 (.bool false) rfl ⟨RT,R5⟩ (tq 4 (.bool false) rfl ⟨RT,R5⟩ (tq 5 ((.pointer (some ⟨bT,29,none⟩))) rfl ⟨RT,R5⟩ ?_))
      simp only[ZZ]
      refine tk 6 (.slice a0 n cap) rfl (Or.inl ⟨by kernel_rfl,by intro w hS;have hc:w.cell? ⟨bT,29,none⟩=some (.slice a0 n cap):=hS.1.cell 29;go_simp⟩) ⟨RT,R5⟩ (tq 7 (.int .i64 (j:Int)) rfl ⟨RT,R5⟩ (tq 8 (.slice a0 j cap) rfl ⟨RT,R5⟩ ?_))
      simp only[ZZ]
      refine tk 9 (.agg (mc (p,s,i,a,q))) rfl (qav 46 (.tmp 5) rfl kr b5 kr (mc (p,s,i,a,q)) (fun _ h=>h.2) _ underlying46 rfl (qak (p,s,i,a,q))) ⟨RT,R5⟩ ?_
      simp only[ZZ]
      refine AR [10] ?_
      refine AC (fun K hK=>?_) ?_
      ·go_simp
       go_at_call 54;refine(qtp (.slice a0 j cap) (ms.take j) (p,s,i,a,q) _ ((hM.keep hB hlt).take j hj)).mono ?_;rintro e w5 ⟨rfl,hb5⟩;(try replace hb5:=qa1 hb5);rw[hmeet.out];replace RT:=RT.below hb5;replace RN:=RN.below hb5;replace R5:=R5.below hb5;replace hB:=hB.trans (hb5.mono hB.size)
       go_wp2_with fail
       exact sZxd54
      exact AZ
     exact AZ
    | false=>
     have hmeet:Hid (qc0 (ms.take j) (p,s,i,a,q)=false):=hmt
     have HF:Hid (MsOk f h (ms.take (j+1))):=by
      show MsOk _ _ _
      rw[htk];exact(qof f h _ _).2 ⟨hok,hst0,hmt⟩
     have C4:=fun w=>qgp (p,s,i,a,q) w
     have hsb:0<=s/\s<8:=hst0.2.1
     have hin:(1024<=q/\q<1072)/\0<=a/\a<3:=⟨hst0.2.2.2.1,hst0.2.2.2.2.1⟩
     have hI:inP (p,s,i,a,q)=true:=decide_eq_true hin
     have hA:plA (p,s,i,a,q)=a:=if_pos hI
     have hQ:plB (p,s,i,a,q)=(q-1024)/8:=if_pos hI
     rw[hI,hA,hQ] at C4
     obtain⟨kk,hK⟩:∃kk,kk=(q-1024)/8:=⟨_,rfl⟩
     rw[←hK] at C4
     have hpl:qdi a q=a.toNat*6+kk.toNat:=by unfold qdi;rw[hK];omega
     have hK0:0<=kk:=by omega
     have hK6:kk<6:=by omega
     have ha0:0<=a:=hin.2.1
     have ha3:a<3:=hin.2.2
     have hs0:0<=s:=hsb.1
     have hs8:s<8:=hsb.2
     have hoff:a.toNat*6+kk.toNat<18:=by omega
     have hs8n:s.toNat<8:=by omega
     have hsw:wrap64 (s+1)=s+1:=by unfold wrap64;omega
     have haw:wrap64 (a+1)=a+1:=by unfold wrap64;omega
     have hsw2:IntKind.i64.wrap (s+1)=s+1:=by rw[IntKind.wrap_i64];omega
     have haw2:IntKind.i64.wrap (a+1)=a+1:=by rw[IntKind.wrap_i64];omega
     have hup:Hid (upd (qd0 f (ms.take j)) (a.toNat*6+kk.toNat) (s+1)=qd0 f (ms.take (j+1))):=by
      show _=_
      have:=qyv (ms:=ms.take j) hst0
      rw[←htk] at this
      rw[←hpl];exact this
     have hupH:Hid (upd (qdq h (ms.take j)) s.toNat (a+1)=qdq h (ms.take (j+1))):=by
      show _=_
      have:=qy1 (ms:=ms.take j) hst0
      rw[←htk] at this
      exact this
     clear hst0 hmem htk hm hok hmt hI hA hQ hK hpl hin hsb
     go_wp2_with (first|(refine qb5 rfl (.tmp 13) (.tmp 15) rfl (.slice a0 n cap) ms hMW rfl j rfl hlj ?_)|(refine wpList_load_mid rfl 46 _ rfl _ _ rfl (mcl (p,s,i,a,q)) _ hrg underlying46 rfl (qby _) ?_;rw[qc2])|(refine ay 46 qa4 ?_;intro b5 w3 l5 R5 hb3;have nT:=RT.ne l5;have nN:=RN.ne l5;replace l5:=Nat.le_trans hB.size l5;replace RT:=RT.below hb3;replace RN:=RN.below hb3;replace hB:=hB.trans (hb3.mono hB.size))|(refine sx 46 _ _ (mc (p,s,i,a,q)) R5 ?_;intro w4 R5 t4;replace RT:=t4.row RT nT;replace RN:=t4.row RN nN;replace hB:=t4.below _ _ l5 hB))
     refine RD (fun W=>Row 39 W bT (tc f g h (.slice a0 n cap))/\Row 46 W b5 (mc (p,s,i,a,q))) ⟨RT,R5⟩ (fun _=>?_)
     refine tk 0 (.agg (tc f g h (.slice a0 n cap))) rfl (yx 39 (.tmp 1) (tc f g h (.slice a0 n cap)) (fun _ h=>h.1)) ⟨RT,R5⟩ (tk 1 (.agg (mc (p,s,i,a,q))) rfl (qav 46 (.tmp 5) rfl kr b5 kr (mc (p,s,i,a,q)) (fun _ h=>h.2) _ underlying46 rfl (qak (p,s,i,a,q))) ⟨RT,R5⟩ ?_)
     simp only[ZZ]
     refine AR [2] ?_
     refine AC (fun K hK=>?_) ?_
     ·go_simp
      go_at_call 53;refine(qnw f g h (.slice a0 n cap) p s i a q _).mono ?_;rintro e w5 ⟨r,hr,rfl,hb5⟩;(try replace hb5:=qa1 hb5);obtain rfl:r=true:=hr.2 hst.out;replace RT:=RT.below hb5;replace RN:=RN.below hb5;replace R5:=R5.below hb5;replace hB:=hB.trans (hb5.mono hB.size);clear hr
      go_wp2_with fail
      refine hK.out _ _ ⟨RT,R5⟩ (fun _=>?_)
      clear hK K
      try simp only[ZZ]
      refine tq 3 (.bool false) rfl ⟨RT,R5⟩ (tq 4 (.bool false) rfl ⟨RT,R5⟩ (tq 5 ((.pointer (some ⟨bT,29,none⟩))) rfl ⟨RT,R5⟩ ?_))
      simp only[ZZ]
      refine tk 6 (.slice a0 n cap) rfl (Or.inl ⟨by kernel_rfl,by intro w hS;have hc:w.cell? ⟨bT,29,none⟩=some (.slice a0 n cap):=hS.1.cell 29;go_simp⟩) ⟨RT,R5⟩ (tq 7 (.int .i64 (j:Int)) rfl ⟨RT,R5⟩ (tq 8 (.slice a0 j cap) rfl ⟨RT,R5⟩ ?_))
      simp only[ZZ]
      refine tk 9 (.agg (mc (p,s,i,a,q))) rfl (qav 46 (.tmp 5) rfl kr b5 kr (mc (p,s,i,a,q)) (fun _ h=>h.2) _ underlying46 rfl (qak (p,s,i,a,q))) ⟨RT,R5⟩ ?_
      simp only[ZZ]
      refine AR [10] ?_
      refine AC (fun K hK=>?_) ?_
      ·go_simp
       go_at_call 54;refine(qtp (.slice a0 j cap) (ms.take j) (p,s,i,a,q) _ ((hM.keep hB hlt).take j hj)).mono ?_;rintro e w5 ⟨rfl,hb5⟩;(try replace hb5:=qa1 hb5);rw[hmeet.out];replace RT:=RT.below hb5;replace RN:=RN.below hb5;replace R5:=R5.below hb5;replace hB:=hB.trans (hb5.mono hB.size)
       go_wp2_with fail
       refine hK.out _ _ ⟨RT,R5⟩ (fun _=>?_)
       clear hK K
       try simp only[ZZ]
       refine tq 11 (.bool false) rfl ⟨RT,R5⟩ ?_
       simp only[ZZ]
       refine AN ?_
       go_wp2_with (first|(refine lx 46 _ (mc (p,s,i,a,q)) R5 ?_)|(go_at_call 55;go_fit (C4 _);rintro e w5 ⟨rfl,hb5⟩;(try replace hb5:=qa1 hb5);replace RT:=RT.below hb5;replace RN:=RN.below hb5;replace R5:=R5.below hb5;replace hB:=hB.trans (hb5.mono hB.size))|(refine ay 97 qcn ?_;intro b6 w6 l6 R6 hb6;have m5:=R5.ne l6;have n6:=RN.ne l6;have mT:=RT.ne l6;replace l6:=Nat.le_trans hB.size l6;replace R5:=R5.below hb6;replace RT:=RT.below hb6;replace RN:=RN.below hb6;replace hB:=hB.trans (hb6.mono hB.size))|(refine sx 97 _ _ (ic2 a kk) R6 ?_;intro w7 R6 t7;replace R5:=t7.row R5 m5;replace RT:=t7.row RT mT;replace RN:=t7.row RN n6;replace hB:=t7.below _ _ l6 hB))
       refine RD (fun W=>Row 46 W b5 (mc (p,s,i,a,q))/\Row 97 W b6 (ic2 a kk)) ⟨R5,R6⟩ (fun _=>?_)
       refine tq 0 ((.pointer (some ⟨b6,0,none⟩))) rfl ⟨R5,R6⟩ (tk 1 (.int .i64 a) rfl (Or.inl ⟨by kernel_rfl,by intro w hS;have hc:=p0B hS.2;go_simp⟩) ⟨R5,R6⟩ (tq 2 ((.pointer (some ⟨b6,1,none⟩))) rfl ⟨R5,R6⟩ ?_))
       simp only[ZZ]
       refine tk 3 (.int .i64 kk) rfl (Or.inl ⟨by kernel_rfl,by intro w hS;have hc:=p1 hS.2;go_simp⟩) ⟨R5,R6⟩ (tq 4 ((.pointer (some ⟨b5,1,none⟩))) rfl ⟨R5,R6⟩ (tk 5 (.int .i64 s) rfl (Or.inl ⟨by kernel_rfl,by intro w hS;have hc:=m1 hS.1;go_simp⟩) ⟨R5,R6⟩ ?_))
       simp only[ZZ]
       refine tq 6 (.int .i64 (s+1)) rfl ⟨R5,R6⟩ (tq 7 ((.pointer (some ⟨bN,0,none⟩))) rfl ⟨R5,R6⟩ (tq 8 ((.pointer (some ⟨bN,0,none⟩))) rfl ⟨R5,R6⟩ ?_))
       simp only[ZZ]
       refine tq 9 ((.pointer (some ⟨bN,a.toNat*6,none⟩))) rfl ⟨R5,R6⟩ (tq 10 ((.pointer (some ⟨bN,a.toNat*6+kk.toNat,none⟩))) rfl ⟨R5,R6⟩ ?_)
       simp only[ZZ]
       refine AR [11] ?_
       refine AC (fun K hK=>?_) ?_
       ·rw[if_pos kr]
        have fz:=RN.free (a.toNat*6+kk.toNat);have hc:World.cell? _ ⟨bN,a.toNat*6+kk.toNat,none⟩=some (.int .i64 (qd0 f (ms.take j) (a.toNat*6+kk.toNat))):=(RN.cell _).trans (qvl _ _ _ _ _ hoff);(unfold Oper.wp execOp;go_simp);replace R5:=R5.other (b:=bN) (o:=a.toNat*6+kk.toNat) (v:=.int .i64 (s+1)) nN.symm;replace R6:=R6.other (b:=bN) (o:=a.toNat*6+kk.toNat) (v:=.int .i64 (s+1)) n6.symm;replace RT:=RT.other (b:=bN) (o:=a.toNat*6+kk.toNat) (v:=.int .i64 (s+1)) nTN;replace RN:=RN.set (o:=a.toNat*6+kk.toNat) (v:=.int .i64 (s+1));rw[q9h _ _ _ _ _ _ hoff] at RN;replace hB:=hB.setCell (p:=⟨bN,a.toNat*6+kk.toNat,none⟩) lN (.int .i64 (s+1));clear fz hc
        refine hK.out _ _ ⟨R5,R6⟩ (fun _=>?_)
        clear hK K
        try simp only[ZZ]
        refine AN ?_
        have d1:=m1 R5
        have d3:=m3 R5
        have fN:=RN.free (21+s.toNat)
        have cN:World.cell? _ ⟨bN,21+s.toNat,none⟩=some (.int .i64 (qdq h (ms.take j) s.toNat)):=(RN.cell _).trans (qhc _ _ _ _ _ hs8n)
        go_wp2
        replace RT:=RT.other (b:=bN) (o:=21+s.toNat) (v:=.int .i64 (a+1)) nTN
        replace RN:=RN.set (o:=21+s.toNat) (v:=.int .i64 (a+1))
        rw[qsk _ _ _ _ _ _ hs8n,hup.out,hupH.out] at RN
        replace hB:=hB.setCell (p:=⟨bN,21+s.toNat,none⟩) lN (.int .i64 (a+1))
        go_roundw
        case rel=>exact⟨j+1,by omega,by go_num,HF.out,by first|exact hB|exact qea hB|exact qea (qea hB),RT,RN⟩
        case measure=>rw[hjw];exact qek (HN.out.symm▸hlj)
       exact AZ
      exact AZ
     exact AZ
   ·have e:j=ms.length:=by omega
    have hjn:(n:Int)<=(j:Int):=by have:=HN.out;omega
    rw[e,List.take_length] at hok RN
    have hwN:=q5z ms HG.out
    have hwM:=q5e ms hwH
    have hokH:Hid (MsOk f h ms):=hok
    clear e hj hlj hok
    cases hEO0:eqTo (qd0 f ms) f 18 with
    | false=>
     have hEO:Hid (eqTo (qd0 f ms) f 18=false):=hEO0
     have hEH:Hid (eqTo (qdq h ms) h 8=eqTo (qdq h ms) h 8):=(rfl:_=_)
     have HF:Hid ((false=true)↔qbq f h ms):=by
      show _↔_
      refine⟨fun h=>by simp at h,fun G=>?_⟩
      have:=(qjn _ _ _).2 (ql6.1 G).2.2.1
      rw[hEO0] at this
      exact this
     clear hEO0
     exact sZxd52
    | true=>
     have hEO:Hid (eqTo (qd0 f ms) f 18=true):=hEO0
     cases hEH0:eqTo (qdq h ms) h 8 with
     | false=>
      have hEH:Hid (eqTo (qdq h ms) h 8=false):=hEH0
      have HF:Hid ((false=true)↔qbq f h ms):=by
       show _↔_
       refine⟨fun h=>by simp at h,fun G=>?_⟩
       have:=(qjn _ _ _).2 (ql6.1 G).2.2.2.1
       rw[hEH0] at this
       exact this
      clear hEO0 hEH0
      exact sZxd52
     | true=>
      have hEH:Hid (eqTo (qdq h ms) h 8=true):=hEH0
      by_cases hfew:qi2 f ms 8
      ·have HF:Hid ((true=true)↔qbq f h ms):=by
        show _↔_
        exact⟨fun _=>ql6.2 ⟨HG.out,hokH.out,(qjn _ _ _).1 hEO0,(qjn _ _ _).1 hEH0,hfew⟩,fun _=>rfl⟩
       have hfw:Hid (qi2 f ms 8):=hfew
       clear hEO0 hEH0 hfew
       go_wp2_with (first|(refine wpList_load_mid ?_ 32 _ rfl bN 0 rfl (ocl (qd0 f ms)) _ RN.owners underlying32 rfl (qhm _) ?_;(· rfl);rw[qip])|(refine wpList_load_mid ?_ 32 _ rfl bT 0 rfl (ocl f) _ RT.owners underlying32 rfl (qhm _) ?_;(· rfl);rw[qip])|(refine qb1 32 _ _ rfl rfl (oc (qd0 f ms)) (oc f) rfl rfl eqGuardType32 _ _ (qq8 _ _ hwN hwF _) hEO.out ?_)|(refine qe0 36 _ rfl ?_ bN 21 rfl (hcl (qdq h ms)) _ RN.homes underlying36 rfl (qfd _) ?_;(· rfl);rw[qkf])|(refine qe0 36 _ rfl ?_ bT 21 rfl (hcl h) _ RT.homes underlying36 rfl (qfd _) ?_;(· rfl);rw[qkf])|(refine qb1 36 _ _ rfl ?_ (hc8 (qdq h ms)) (hc8 h) rfl rfl eqGuardType36 _ _ (qmy _ _ hwM hwH _) hEH.out ?_;· rfl)|(refine qac 39 _ rfl ?_ _ rfl (tc f g h (.slice a0 n cap)) RT _ underlying39 rfl (qaq _ _ _ _) ?_;· rfl)|(go_at_call 56;refine(qkt f g h (.slice a0 n cap) ms _ (hM.keep hB hlt)).mono ?_;rintro e w5 ⟨r,hr,rfl,hb5⟩;obtain rfl:r=true:=(hr.2 hfw.out);clear hr;replace hB:=hB.trans (hb5.mono hB.size)))
       exact sZxd53
      ·have HF:Hid ((false=true)↔qbq f h ms):=by
        show _↔_
        exact⟨fun h=>by simp at h,fun G=>absurd (ql6.1 G).2.2.2.2 hfew⟩
       have hfw:Hid (¬qi2 f ms 8):=hfew
       clear hEO0 hEH0 hfew
       go_wp2_with (first|(refine wpList_load_mid ?_ 32 _ rfl bN 0 rfl (ocl (qd0 f ms)) _ RN.owners underlying32 rfl (qhm _) ?_;(· rfl);rw[qip])|(refine wpList_load_mid ?_ 32 _ rfl bT 0 rfl (ocl f) _ RT.owners underlying32 rfl (qhm _) ?_;(· rfl);rw[qip])|(refine qb1 32 _ _ rfl rfl (oc (qd0 f ms)) (oc f) rfl rfl eqGuardType32 _ _ (qq8 _ _ hwN hwF _) hEO.out ?_)|(refine qe0 36 _ rfl ?_ bN 21 rfl (hcl (qdq h ms)) _ RN.homes underlying36 rfl (qfd _) ?_;(· rfl);rw[qkf])|(refine qe0 36 _ rfl ?_ bT 21 rfl (hcl h) _ RT.homes underlying36 rfl (qfd _) ?_;(· rfl);rw[qkf])|(refine qb1 36 _ _ rfl ?_ (hc8 (qdq h ms)) (hc8 h) rfl rfl eqGuardType36 _ _ (qmy _ _ hwM hwH _) hEH.out ?_;· rfl)|(refine qac 39 _ rfl ?_ _ rfl (tc f g h (.slice a0 n cap)) RT _ underlying39 rfl (qaq _ _ _ _) ?_;· rfl)|(go_at_call 56;refine(qkt f g h (.slice a0 n cap) ms _ (hM.keep hB hlt)).mono ?_;rintro e w5 ⟨r,hr,rfl,hb5⟩;obtain rfl:r=false:=(by cases r with|false=>rfl|true=>exact absurd (hr.1 rfl) hfw.out);clear hr;replace hB:=hB.trans (hb5.mono hB.size)))
       exact sZxd53
def qjy(f h:Nat->Int)(ms:List Mp)(p s i:Int):Prop:=qbq f h ms/\isP p=true/\(0<=s/\s<8)/\0<=i/\i<=65535
def qpm(f:Nat->Int)(g:Nat->Bool)(h:Nat->Int)(sl:Value)(m:Mp)(took:Bool)(e:Int):Value:=.tuple #[.agg (tc f g h sl),.agg (mc m),.bool took,.int .i64 e]
theorem qej{fn:Func}{p q x y:Tmp}{t u:TypeId}(hf:fn.results=#[.cell p t,.cell q u,.tmp x,.tmp y])(tmps:Array Value)(w:World)(b c:Nat)(cs ds:Array Value)(hp:tmps.getD p undef=.pointer (some ⟨b,0,none⟩))(hq:tmps.getD q undef=.pointer (some ⟨c,0,none⟩))(h:Row t w b cs)(h':Row u w c ds)(d d':TypeDesc)(hu:prog.underlying t=some d)(hu':prog.underlying u=some d')(hd:d.isRow=true)(hd':d'.isRow=true)(hi:(prog.info? t).map (·.size)=some cs.size)(hi':(prog.info? u).map (·.size)=some ds.size):
  (results fn tmps).run prog w=.ok (.tuple #[.agg cs,.agg ds,tmps.getD x undef,tmps.getD y undef]) w:=by
 have hp':tmps[p]?.getD undef=.pointer (some ⟨b,0,none⟩):=by simpa using hp
 have hq':tmps[q]?.getD undef=.pointer (some ⟨c,0,none⟩):=by simpa using hq
 have hl:=run_loadVar_mid (P:=prog) w b 0 t cs.toList d (h.range (fun j v hv=>by rw[Nat.zero_add];simpa using hv)) hu hd (by simpa using hi)
 have hl':=run_loadVar_mid (P:=prog) w c 0 u ds.toList d' (h'.range (fun j v hv=>by rw[Nat.zero_add];simpa using hv)) hu' hd' (by simpa using hi')
 simp only[Array.toArray_toList] at hl hl'
 simp[results,hf,hp',hq',asAddr,hl,hl']
attribute [local irreducible] tc pc
theorem sZxd51{p:Prop}(h:p:=by
 go_enter func135,ntmps135
 go_wp2_with (first|(refine bx 39 _ _ ?_;intro b5 w1 l5 R5 hb1;replace l5:=Nat.le_trans hB.size l5;replace hB:=hB.trans (hb1.mono hB.size))|(refine ax 10 39 qb8 ?_;intro b10 w2 l10 R10 hb2;have n5a:=R5.ne l10;replace l10:=Nat.le_trans hB.size l10;replace R5:=R5.below hb2;replace hB:=hB.trans (hb2.mono hB.size))|(refine ax 11 46 qa4 ?_;intro b11 w3 l11 R11 hb3;have n5b:=R5.ne l11;have nab:=R10.ne l11;replace l11:=Nat.le_trans hB.size l11;replace R5:=R5.below hb3;replace R10:=R10.below hb3;replace hB:=hB.trans (hb3.mono hB.size))|(refine lx 39 (.tmp 5) (tc f g h (.slice a0 n cap)) R5 ?_)|(go_at_call 21;go_fit (CG _ (hM.keep hB hlt));rintro e w5 ⟨r,hr,rfl,hb5⟩;obtain rfl:r=true:=(hr.2 HG.out);clear hr;replace R5:=R5.below hb5;replace R10:=R10.below hb5;replace R11:=R11.below hb5;replace hB:=hB.trans (hb5.mono hB.size))|(go_at_call 83;go_fit (C1 _);rintro e w' ⟨rfl,hw⟩;rw[hw];clear hw w')|(go_at_call 84;go_fit (C2 _);rintro e w' ⟨rfl,hw⟩;rw[hw];clear hw w')|(go_at_call 85;go_fit (C3 _);rintro e w' ⟨rfl,hw⟩;rw[hw];clear hw w')|(refine qab 39 rfl (.tmp 10) _ rfl b10 rfl (tc f g h (.slice a0 n cap)) rfl _ R10 (qen _ _ _ _ _ _ _ _) (qaq _ _ _ _) (qbm _ _ _ _ _ _) ?_;intro w6 R10 t6;replace R11:=t6.row R11 nab.symm;replace hB:=t6.below _ _ l10 hB)|(refine sx 46 (.tmp 11) _ (mc noM) R11 ?_;intro w7 R11 t7;replace R10:=t7.row R10 nab;replace hB:=t7.below _ _ l11 hB))
 ((try simp only[Exit.inBlock,Exit.then]);refine bodyPost_ret (qej rfl _ _ _ _ _ _ rfl rfl R10 R11 _ _ underlying39 underlying46 rfl rfl (qaq _ _ _ _) (qak _)) rfl ⟨rfl,hB⟩)):p:=h
theorem q6m(f:Nat->Int)(g:Nat->Bool)(h:Nat->Int)(sl:Value)(ms:List Mp)(p s i d:Int)(w:World)(hM:qaz w sl ms)(hwH:wfH h)(hP:¬qjy f h ms p s i):
  Calls prog 135 #[.agg (tc f g h sl),.int .i64 p,.int .i64 s,.int .i64 i,.int .i64 d] w fun e w'=>e=.returned (qpm f g h sl noM false 2)/\Below w.heap.size w w':=by
 have hB:=Below.refl w.heap.size w
 have hM0:=hM
 obtain⟨a0,cap,hsl,-⟩:=hM0
 obtain⟨n,hn⟩:∃n,n=ms.length:=⟨_,rfl⟩
 rw[←hn] at hsl
 subst hsl
 have HN:Hid (n=ms.length):=hn
 clear hn
 have hlt:=hM.lt
 have CG:=fun w hM=>qf8 f g h (.slice a0 n cap) ms hwH w hM
 have C1:=fun w=>qfh p w
 have C2:=fun w=>qig s w
 have C3:=fun w=>qhe i w
 by_cases G:qbq f h ms
 rotate_left
 ·have HG:Hid (¬qbq f h ms):=G
  clear G hP
  go_enter func135,ntmps135
  go_wp2_with (first|(refine bx 39 _ _ ?_;intro b5 w1 l5 R5 hb1;replace l5:=Nat.le_trans hB.size l5;replace hB:=hB.trans (hb1.mono hB.size))|(refine ax 10 39 qb8 ?_;intro b10 w2 l10 R10 hb2;have n5a:=R5.ne l10;replace l10:=Nat.le_trans hB.size l10;replace R5:=R5.below hb2;replace hB:=hB.trans (hb2.mono hB.size))|(refine ax 11 46 qa4 ?_;intro b11 w3 l11 R11 hb3;have n5b:=R5.ne l11;have nab:=R10.ne l11;replace l11:=Nat.le_trans hB.size l11;replace R5:=R5.below hb3;replace R10:=R10.below hb3;replace hB:=hB.trans (hb3.mono hB.size))|(refine lx 39 (.tmp 5) (tc f g h (.slice a0 n cap)) R5 ?_)|(go_at_call 21;go_fit (CG _ (hM.keep hB hlt));rintro e w5 ⟨r,hr,rfl,hb5⟩;obtain rfl:r=false:=(by cases r with|false=>rfl|true=>exact absurd (hr.1 rfl) HG.out);clear hr;replace R5:=R5.below hb5;replace R10:=R10.below hb5;replace R11:=R11.below hb5;replace hB:=hB.trans (hb5.mono hB.size))|(go_at_call 83;go_fit (C1 _);rintro e w' ⟨rfl,hw⟩;rw[hw];clear hw w')|(go_at_call 84;go_fit (C2 _);rintro e w' ⟨rfl,hw⟩;rw[hw];clear hw w')|(go_at_call 85;go_fit (C3 _);rintro e w' ⟨rfl,hw⟩;rw[hw];clear hw w')|(refine qab 39 rfl (.tmp 10) _ rfl b10 rfl (tc f g h (.slice a0 n cap)) rfl _ R10 (qen _ _ _ _ _ _ _ _) (qaq _ _ _ _) (qbm _ _ _ _ _ _) ?_;intro w6 R10 t6;replace R11:=t6.row R11 nab.symm;replace hB:=t6.below _ _ l10 hB)|(refine sx 46 (.tmp 11) _ (mc noM) R11 ?_;intro w7 R11 t7;replace R10:=t7.row R10 nab;replace hB:=t7.below _ _ l11 hB))
  ((try simp only[Exit.inBlock,Exit.then]);refine bodyPost_ret (qej rfl _ _ _ _ _ _ rfl rfl R10 R11 _ _ underlying39 underlying46 rfl rfl (qaq _ _ _ _) (qak _)) rfl ⟨rfl,hB⟩)
 have HG:Hid (qbq f h ms):=G
 cases hp:isP p with
 | false=>
  rw[hp] at C1
  clear G hP hp
  exact sZxd51
 | true=>
  rw[hp] at C1
  by_cases hs:0<=s/\s<8
  rotate_left
  ·have e2:(decide (0<=s)&&decide (s<8))=false:=by rw[Bool.eq_false_iff];intro h;simp at h;exact hs h
   rw[e2] at C2
   clear G hP hp hs e2
   exact sZxd51
  have e2:(decide (0<=s)&&decide (s<8))=true:=by simp[hs.1,hs.2]
  rw[e2] at C2
  have e3:(decide (0<=i)&&decide (i<=65535))=false:=by rw[Bool.eq_false_iff];intro h;simp at h;exact hP ⟨G,hp,hs,h⟩
  rw[e3] at C3
  clear G hP hp hs e2 e3
  exact sZxd51
theorem q0s(f:Nat->Int)(g:Nat->Bool)(h:Nat->Int)(sl:Value)(ms:List Mp)(p s i d:Int)(w:World)(hM:qaz w sl ms)(hwH:wfH h)(hP:qjy f h ms p s i)(m:Mp)(hf:ms.find? (inS p s i)=some m):
  Calls prog 135 #[.agg (tc f g h sl),.int .i64 p,.int .i64 s,.int .i64 i,.int .i64 d] w fun e w'=>e=.returned (qpm f g h sl m false 0)/\Below w.heap.size w w':=by
 have hB:=Below.refl w.heap.size w
 have hM0:=hM
 obtain⟨a0,cap,hsl,-⟩:=hM0
 obtain⟨n,hn⟩:∃n,n=ms.length:=⟨_,rfl⟩
 rw[←hn] at hsl
 subst hsl
 have HN:Hid (n=ms.length):=hn
 clear hn
 have hlt:=hM.lt
 have CG:=fun w hM=>qf8 f g h (.slice a0 n cap) ms hwH w hM
 obtain⟨G,hp,hs,hi0,hi1⟩:=hP
 have hs0:0<=s:=hs.1
 have hs8:s<8:=hs.2
 have hs8n:s.toNat<8:=by omega
 have C1:=fun w=>qfh p w
 have C2:=fun w=>qig s w
 have C3:=fun w=>qhe i w
 have e2:(decide (0<=s)&&decide (s<8))=true:=by simp[hs0,hs8]
 have e3:(decide (0<=i)&&decide (i<=65535))=true:=by simp[hi0,hi1]
 rw[hp] at C1
 rw[e2] at C2
 rw[e3] at C3
 have HG:Hid (qbq f h ms):=G
 have CF:=fun w hM=>qlo f g h (.slice a0 n cap) ms p s i w hM
 rw[hf] at CF
 unfold qhw at CF
 clear G hp hs hi0 hi1 e2 e3 hf
 go_enter func135,ntmps135
 go_wp2_with (first|(refine bx 39 _ _ ?_;intro b5 w1 l5 R5 hb1;replace l5:=Nat.le_trans hB.size l5;replace hB:=hB.trans (hb1.mono hB.size))|(refine ax 10 39 qb8 ?_;intro b10 w2 l10 R10 hb2;have n5a:=R5.ne l10;replace l10:=Nat.le_trans hB.size l10;replace R5:=R5.below hb2;replace hB:=hB.trans (hb2.mono hB.size))|(refine ax 11 46 qa4 ?_;intro b11 w3 l11 R11 hb3;have n5b:=R5.ne l11;have nab:=R10.ne l11;replace l11:=Nat.le_trans hB.size l11;replace R5:=R5.below hb3;replace R10:=R10.below hb3;replace hB:=hB.trans (hb3.mono hB.size))|(refine lx 39 (.tmp 5) (tc f g h (.slice a0 n cap)) R5 ?_)|(go_at_call 21;go_fit (CG _ (hM.keep hB hlt));rintro e w5 ⟨r,hr,rfl,hb5⟩;obtain rfl:r=true:=(hr.2 HG.out);clear hr;replace R5:=R5.below hb5;replace R10:=R10.below hb5;replace R11:=R11.below hb5;replace hB:=hB.trans (hb5.mono hB.size))|(go_at_call 83;go_fit (C1 _);rintro e w' ⟨rfl,hw⟩;rw[hw];clear hw w')|(go_at_call 84;go_fit (C2 _);rintro e w' ⟨rfl,hw⟩;rw[hw];clear hw w')|(go_at_call 85;go_fit (C3 _);rintro e w' ⟨rfl,hw⟩;rw[hw];clear hw w')|(go_at_call 29;go_fit (CF _ (hM.keep hB hlt));rintro e w5 ⟨rfl,hb5⟩;replace R5:=R5.below hb5;replace R10:=R10.below hb5;replace R11:=R11.below hb5;replace hB:=hB.trans (hb5.mono hB.size))|(refine ax 14 46 qa4 ?_;intro b14 w8 l14 R14 hb8;have n5c:=R5.ne l14;have nac:=R10.ne l14;have nbc:=R11.ne l14;replace l14:=Nat.le_trans hB.size l14;replace R5:=R5.below hb8;replace R10:=R10.below hb8;replace R11:=R11.below hb8;replace hB:=hB.trans (hb8.mono hB.size))|(refine sx 46 (.tmp 14) _ (mc m) R14 ?_;intro w9 R14 t9;replace R5:=t9.row R5 n5c;replace R10:=t9.row R10 nac;replace R11:=t9.row R11 nbc;replace hB:=t9.below _ _ l14 hB))
 refine RD (fun W=>Row 39 W b5 (tc f g h (.slice a0 n cap))/\Row 46 W b14 (mc m)) ⟨R5,R14⟩ (fun _=>?_)
 refine tk 0 (.agg (tc f g h (.slice a0 n cap))) rfl (yx 39 (.tmp 5) (tc f g h (.slice a0 n cap)) (fun _ h=>h.1)) ⟨R5,R14⟩ (tk 1 (.agg (mc m)) rfl (qav 46 (.tmp 14) rfl kr b14 kr (mc m) (fun _ h=>h.2) _ underlying46 rfl (qak m)) ⟨R5,R14⟩ ?_)
 simp only[ZZ]
 refine AR [2] ?_
 refine AC (fun K hK=>?_) ?_
 ·rw[if_pos kr]
  refine qau 39 (.tmp 10) (.tmp 50) rfl b10 rfl (tc f g h (.slice a0 n cap)) rfl _ R10 (qen _ _ _ _ _ _ _ _) (qaq _ _ _ _) (qbm _ _ _ _ _ _) ?_;intro w16 R10 t16;(try replace t16:=qhp t16);replace R5:=t16.row R5 n5a;replace R11:=t16.row R11 nab.symm;replace R14:=t16.row R14 nac.symm;replace hB:=t16.below _ _ l10 hB
  refine hK.out _ _ ⟨R5,R14⟩ (fun _=>?_)
  clear hK K
  try simp only[ZZ]
  refine AR [3] ?_
  refine AC (fun K hK=>?_) ?_
  ·rw[if_pos kr]
   refine sy 46 (.tmp 11) (.tmp 51) (mc m) R11 ?_;intro w17 R11 t17;(try replace t17:=qhp t17);replace R5:=t17.row R5 n5b;replace R10:=t17.row R10 nab;replace R14:=t17.row R14 nbc.symm;replace hB:=t17.below _ _ l11 hB
   refine hK.out _ _ ⟨R5,R14⟩ (fun _=>?_)
   clear hK K
   try simp only[ZZ]
   refine tq 4 (.bool false) rfl ⟨R5,R14⟩ (tq 5 (.int .i64 0) rfl ⟨R5,R14⟩ ?_)
   simp only[ZZ]
   refine AN ?_
   go_wp2
   ((try simp only[Exit.inBlock,Exit.then]);refine bodyPost_ret (qej rfl _ _ _ _ _ _ rfl rfl R10 R11 _ _ underlying39 underlying46 rfl rfl (qaq _ _ _ _) (qak _)) rfl ⟨rfl,by first|exact hB|exact qea hB⟩)
  exact AZ
 exact AZ
theorem q2q(f:Nat->Int)(g:Nat->Bool)(h:Nat->Int)(sl:Value)(ms:List Mp)(p s i d:Int)(w:World)(hM:qaz w sl ms)(hwH:wfH h)(hP:qjy f h ms p s i)(hf:ms.find? (inS p s i)=none)(hc:cntM ms s=12):
  Calls prog 135 #[.agg (tc f g h sl),.int .i64 p,.int .i64 s,.int .i64 i,.int .i64 d] w fun e w'=>e=.returned (qpm f g h sl noM false 6)/\Below w.heap.size w w':=by
 have hB:=Below.refl w.heap.size w
 have hM0:=hM
 obtain⟨a0,cap,hsl,-⟩:=hM0
 obtain⟨n,hn⟩:∃n,n=ms.length:=⟨_,rfl⟩
 rw[←hn] at hsl
 subst hsl
 have HN:Hid (n=ms.length):=hn
 clear hn
 have hlt:=hM.lt
 have CG:=fun w hM=>qf8 f g h (.slice a0 n cap) ms hwH w hM
 obtain⟨G,hp,hs,hi0,hi1⟩:=hP
 have hs0:0<=s:=hs.1
 have hs8:s<8:=hs.2
 have hs8n:s.toNat<8:=by omega
 have C1:=fun w=>qfh p w
 have C2:=fun w=>qig s w
 have C3:=fun w=>qhe i w
 have e2:(decide (0<=s)&&decide (s<8))=true:=by simp[hs0,hs8]
 have e3:(decide (0<=i)&&decide (i<=65535))=true:=by simp[hi0,hi1]
 rw[hp] at C1
 rw[e2] at C2
 rw[e3] at C3
 have HG:Hid (qbq f h ms):=G
 have CF:=fun w hM=>qlo f g h (.slice a0 n cap) ms p s i w hM
 rw[hf] at CF
 unfold qhw at CF
 have CC:=fun w hM=>qh5 f g h (.slice a0 n cap) ms s w hM
 rw[hc] at CC
 clear G hp hs hi0 hi1 e2 e3 hf hc
 go_enter func135,ntmps135
 go_wp2_with (first|(refine bx 39 _ _ ?_;intro b5 w1 l5 R5 hb1;replace l5:=Nat.le_trans hB.size l5;replace hB:=hB.trans (hb1.mono hB.size))|(refine ax 10 39 qb8 ?_;intro b10 w2 l10 R10 hb2;have n5a:=R5.ne l10;replace l10:=Nat.le_trans hB.size l10;replace R5:=R5.below hb2;replace hB:=hB.trans (hb2.mono hB.size))|(refine ax 11 46 qa4 ?_;intro b11 w3 l11 R11 hb3;have n5b:=R5.ne l11;have nab:=R10.ne l11;replace l11:=Nat.le_trans hB.size l11;replace R5:=R5.below hb3;replace R10:=R10.below hb3;replace hB:=hB.trans (hb3.mono hB.size))|(refine lx 39 (.tmp 5) (tc f g h (.slice a0 n cap)) R5 ?_)|(go_at_call 21;go_fit (CG _ (hM.keep hB hlt));rintro e w5 ⟨r,hr,rfl,hb5⟩;obtain rfl:r=true:=(hr.2 HG.out);clear hr;replace R5:=R5.below hb5;replace R10:=R10.below hb5;replace R11:=R11.below hb5;replace hB:=hB.trans (hb5.mono hB.size))|(go_at_call 83;go_fit (C1 _);rintro e w' ⟨rfl,hw⟩;rw[hw];clear hw w')|(go_at_call 84;go_fit (C2 _);rintro e w' ⟨rfl,hw⟩;rw[hw];clear hw w')|(go_at_call 85;go_fit (C3 _);rintro e w' ⟨rfl,hw⟩;rw[hw];clear hw w')|(go_at_call 29;go_fit (CF _ (hM.keep hB hlt));rintro e w5 ⟨rfl,hb5⟩;replace R5:=R5.below hb5;replace R10:=R10.below hb5;replace R11:=R11.below hb5;replace hB:=hB.trans (hb5.mono hB.size))|(refine ax 14 46 qa4 ?_;intro b14 w8 l14 R14 hb8;have n5c:=R5.ne l14;have nac:=R10.ne l14;have nbc:=R11.ne l14;replace l14:=Nat.le_trans hB.size l14;replace R5:=R5.below hb8;replace R10:=R10.below hb8;replace R11:=R11.below hb8;replace hB:=hB.trans (hb8.mono hB.size))|(refine sx 46 (.tmp 14) _ (mc noM) R14 ?_;intro w9 R14 t9;replace R5:=t9.row R5 n5c;replace R10:=t9.row R10 nac;replace R11:=t9.row R11 nbc;replace hB:=t9.below _ _ l14 hB)|(go_at_call 87;go_fit (CC _ (hM.keep hB hlt));rintro e w5 ⟨rfl,hb5⟩;(try clear R14);replace R5:=R5.below hb5;replace R10:=R10.below hb5;replace R11:=R11.below hb5;replace hB:=hB.trans (hb5.mono hB.size))|(refine qab 39 rfl (.tmp 10) _ rfl b10 rfl (tc f g h (.slice a0 n cap)) rfl _ R10 (qen _ _ _ _ _ _ _ _) (qaq _ _ _ _) (qbm _ _ _ _ _ _) ?_;intro w6 R10 t6;replace R11:=t6.row R11 nab.symm;replace hB:=t6.below _ _ l10 hB)|(refine sx 46 (.tmp 11) _ (mc noM) R11 ?_;intro w7 R11 t7;replace R10:=t7.row R10 nab;replace hB:=t7.below _ _ l11 hB))
 ((try simp only[Exit.inBlock,Exit.then]);refine bodyPost_ret (qej rfl _ _ _ _ _ _ rfl rfl R10 R11 _ _ underlying39 underlying46 rfl rfl (qaq _ _ _ _) (qak _)) rfl ⟨rfl,hB⟩)
theorem q4y(f:Nat->Int)(g:Nat->Bool)(h:Nat->Int)(sl:Value)(ms:List Mp)(p s i d:Int)(w:World)(hM:qaz w sl ms)(hwH:wfH h)(hd:(Lit.int .i64 d).wf=true)(hP:qjy f h ms p s i)(hf:ms.find? (inS p s i)=none)(hc:cntM ms s≠12)(he:(qbe f g h ms p s d).e≠0):
  Calls prog 135 #[.agg (tc f g h sl),.int .i64 p,.int .i64 s,.int .i64 i,.int .i64 d] w fun e w'=>e=.returned (qpm f g h sl noM false (qbe f g h ms p s d).e)/\Below w.heap.size w w':=by
 have hB:=Below.refl w.heap.size w
 have hM0:=hM
 obtain⟨a0,cap,hsl,-⟩:=hM0
 obtain⟨n,hn⟩:∃n,n=ms.length:=⟨_,rfl⟩
 rw[←hn] at hsl
 subst hsl
 have HN:Hid (n=ms.length):=hn
 clear hn
 have hlt:=hM.lt
 have CG:=fun w hM=>qf8 f g h (.slice a0 n cap) ms hwH w hM
 obtain⟨G,hp,hs,hi0,hi1⟩:=hP
 have hs0:0<=s:=hs.1
 have hs8:s<8:=hs.2
 have hs8n:s.toNat<8:=by omega
 have C1:=fun w=>qfh p w
 have C2:=fun w=>qig s w
 have C3:=fun w=>qhe i w
 have e2:(decide (0<=s)&&decide (s<8))=true:=by simp[hs0,hs8]
 have e3:(decide (0<=i)&&decide (i<=65535))=true:=by simp[hi0,hi1]
 rw[hp] at C1
 rw[e2] at C2
 rw[e3] at C3
 have HG:Hid (qbq f h ms):=G
 have CF:=fun w hM=>qlo f g h (.slice a0 n cap) ms p s i w hM
 rw[hf] at CF
 unfold qhw at CF
 have CC:=fun w hM=>qh5 f g h (.slice a0 n cap) ms s w hM
 have dc:(((cntM ms s:Nat):Int)==12)=false:=by simp;omega
 have CR:=fun w hM=>qwa f g h (.slice a0 n cap) ms p s d w hM G hs hd
 unfold q00 at CR
 have dE:((qbe f g h ms p s d).e != 0)=true:=by simp[he]
 generalize qbe f g h ms p s d=r at *
 obtain⟨rf,rh,rq,rt,re⟩:=r
 simp only at CR dE he ⊢
 generalize cntM ms s=cc at *
 clear G hp hs hi0 hi1 e2 e3 hf hc he
 go_enter func135,ntmps135
 go_wp2_with (first|(refine bx 39 _ _ ?_;intro b5 w1 l5 R5 hb1;replace l5:=Nat.le_trans hB.size l5;replace hB:=hB.trans (hb1.mono hB.size))|(refine ax 10 39 qb8 ?_;intro b10 w2 l10 R10 hb2;have n5a:=R5.ne l10;replace l10:=Nat.le_trans hB.size l10;replace R5:=R5.below hb2;replace hB:=hB.trans (hb2.mono hB.size))|(refine ax 11 46 qa4 ?_;intro b11 w3 l11 R11 hb3;have n5b:=R5.ne l11;have nab:=R10.ne l11;replace l11:=Nat.le_trans hB.size l11;replace R5:=R5.below hb3;replace R10:=R10.below hb3;replace hB:=hB.trans (hb3.mono hB.size))|(refine lx 39 (.tmp 5) (tc f g h (.slice a0 n cap)) R5 ?_)|(go_at_call 21;go_fit (CG _ (hM.keep hB hlt));rintro e w5 ⟨r,hr,rfl,hb5⟩;obtain rfl:r=true:=(hr.2 HG.out);clear hr;replace R5:=R5.below hb5;replace R10:=R10.below hb5;replace R11:=R11.below hb5;replace hB:=hB.trans (hb5.mono hB.size))|(go_at_call 83;go_fit (C1 _);rintro e w' ⟨rfl,hw⟩;rw[hw];clear hw w')|(go_at_call 84;go_fit (C2 _);rintro e w' ⟨rfl,hw⟩;rw[hw];clear hw w')|(go_at_call 85;go_fit (C3 _);rintro e w' ⟨rfl,hw⟩;rw[hw];clear hw w')|(go_at_call 29;go_fit (CF _ (hM.keep hB hlt));rintro e w5 ⟨rfl,hb5⟩;replace R5:=R5.below hb5;replace R10:=R10.below hb5;replace R11:=R11.below hb5;replace hB:=hB.trans (hb5.mono hB.size))|(refine ax 14 46 qa4 ?_;intro b14 w8 l14 R14 hb8;have n5c:=R5.ne l14;have nac:=R10.ne l14;have nbc:=R11.ne l14;replace l14:=Nat.le_trans hB.size l14;replace R5:=R5.below hb8;replace R10:=R10.below hb8;replace R11:=R11.below hb8;replace hB:=hB.trans (hb8.mono hB.size))|(refine sx 46 (.tmp 14) _ (mc noM) R14 ?_;intro w9 R14 t9;replace R5:=t9.row R5 n5c;replace R10:=t9.row R10 nac;replace R11:=t9.row R11 nbc;replace hB:=t9.below _ _ l14 hB)|(go_at_call 87;go_fit (CC _ (hM.keep hB hlt));rintro e w5 ⟨rfl,hb5⟩;(try clear R14);replace R5:=R5.below hb5;replace R10:=R10.below hb5;replace R11:=R11.below hb5;replace hB:=hB.trans (hb5.mono hB.size))|(go_at_call 166;go_fit (CR _ (hM.keep hB hlt));rintro e w5 ⟨rfl,hb5⟩;replace R5:=R5.below hb5;replace R10:=R10.below hb5;replace R11:=R11.below hb5;replace hB:=hB.trans (hb5.mono hB.size))|(refine ax 16 39 qb8 ?_;intro b16 w10 l16 R16 hb10;have n5d:=R5.ne l16;have nad:=R10.ne l16;have nbd:=R11.ne l16;replace l16:=Nat.le_trans hB.size l16;replace R5:=R5.below hb10;replace R10:=R10.below hb10;replace R11:=R11.below hb10;replace hB:=hB.trans (hb10.mono hB.size))|(refine qab 39 rfl (.tmp 16) _ rfl b16 rfl (tc rf g rh (.slice a0 n cap)) rfl _ R16 (qen _ _ _ _ _ _ _ _) (qaq _ _ _ _) (qbm _ _ _ _ _ _) ?_;intro w11 R16 t11;replace R5:=t11.row R5 n5d;replace R10:=t11.row R10 nad;replace R11:=t11.row R11 nbd;replace hB:=t11.below _ _ l16 hB;have c16:World.cell? _ ⟨b16,21+s.toNat,none⟩=some (.int .i64 (rh s.toNat)):=(R16.cell _).trans (qhc _ _ _ _ _ hs8n))|(refine qab 39 rfl (.tmp 10) _ rfl b10 rfl (tc f g h (.slice a0 n cap)) rfl _ R10 (qen _ _ _ _ _ _ _ _) (qaq _ _ _ _) (qbm _ _ _ _ _ _) ?_;intro w6 R10 t6;replace R11:=t6.row R11 nab.symm;replace hB:=t6.below _ _ l10 hB)|(refine sx 46 (.tmp 11) _ (mc noM) R11 ?_;intro w7 R11 t7;replace R10:=t7.row R10 nab;replace hB:=t7.below _ _ l11 hB))
 ((try simp only[Exit.inBlock,Exit.then]);refine bodyPost_ret (qej rfl _ _ _ _ _ _ rfl rfl R10 R11 _ _ underlying39 underlying46 rfl rfl (qaq _ _ _ _) (qak _)) rfl ⟨rfl,hB⟩)
end Go.Proofs.YtnicenfgemkdnaaGreatDoor
