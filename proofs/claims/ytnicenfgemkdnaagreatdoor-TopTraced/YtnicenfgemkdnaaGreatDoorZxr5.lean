/-
  Of what a law stands on.
-/
import Derived.Test.YtnicenfgemkdnaaGreatDoorZxr3
set_option linter.unusedSimpArgs false
set_option linter.unusedVariables false
namespace Go.Proofs.YtnicenfgemkdnaaGreatDoor
open _root_.Go.Proofs.Tryz
set_option maxHeartbeats 16000000
set_option maxRecDepth 100000
open Go.ChangeShapes Go.WideShapes Go.ChangeAt Go.RowKit
theorem qgeb(l:List UInt8)(a b:Nat)(h:a+b<=l.length):b<=(l.drop a).length:=by rw[List.length_drop];omega
theorem qdib{w w':World}(h:w'=w.drew):Below w.heap.size w w':=by subst h;exact(Below.refl _ _).drew
theorem qflb{i c:Nat}(h:i<c):c-((i:Int)+1).toNat<c-((i:Int)).toNat:=by omega
theorem sZxr53{p:Prop}(h:p:=by
 go_enter func90,ntmps90
 go_wp2_with (first|((with_reducible refine gB 139 1 ?_);refine bx 139 _ (hdc len time seq kind) ?_;intro b3 w2 g3 R3 hb2;have n3:b3≠p:=(fun e=>by have:=R.lt;omega);replace hne:=hE.new g3;replace R:=Row.below R hb2;replace hE:=hE.below hb2;replace hB:=hB.trans (hb2.mono (Nat.le_trans hpl hB.size)))|((with_reducible refine gL 3 8 ?_);refine fx R3 _ 0 _ ?_))
 go_ret
 exact⟨rfl,hB⟩):p:=h
theorem qfeb(p:Nat)(l:List UInt8)(d:Bool)(v:Value)(es:List Ev)(len time seq kind:Int)(w:World)(R:Rdr w p (l.drop 20) d v)(hE:EvO w (p+1) v es)(hk0:20<=len)(hk1:len<=(l.length:Int))(hk2:len<=65535)(hl:l.length<=140737488351232)(hes:es.length<=4294967295)(hf:len=20\/(len-20)%21≠0):
  Calls prog 90 #[.pointer (some ⟨p,0,none⟩),.agg (hdc len time seq kind)] w fun x w'=>x=.returned (.int .i64 1)/\Below p w w':=by
 have hB:=Below.refl p w
 have hpl:p<=w.heap.size:=Nat.le_of_lt R.lt
 have hne:v.ownBlock≠some w.heap.size:=hE.new (Nat.le_refl _)
 have hrem:(len-20).tmod 21=(len-20)%21:=Int.tmod_eq_emod_of_nonneg om
 by_cases h20:len=20
 ·have g0:(len-20==0)=true:=by simp;omega
  clear hf h20 hrem
  exact sZxr53
 ·have g0:(len-20==0)=false:=by simp;omega
  have g1:((len-20)%21 != 0)=true:=by simp;omega
  clear hf h20
  exact sZxr53
theorem sZxr51{p:Prop}(h:p:=by
 refine hK.out _ _ R6 (fun _=>?_)
 clear hK K
 try simp only[ZZ]
 refine AR [7] ?_
 refine AC (fun K hK=>?_) ?_
 ·rw[if_pos kr]
  refine q45 (.tmp 47) (.tmp 49) rfl hE R9 kr kr om (by have:=R.lt;omega) ?_;intro v8 w8 hE8 hG8;have hne8:=Grew.ne hG8 hne R3.lt;have hp8:v2.ownBlock≠some p:=(fun e=>by have:=(hE.ge p e).1;omega);replace R3:=hG8.row R3 hne;replace R6:=hG8.row R6 hne6;replace R:=hG8.row R hp8;replace hB:=hB.trans (hG8.below (Nat.le_trans hpl hB.size) (fun g hg=>by have:=(hE.ge g hg).1;omega));replace hE:=hE8;obtain⟨sa,sc,rfl⟩:=hE.slice
  refine hK.out _ _ R6 (fun _=>?_)
  clear hK K
  try simp only[ZZ]
  refine tq 8 (.pointer (some ⟨p,0,none⟩)) rfl R6 (tq 9 (.pointer (some ⟨p,2,none⟩)) rfl R6 ?_)
  simp only[ZZ]
  refine AR [10] ?_
  refine AC (fun K hK=>?_) ?_
  ·rw[if_pos kr]
   refine qedb R (.tmp 52) (.tmp 50) rfl 2 kr sa (es2++[rdE q]).length sc kr v2 rfl (rc (q.drop 21) d (.slice sa (es2++[rdE q]).length sc)) (qe4b _ _ _ _) ?_;intro w9 R t9;replace R3:=t9.row R3 n3;replace R6:=t9.row R6 n6;replace hE:=hE.turned t9 (fun e=>by have:=(hE.ge p e).1;omega);replace hB:=t9.below _ _ (Nat.le_refl _) hB
   refine hK.out _ _ R6 (fun _=>?_)
   clear hK K
   try simp only[ZZ]
   refine AN ?_
   go_wp2
   go_roundw
   case rel=>first|exact⟨k+1,by omega,by go_num,_,_,HDR.out▸R,hE,by rw[HMM.out];exact HV3,(by show _=_;rw[List.length_append,HS.out];rfl),hB,R3,hne8⟩|((repeat apply Exists.intro);exact⟨⟨k+1,by omega,by go_num,_,_,HDR.out▸R,hE,by rw[HMM.out];exact HV3,(by show _=_;rw[List.length_append,HS.out];rfl),hB,R3,hne8⟩,rfl⟩)
   case measure=>(first|rw[hkw]|skip);exact qflb hlt
  exact AZ
 exact AZ):p:=h
theorem sZxr54{p:Prop}(h:p:=by
 refine hK.out _ _ ⟨R6,R3⟩ (fun _=>?_)
 clear hK K
 try simp only[ZZ]
 refine tq 15 (.bool true) rfl ⟨R6,R3⟩ ?_
 simp only[ZZ]
 refine AN ?_
 go_wp2
 go_ret
 exact⟨Or.inl ⟨rfl,HV2.out.trans (qd3b hbad)⟩,by first|exact hB|exact qcxb hB⟩):p:=h
theorem sZxr52{p:Prop}(h:p:=by
 simp only[ZZ]
 refine tq 9 (.bool true) rfl ⟨R6,R3⟩ (tq 10 (.bool true) rfl ⟨R6,R3⟩ (tk 11 undef rfl (Or.inr ⟨by kernel_rfl,rfl⟩) ⟨R6,R3⟩ ?_))
 simp only[ZZ]
 refine tk 12 undef rfl (Or.inr ⟨by kernel_rfl,rfl⟩) ⟨R6,R3⟩ (tk 13 undef rfl (Or.inr ⟨by kernel_rfl,rfl⟩) ⟨R6,R3⟩ ?_)
 simp only[ZZ]
 refine AR [14] ?_
 refine AC (fun K hK=>?_) ?_
 ·rw[if_neg (ne_true_of_eq_false kr)]
  exact sZxr54
 exact AZ):p:=h
theorem qgjb(p:Nat)(l:List UInt8)(d:Bool)(v:Value)(es:List Ev)(len time seq kind:Int)(w:World)(R:Rdr w p (l.drop 20) d v)(hE:EvO w (p+1) v es)(hk0:20<=len)(hk1:len<=(l.length:Int))(hk2:len<=65535)(hl:l.length<=140737488351232)(hes:es.length<=4294967295)(hf:¬(len=20\/(len-20)%21≠0)):
  Calls prog 90 #[.pointer (some ⟨p,0,none⟩),.agg (hdc len time seq kind)] w fun x w'=>((x=.returned (.int .i64 2)/\evs time ((len-20)/21).toNat (l.drop 20) es=none)\/(x=.returned (.int .i64 0)/\∃v' es',evs time ((len-20)/21).toNat (l.drop 20) es=some es'/\Rdr w' p (l.drop len.toNat) d v'/\EvO w' (p+1) v' es'))/\Below p w w':=by
 have hB:=Below.refl p w
 have hpl:p<=w.heap.size:=Nat.le_of_lt R.lt
 have hne:v.ownBlock≠some w.heap.size:=hE.new (Nat.le_refl _)
 have hrem:(len-20).tmod 21=(len-20)%21:=Int.tmod_eq_emod_of_nonneg om
 have hquo:(len-20).tdiv 21=(len-20)/21:=Int.tdiv_eq_ediv_of_nonneg om
 obtain⟨c,hc⟩:∃c:Nat,(len-20)/21=(c:Int):=⟨((len-20)/21).toNat,by omega⟩
 have hlc:len=20+21*(c:Int):=by omega
 have hc2:c<=3120:=by omega
 have hcl:20+21*c<=l.length:=by omega
 have HT:Hid (((len-20)/21).toNat=c):=by show _=_;omega
 have HL:Hid (len.toNat=20+21*c):=by show _=_;omega
 rw[hc] at hquo
 have g0:(len-20==0)=false:=by simp;omega
 have g1:((len-20)%21 != 0)=false:=by simp;omega
 rw[HT.out,HL.out]
 clear hf hc hlc
 go_enter func90,ntmps90
 go_wp2_with (first|((with_reducible refine gB 139 1 ?_);refine bx 139 _ (hdc len time seq kind) ?_;intro b3 w2 g3 R3 hb2;have n3:b3≠p:=(fun e=>by have:=R.lt;omega);replace hne:=hE.new g3;replace R:=Row.below R hb2;replace hE:=hE.below hb2;replace hB:=hB.trans (hb2.mono (Nat.le_trans hpl hB.size)))|((with_reducible refine gL 3 8 ?_);refine fx R3 _ 0 _ ?_))
 go_loopw [20] (fun i W=>∃k:Nat,k<=c/\i=.int .i64 (k:Int)/\∃v2 es2,Rdr W p (l.drop (20+21*k)) d v2/\EvO W (p+1) v2 es2/\Hid (evs time c (l.drop 20) es=evs time (c-k) (l.drop (20+21*k)) es2)/\Hid (es2.length=es.length+k)/\Below p w W/\Row 139 W b3 (hdc len time seq kind)/\v2.ownBlock≠some b3) (fun i _=>c-(intOf i).toNat)
 case atStart=>exact⟨0,by omega,rfl,v,es,R,hE,rfl,rfl,hB,R3,hne⟩
 case round=>
  clear hB R R3 hE hne hquo hrem g0 g1 hk0 hk1 hk2
  obtain⟨k,hk,rfl,v2,es2,R,hE,HV,HS,hB,R3,hne⟩:=hrel
  by_cases hlt:k<c
  ·have hkc:(k:Int)<(c:Int):=by omega
   have hkw:wrap64 ((k:Int)+1)=(k:Int)+1:=by unfold wrap64;omega
   have hl21:21<=(l.drop (20+21*k)).length:=qgeb l _ _ om
   have hll:(l.drop (20+21*k)).length<=140737488351232:=by rw[List.length_drop];omega
   have hs2:es2.length<=4294970500:=by have:=HS.out;omega
   obtain⟨m,hm⟩:∃m,c-k=m+1:=⟨c-k-1,by omega⟩
   have HV2:Hid (evs time c (l.drop 20) es=evs time (m+1) (l.drop (20+21*k)) es2):=by show _=_;rw[←hm];exact HV.out
   have HDR:Hid ((l.drop (20+21*k)).drop 21=l.drop (20+21*(k+1))):=by show _=_;rw[List.drop_drop];congr 1
   have HMM:Hid (c-(k+1)=m):=by show _=_;omega
   clear HV hm
   obtain⟨q,hq⟩:∃q,l.drop (20+21*k)=q:=⟨_,rfl⟩
   rw[hq] at R HV2 hl21 hll HDR
   have hep:es2.length<=3518437208780:=by omega
   have EV:=fun(w:World) (R:Rdr w p q d v2)=>qfvb p q d v2 w R hl21 hll
   have EN:=fun(w:World) (R:Rdr w p q d v2)=>qf8b p q d v2 w R hl21 hll
   clear hq
   by_cases hok:okR q
   ·have CY:=fun(w:World) (R:Rdr w p q d v2)=>EV w R hok
    have ht0:=hok.1.1.1
    have ht1:=hok.1.1.2
    clear EV EN
    by_cases htm':(rdE q).t%4294967296=time
    ·have htm:((rdE q).t%4294967296 != time)=false:=by simpa using htm'
     rcases hla:qcyb es2 (rdE q).t with _|_
     ·have HV3:Hid (evs time c (l.drop 20) es=evs time m (l.drop (20+21*(k+1))) (es2++[rdE q])):=by show _=_;rw[HV2.out,qd4b ⟨hok,htm',hla⟩,HDR.out]
      clear HV2 hok htm'
      go_upto_region 7 with(first|(go_at_call 124;refine(CY _ R).mono ?_;rintro x w5 ⟨rfl,R',hM5⟩;replace R:=R';clear R';replace R3:=hM5.row R3 n3;replace hE:=hE.moved hM5 om;replace hB:=hB.trans (hM5.below (Nat.le_trans hpl hB.size) (Nat.le_refl _));clear hM5)|((with_reducible refine gA 105 ?_);refine ax 6 105 qr3 ?_;intro b6 w3 g6 R6 hb3;have n6:b6≠p:=(fun e=>by have:=R.lt;omega);have n36:=R3.ne g6;have hne6:=hE.new g6;have gp6:p<=b6:=Nat.le_trans (Nat.le_of_lt R.lt) g6;replace R:=Row.below R hb3;replace R3:=R3.below hb3;replace hE:=hE.below hb3;replace hB:=hB.trans (hb3.mono (Nat.le_trans hpl hB.size)))|((with_reducible refine gS 105 6 25 ?_);refine sx 105 (.tmp 6) (.tmp 25) (ec (rdE q)) R6 ?_;intro w4 R6 t4;replace R:=t4.row R n6.symm;replace R3:=t4.row R3 n36;replace hE:=hE.turned t4 hne6;replace hB:=t4.below _ _ gp6 hB))
      refine RD (fun W=>Row 105 W b6 (ec (rdE q))/\Row 139 W b3 (hdc len time seq kind)) ⟨R6,R3⟩ (fun _=>?_)
      refine tq 0 (.bool true) rfl ⟨R6,R3⟩ (tq 1 (.bool false) rfl ⟨R6,R3⟩ (tq 2 (.bool false) rfl ⟨R6,R3⟩ ?_))
      simp only[ZZ]
      refine tq 3 (.pointer (some ⟨b6,0,none⟩)) rfl ⟨R6,R3⟩ (tk 4 (.int .i64 (rdE q).t) rfl (qim (.tmp 30) rfl kr b6 0 kr (rdE q).t (fun w h=>(h.1.cell 0).trans rfl)) ⟨R6,R3⟩ (tq 6 (.pointer (some ⟨b3,1,none⟩)) rfl ⟨R6,R3⟩ ?_))
      simp only[ZZ]
      refine tk 7 (.int .i64 time) rfl (qim (.tmp 33) rfl kr b3 1 kr time (fun w h=>(h.2.cell 1).trans rfl)) ⟨R6,R3⟩ ?_
      simp only[ZZ]
      refine AR [5] ?_
      refine AC (fun K hK=>?_) ?_
      ·go_simp
       go_at_call 125;refine(q0t _ _ ht0 ht1).mono ?_;rintro x w5 ⟨rfl,hw5⟩;have hb5:=qdib hw5;replace R:=Row.below R hb5;replace R3:=R3.below hb5;replace R6:=R6.below hb5;replace hE:=hE.below hb5;replace hB:=hB.trans (hb5.mono (Nat.le_trans hpl hB.size));clear hw5
       go_wp2_with fail
       refine hK.out _ _ ⟨R6,R3⟩ (fun _=>?_)
       clear hK K
       try simp only[ZZ]
       refine tk 8 (.bool false) rfl (qrk 3 (.tmp 32) (.tmp 34) ((rdE q).t%4294967296) time false rfl kr kr kr htm) ⟨R6,R3⟩ (tq 9 (.bool false) rfl ⟨R6,R3⟩ (tq 10 (.bool false) rfl ⟨R6,R3⟩ ?_))
       simp only[ZZ]
       refine tq 11 (.pointer (some ⟨p,0,none⟩)) rfl ⟨R6,R3⟩ (tq 12 (.pointer (some ⟨b6,0,none⟩)) rfl ⟨R6,R3⟩ (tk 13 (.int .i64 (rdE q).t) rfl (qim (.tmp 39) rfl kr b6 0 kr (rdE q).t (fun w h=>(h.1.cell 0).trans rfl)) ⟨R6,R3⟩ ?_))
       simp only[ZZ]
       refine AR [14] ?_
       refine AC (fun K hK=>?_) ?_
       ·go_simp
        go_at_call 126;refine(qdsb p _ d v2 es2 _ _ R (hE.at hep)).mono ?_;rintro x w6 ⟨rfl,hw6⟩;subst hw6;rw[hla]
        go_wp2_with fail
        refine hK.out _ _ ⟨R6,R3⟩ (fun _=>?_)
        clear hK K
        try simp only[ZZ]
        refine tq 15 (.bool false) rfl ⟨R6,R3⟩ ?_
        simp only[ZZ]
        refine AN ?_
        go_upto_region 9 with fail
        refine RD (fun W=>Row 105 W b6 (ec (rdE q))) R6 (fun _=>?_)
        refine tq 0 (.pointer (some ⟨p,0,none⟩)) rfl R6 (tq 1 (.pointer (some ⟨p,0,none⟩)) rfl R6 (tq 2 (.pointer (some ⟨p,0,none⟩)) rfl R6 ?_))
        simp only[ZZ]
        refine tq 3 (.pointer (some ⟨p,2,none⟩)) rfl R6 (tk 5 (.agg (ec (rdE q))) rfl (yx 105 (.tmp 6) (ec (rdE q)) (fun w h=>h)) R6 ?_)
        simp only[ZZ]
        refine AR [4,6] ?_
        refine AC (fun K hK=>?_) ?_
        ·rw[if_pos kr]
         refine qepb R (.tmp 46) rfl 2 kr v2 rfl ?_
         refine hK.out _ _ R6 (fun _=>?_)
         clear hK K
         try simp only[ZZ]
         refine AR [6] ?_
         refine AC (fun K hK=>?_) ?_
         ·rw[if_pos kr]
          refine q26 (.tmp 48) rfl (rdE q) kr ?_;intro b9 w7 g9 R9 hb7;(first|replace hb7:=qmk hb7|skip);replace R:=Row.below R hb7;replace R3:=R3.below hb7;replace R6:=R6.below hb7;replace hE:=hE.below hb7;replace hB:=hB.trans (hb7.mono (Nat.le_trans hpl hB.size))
          exact sZxr51
         exact AZ
        refine AC (fun K hK=>?_) ?_
        ·rw[if_pos kr]
         refine q26 (.tmp 48) rfl (rdE q) kr ?_;intro b9 w7 g9 R9 hb7;(first|replace hb7:=qmk hb7|skip);replace R:=Row.below R hb7;replace R3:=R3.below hb7;replace R6:=R6.below hb7;replace hE:=hE.below hb7;replace hB:=hB.trans (hb7.mono (Nat.le_trans hpl hB.size))
         refine hK.out _ _ R6 (fun _=>?_)
         clear hK K
         try simp only[ZZ]
         refine AR [4] ?_
         refine AC (fun K hK=>?_) ?_
         ·rw[if_pos kr]
          refine qepb R (.tmp 46) rfl 2 kr v2 rfl ?_
          exact sZxr51
         exact AZ
        exact AZ
       exact AZ
      exact AZ
     ·have hbad:¬(okR q/\(rdE q).t%4294967296=time/\qcyb es2 (rdE q).t=false):=fun h=>by rw[hla] at h;simp at h
      clear hok htm'
      go_upto_region 7 with(first|(go_at_call 124;refine(CY _ R).mono ?_;rintro x w5 ⟨rfl,R',hM5⟩;replace R:=R';clear R';replace R3:=hM5.row R3 n3;replace hE:=hE.moved hM5 om;replace hB:=hB.trans (hM5.below (Nat.le_trans hpl hB.size) (Nat.le_refl _));clear hM5)|((with_reducible refine gA 105 ?_);refine ax 6 105 qr3 ?_;intro b6 w3 g6 R6 hb3;have n6:b6≠p:=(fun e=>by have:=R.lt;omega);have n36:=R3.ne g6;have hne6:=hE.new g6;have gp6:p<=b6:=Nat.le_trans (Nat.le_of_lt R.lt) g6;replace R:=Row.below R hb3;replace R3:=R3.below hb3;replace hE:=hE.below hb3;replace hB:=hB.trans (hb3.mono (Nat.le_trans hpl hB.size)))|((with_reducible refine gS 105 6 25 ?_);refine sx 105 (.tmp 6) (.tmp 25) (ec (rdE q)) R6 ?_;intro w4 R6 t4;replace R:=t4.row R n6.symm;replace R3:=t4.row R3 n36;replace hE:=hE.turned t4 hne6;replace hB:=t4.below _ _ gp6 hB))
      refine RD (fun W=>Row 105 W b6 (ec (rdE q))/\Row 139 W b3 (hdc len time seq kind)) ⟨R6,R3⟩ (fun _=>?_)
      refine tq 0 (.bool true) rfl ⟨R6,R3⟩ (tq 1 (.bool false) rfl ⟨R6,R3⟩ (tq 2 (.bool false) rfl ⟨R6,R3⟩ ?_))
      simp only[ZZ]
      refine tq 3 (.pointer (some ⟨b6,0,none⟩)) rfl ⟨R6,R3⟩ (tk 4 (.int .i64 (rdE q).t) rfl (qim (.tmp 30) rfl kr b6 0 kr (rdE q).t (fun w h=>(h.1.cell 0).trans rfl)) ⟨R6,R3⟩ (tq 6 (.pointer (some ⟨b3,1,none⟩)) rfl ⟨R6,R3⟩ ?_))
      simp only[ZZ]
      refine tk 7 (.int .i64 time) rfl (qim (.tmp 33) rfl kr b3 1 kr time (fun w h=>(h.2.cell 1).trans rfl)) ⟨R6,R3⟩ ?_
      simp only[ZZ]
      refine AR [5] ?_
      refine AC (fun K hK=>?_) ?_
      ·go_simp
       go_at_call 125;refine(q0t _ _ ht0 ht1).mono ?_;rintro x w5 ⟨rfl,hw5⟩;have hb5:=qdib hw5;replace R:=Row.below R hb5;replace R3:=R3.below hb5;replace R6:=R6.below hb5;replace hE:=hE.below hb5;replace hB:=hB.trans (hb5.mono (Nat.le_trans hpl hB.size));clear hw5
       go_wp2_with fail
       refine hK.out _ _ ⟨R6,R3⟩ (fun _=>?_)
       clear hK K
       try simp only[ZZ]
       refine tk 8 (.bool false) rfl (qrk 3 (.tmp 32) (.tmp 34) ((rdE q).t%4294967296) time false rfl kr kr kr htm) ⟨R6,R3⟩ (tq 9 (.bool false) rfl ⟨R6,R3⟩ (tq 10 (.bool false) rfl ⟨R6,R3⟩ ?_))
       simp only[ZZ]
       refine tq 11 (.pointer (some ⟨p,0,none⟩)) rfl ⟨R6,R3⟩ (tq 12 (.pointer (some ⟨b6,0,none⟩)) rfl ⟨R6,R3⟩ (tk 13 (.int .i64 (rdE q).t) rfl (qim (.tmp 39) rfl kr b6 0 kr (rdE q).t (fun w h=>(h.1.cell 0).trans rfl)) ⟨R6,R3⟩ ?_))
       simp only[ZZ]
       refine AR [14] ?_
       refine AC (fun K hK=>?_) ?_
       ·go_simp
        go_at_call 126;refine(qdsb p _ d v2 es2 _ _ R (hE.at hep)).mono ?_;rintro x w6 ⟨rfl,hw6⟩;subst hw6;rw[hla]
        go_wp2_with fail
        exact sZxr54
       exact AZ
      exact AZ
    ·have htm:((rdE q).t%4294967296 != time)=true:=by simpa using htm'
     have hbad:¬(okR q/\(rdE q).t%4294967296=time/\qcyb es2 (rdE q).t=false):=fun h=>htm' h.2.1
     clear hok htm'
     go_upto_region 7 with(first|(go_at_call 124;refine(CY _ R).mono ?_;rintro x w5 ⟨rfl,R',hM5⟩;replace R:=R';clear R';replace R3:=hM5.row R3 n3;replace hE:=hE.moved hM5 om;replace hB:=hB.trans (hM5.below (Nat.le_trans hpl hB.size) (Nat.le_refl _));clear hM5)|((with_reducible refine gA 105 ?_);refine ax 6 105 qr3 ?_;intro b6 w3 g6 R6 hb3;have n6:b6≠p:=(fun e=>by have:=R.lt;omega);have n36:=R3.ne g6;have hne6:=hE.new g6;have gp6:p<=b6:=Nat.le_trans (Nat.le_of_lt R.lt) g6;replace R:=Row.below R hb3;replace R3:=R3.below hb3;replace hE:=hE.below hb3;replace hB:=hB.trans (hb3.mono (Nat.le_trans hpl hB.size)))|((with_reducible refine gS 105 6 25 ?_);refine sx 105 (.tmp 6) (.tmp 25) (ec (rdE q)) R6 ?_;intro w4 R6 t4;replace R:=t4.row R n6.symm;replace R3:=t4.row R3 n36;replace hE:=hE.turned t4 hne6;replace hB:=t4.below _ _ gp6 hB))
     refine RD (fun W=>Row 105 W b6 (ec (rdE q))/\Row 139 W b3 (hdc len time seq kind)) ⟨R6,R3⟩ (fun _=>?_)
     refine tq 0 (.bool true) rfl ⟨R6,R3⟩ (tq 1 (.bool false) rfl ⟨R6,R3⟩ (tq 2 (.bool false) rfl ⟨R6,R3⟩ ?_))
     simp only[ZZ]
     refine tq 3 (.pointer (some ⟨b6,0,none⟩)) rfl ⟨R6,R3⟩ (tk 4 (.int .i64 (rdE q).t) rfl (qim (.tmp 30) rfl kr b6 0 kr (rdE q).t (fun w h=>(h.1.cell 0).trans rfl)) ⟨R6,R3⟩ (tq 6 (.pointer (some ⟨b3,1,none⟩)) rfl ⟨R6,R3⟩ ?_))
     simp only[ZZ]
     refine tk 7 (.int .i64 time) rfl (qim (.tmp 33) rfl kr b3 1 kr time (fun w h=>(h.2.cell 1).trans rfl)) ⟨R6,R3⟩ ?_
     simp only[ZZ]
     refine AR [5] ?_
     refine AC (fun K hK=>?_) ?_
     ·go_simp
      go_at_call 125;refine(q0t _ _ ht0 ht1).mono ?_;rintro x w5 ⟨rfl,hw5⟩;have hb5:=qdib hw5;replace R:=Row.below R hb5;replace R3:=R3.below hb5;replace R6:=R6.below hb5;replace hE:=hE.below hb5;replace hB:=hB.trans (hb5.mono (Nat.le_trans hpl hB.size));clear hw5
      go_wp2_with fail
      refine hK.out _ _ ⟨R6,R3⟩ (fun _=>?_)
      clear hK K
      try simp only[ZZ]
      refine tk 8 (.bool true) rfl (qrk 3 (.tmp 32) (.tmp 34) ((rdE q).t%4294967296) time true rfl kr kr kr htm) ⟨R6,R3⟩ ?_
      exact sZxr52
     exact AZ
   ·have CN:=fun(w:World) (R:Rdr w p q d v2)=>EN w R hok
    have hbad:¬(okR q/\(rdE q).t%4294967296=time/\qcyb es2 (rdE q).t=false):=fun h=>hok h.1
    clear EV EN hok
    go_upto_region 7 with(first|(go_at_call 124;refine(CN _ R).mono ?_;rintro x w5 ⟨⟨E,rfl⟩,R',hM5⟩;replace R:=R';clear R';replace R3:=hM5.row R3 n3;replace hE:=hE.moved hM5 om;replace hB:=hB.trans (hM5.below (Nat.le_trans hpl hB.size) (Nat.le_refl _));clear hM5)|((with_reducible refine gA 105 ?_);refine ax 6 105 qr3 ?_;intro b6 w3 g6 R6 hb3;have n6:b6≠p:=(fun e=>by have:=R.lt;omega);have n36:=R3.ne g6;have hne6:=hE.new g6;have gp6:p<=b6:=Nat.le_trans (Nat.le_of_lt R.lt) g6;replace R:=Row.below R hb3;replace R3:=R3.below hb3;replace hE:=hE.below hb3;replace hB:=hB.trans (hb3.mono (Nat.le_trans hpl hB.size)))|((with_reducible refine gS 105 6 25 ?_);refine sx 105 (.tmp 6) (.tmp 25) (ec E) R6 ?_;intro w4 R6 t4;replace R:=t4.row R n6.symm;replace R3:=t4.row R3 n36;replace hE:=hE.turned t4 hne6;replace hB:=t4.below _ _ gp6 hB))
    refine RD (fun W=>Row 105 W b6 (ec E)/\Row 139 W b3 (hdc len time seq kind)) ⟨R6,R3⟩ (fun _=>?_)
    refine tq 0 (.bool false) rfl ⟨R6,R3⟩ (tq 1 (.bool true) rfl ⟨R6,R3⟩ (tq 2 (.bool true) rfl ⟨R6,R3⟩ ?_))
    simp only[ZZ]
    refine tk 3 undef rfl (Or.inr ⟨by kernel_rfl,rfl⟩) ⟨R6,R3⟩ (tk 4 undef rfl (Or.inr ⟨by kernel_rfl,rfl⟩) ⟨R6,R3⟩ (tk 6 undef rfl (Or.inr ⟨by kernel_rfl,rfl⟩) ⟨R6,R3⟩ ?_))
    simp only[ZZ]
    refine tk 7 undef rfl (Or.inr ⟨by kernel_rfl,rfl⟩) ⟨R6,R3⟩ ?_
    simp only[ZZ]
    refine AR [5] ?_
    refine AC (fun K hK=>?_) ?_
    ·rw[if_neg (ne_true_of_eq_false kr)]
     refine hK.out _ _ ⟨R6,R3⟩ (fun _=>?_)
     clear hK K
     try simp only[ZZ]
     refine tk 8 undef rfl (Or.inr ⟨by kernel_rfl,rfl⟩) ⟨R6,R3⟩ ?_
     exact sZxr52
    exact AZ
  ·obtain rfl:k=c:=by omega
   have HV4:Hid (evs time k (l.drop 20) es=some es2):=by show _=_;rw[HV.out,Nat.sub_self];rfl
   clear HV
   go_wp2
   go_ret
   exact⟨Or.inr ⟨rfl,_,_,HV4.out,R,hE⟩,hB⟩
end Go.Proofs.YtnicenfgemkdnaaGreatDoor
