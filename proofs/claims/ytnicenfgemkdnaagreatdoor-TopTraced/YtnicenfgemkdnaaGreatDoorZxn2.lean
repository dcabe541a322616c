/-
  Of what a law stands on.
-/
import Derived.Test.YtnicenfgemkdnaaGreatDoorZxn1
set_option linter.unusedSimpArgs false
set_option linter.unusedVariables false
namespace Go.Proofs.YtnicenfgemkdnaaGreatDoor
open _root_.Go.Proofs.Tryz
set_option maxHeartbeats 16000000
set_option maxRecDepth 100000
open Go.ChangeShapes Go.WideShapes Go.ChangeAt Go.RowKit Go.Maps
theorem sZxn25{p:Prop}(h:p:=by
 go_ret2
 exact⟨(congrArg (fun z=>Ending.returned (qe3 z)) HR.out).symm,hB⟩):p:=h
theorem sZxn22{p:Prop}(h:p:=by
 subst e
 have hji:¬(j:Int)<(j:Int):=by omega
 rw[HN.out,List.take_length] at hfn
 have HR:Hid (_=none):=hidN hfn
 clear hfn
 go_wp2
 exact sZxn25):p:=h
theorem sZxn23{p:Prop}(h:p:=by
 go_roundw
 case rel=>exact⟨j+1,by omega,(by first|exact qfs j|exact qg6 hjw),HR.out,hB⟩
 case measure=>(first|rw[hjw]|skip);exact qud hlt):p:=h
theorem q5g{w:World}{b:Nat}{s:Nt}{tm:Int->Option Int}{F:Nat->Prop}(h:qaw w b s tm F)(p:Pkt)(sub:Int)(bp bs:Nat)(Rp:Row 58 w bp (pcl p))(Rs:Row 3 w bs #[.int .i64 sub]):Calls prog 97 #[.pointer (some ⟨b,0,none⟩),.func (.func 128) #[] #[.pointer (some ⟨bp,0,none⟩),.pointer (some ⟨bs,0,none⟩)]] w fun e w'=>e=.returned (qe3 (s.find (outF p sub)))/\Below w.heap.size w w':=by
 obtain⟨cs,v,ov,fm,D,Fw,cnt,M0,hF⟩:=h
 have hB:=Below.refl w.heap.size w
 have c35:=(M0.cell 35).trans M0.c35
 obtain⟨a0,kp,hov⟩:=qeh M0.ids
 obtain⟨n,hn⟩:∃n,n=s.fs.length:=⟨_,rfl⟩
 have hn48:n<=1000000:=by have:=qkd M0;omega
 simp only[List.length_map] at hov
 rw[←hn] at hov
 subst hov
 have HN:Hid (n=s.fs.length):=hn
 clear hn
 unfold Nt.find
 go_enter func97,ntmps97
 go_wp2
 clear c35
 go_loopw [13] (fun i W=>∃j:Nat,j<=n/\i=.int .i64 (j:Int)/\(s.fs.take j).find? (fun x=>(outF p sub) x.2)=none/\Below w.heap.size w W) (fun i _=>n-(intOf i).toNat)
 case atStart=>exact⟨0,by omega,rfl,rfl,hB⟩
 case round=>
  clear hB
  obtain⟨j,hj,rfl,hfn,hB⟩:=hrel
  have M:=M0.below hB
  by_cases hlt:j<n
  ·have hlj:j<s.fs.length:=by have:=HN.out;omega
   obtain⟨x,hx⟩:∃x,s.fs[j]=x:=⟨_,rfl⟩
   have hxm:x∈s.fs:=hx▸List.getElem_mem hlj
   have hji:(j:Int)<(n:Int):=by omega
   have hjw:wrap64 ((j:Int)+1)=(j:Int)+1:=by unfold wrap64;omega
   obtain⟨hy,hnx⟩:=ql0 hfn hlj hx
   have CK:=fun W Rp Rs=>qvj x.2 p sub bp bs W Rp Rs
   obtain⟨g,kp2,hov,hc⟩:=qo4 M.ids (j:=j) (by simpa using hlj)
   obtain⟨rfl,rfl⟩:a0=some ⟨g,0,none⟩/\kp=kp2:=by simp only[Value.slice.injEq] at hov;exact⟨hov.1,hov.2.2⟩
   have hix:=fun w=>ixI g n kp j hlt w
   rw[List.getElem_map,hx] at hc
   have c34:=(M.cell 34).trans M.c34
   have LK:=M.look_at hxm
   have HY:Hid (_->_):=hy
   have HX:Hid (_->_):=hnx
   clear hy hnx hov hx hxm hlj hfn hj
   cases hp:(outF p sub) x.2 with
   | true=>
    rw[hp] at CK
    have HR:Hid (_=some x):=hidN (HY.out hp)
    clear HY HX hp
    go_wp2_with (first|((with_reducible refine qaa (.lookup 83 (.tmp 21) (.tmp 22) false) rfl ?_);refine qee rfl 83 (.tmp 21) (.tmp 22) rfl (.map fm) (.int .i64 ((x.1:Nat):Int)) (.agg (fc x.2)) rfl rfl LK ?_)|(go_at_call 128;go_fit (CK _ (Rp.below hB) (Rs.below hB));rintro e w5 ⟨rfl,hb5⟩;replace hB:=hB.trans (hb5.mono hB.size);clear hb5))
    exact sZxn25
   | false=>
    rw[hp] at CK
    have HR:Hid (_=none):=hidN (HX.out hp)
    clear HY HX hp
    go_wp2_with (first|((with_reducible refine qaa (.lookup 83 (.tmp 21) (.tmp 22) false) rfl ?_);refine qee rfl 83 (.tmp 21) (.tmp 22) rfl (.map fm) (.int .i64 ((x.1:Nat):Int)) (.agg (fc x.2)) rfl rfl LK ?_)|(go_at_call 128;go_fit (CK _ (Rp.below hB) (Rs.below hB));rintro e w5 ⟨rfl,hb5⟩;replace hB:=hB.trans (hb5.mono hB.size);clear hb5))
    exact sZxn23
  ·have e:j=n:=by omega
   exact sZxn22
theorem q0x{w:World}{b:Nat}{s:Nt}{tm:Int->Option Int}{F:Nat->Prop}(h:qaw w b s tm F)(p:Pkt)(m:Mp)(bm bp:Nat)(Rm:Row 46 w bm (mc m))(Rp:Row 58 w bp (pcl p)):Calls prog 97 #[.pointer (some ⟨b,0,none⟩),.func (.func 138) #[] #[.pointer (some ⟨bm,0,none⟩),.pointer (some ⟨bp,0,none⟩)]] w fun e w'=>e=.returned (qe3 (s.find (qey p m)))/\Below w.heap.size w w':=by
 obtain⟨cs,v,ov,fm,D,Fw,cnt,M0,hF⟩:=h
 have hB:=Below.refl w.heap.size w
 have c35:=(M0.cell 35).trans M0.c35
 obtain⟨a0,kp,hov⟩:=qeh M0.ids
 obtain⟨n,hn⟩:∃n,n=s.fs.length:=⟨_,rfl⟩
 have hn48:n<=1000000:=by have:=qkd M0;omega
 simp only[List.length_map] at hov
 rw[←hn] at hov
 subst hov
 have HN:Hid (n=s.fs.length):=hn
 clear hn
 unfold Nt.find
 go_enter func97,ntmps97
 go_wp2
 clear c35
 go_loopw [13] (fun i W=>∃j:Nat,j<=n/\i=.int .i64 (j:Int)/\(s.fs.take j).find? (fun x=>(qey p m) x.2)=none/\Below w.heap.size w W) (fun i _=>n-(intOf i).toNat)
 case atStart=>exact⟨0,by omega,rfl,rfl,hB⟩
 case round=>
  clear hB
  obtain⟨j,hj,rfl,hfn,hB⟩:=hrel
  have M:=M0.below hB
  by_cases hlt:j<n
  ·have hlj:j<s.fs.length:=by have:=HN.out;omega
   obtain⟨x,hx⟩:∃x,s.fs[j]=x:=⟨_,rfl⟩
   have hxm:x∈s.fs:=hx▸List.getElem_mem hlj
   have hji:(j:Int)<(n:Int):=by omega
   have hjw:wrap64 ((j:Int)+1)=(j:Int)+1:=by unfold wrap64;omega
   obtain⟨hy,hnx⟩:=ql0 hfn hlj hx
   have CK:=fun W Rm Rp=>qra x.2 p m bm bp W Rm Rp
   obtain⟨g,kp2,hov,hc⟩:=qo4 M.ids (j:=j) (by simpa using hlj)
   obtain⟨rfl,rfl⟩:a0=some ⟨g,0,none⟩/\kp=kp2:=by simp only[Value.slice.injEq] at hov;exact⟨hov.1,hov.2.2⟩
   have hix:=fun w=>ixI g n kp j hlt w
   rw[List.getElem_map,hx] at hc
   have c34:=(M.cell 34).trans M.c34
   have LK:=M.look_at hxm
   have HY:Hid (_->_):=hy
   have HX:Hid (_->_):=hnx
   clear hy hnx hov hx hxm hlj hfn hj
   cases hp:(qey p m) x.2 with
   | true=>
    rw[hp] at CK
    have HR:Hid (_=some x):=hidN (HY.out hp)
    clear HY HX hp
    go_wp2_with (first|((with_reducible refine qaa (.lookup 83 (.tmp 21) (.tmp 22) false) rfl ?_);refine qee rfl 83 (.tmp 21) (.tmp 22) rfl (.map fm) (.int .i64 ((x.1:Nat):Int)) (.agg (fc x.2)) rfl rfl LK ?_)|(go_at_call 138;go_fit (CK _ (Rm.below hB) (Rp.below hB));rintro e w5 ⟨rfl,hb5⟩;replace hB:=hB.trans (hb5.mono hB.size);clear hb5))
    exact sZxn25
   | false=>
    rw[hp] at CK
    have HR:Hid (_=none):=hidN (HX.out hp)
    clear HY HX hp
    go_wp2_with (first|((with_reducible refine qaa (.lookup 83 (.tmp 21) (.tmp 22) false) rfl ?_);refine qee rfl 83 (.tmp 21) (.tmp 22) rfl (.map fm) (.int .i64 ((x.1:Nat):Int)) (.agg (fc x.2)) rfl rfl LK ?_)|(go_at_call 138;go_fit (CK _ (Rm.below hB) (Rp.below hB));rintro e w5 ⟨rfl,hb5⟩;replace hB:=hB.trans (hb5.mono hB.size);clear hb5))
    exact sZxn23
  ·have e:j=n:=by omega
   exact sZxn22
theorem q7t{w:World}{b:Nat}{s:Nt}{tm:Int->Option Int}{F:Nat->Prop}(h:qaw w b s tm F)(p:Pkt)(m:Mp)(bk bm bp:Nat)(Rk:Row 151 w bk #[.func (.func 138) #[] #[.pointer (some ⟨bm,0,none⟩),.pointer (some ⟨bp,0,none⟩)]])(Rm:Row 46 w bm (mc m))(Rp:Row 58 w bp (pcl p)):Calls prog 97 #[.pointer (some ⟨b,0,none⟩),.func (.func 139) #[] #[.pointer (some ⟨bk,0,none⟩),.pointer (some ⟨bp,0,none⟩)]] w fun e w'=>e=.returned (qe3 (s.find (qio p m)))/\Below w.heap.size w w':=by
 obtain⟨cs,v,ov,fm,D,Fw,cnt,M0,hF⟩:=h
 have hB:=Below.refl w.heap.size w
 have c35:=(M0.cell 35).trans M0.c35
 obtain⟨a0,kp,hov⟩:=qeh M0.ids
 obtain⟨n,hn⟩:∃n,n=s.fs.length:=⟨_,rfl⟩
 have hn48:n<=1000000:=by have:=qkd M0;omega
 simp only[List.length_map] at hov
 rw[←hn] at hov
 subst hov
 have HN:Hid (n=s.fs.length):=hn
 clear hn
 unfold Nt.find
 go_enter func97,ntmps97
 go_wp2
 clear c35
 go_loopw [13] (fun i W=>∃j:Nat,j<=n/\i=.int .i64 (j:Int)/\(s.fs.take j).find? (fun x=>(qio p m) x.2)=none/\Below w.heap.size w W) (fun i _=>n-(intOf i).toNat)
 case atStart=>exact⟨0,by omega,rfl,rfl,hB⟩
 case round=>
  clear hB
  obtain⟨j,hj,rfl,hfn,hB⟩:=hrel
  have M:=M0.below hB
  by_cases hlt:j<n
  ·have hlj:j<s.fs.length:=by have:=HN.out;omega
   obtain⟨x,hx⟩:∃x,s.fs[j]=x:=⟨_,rfl⟩
   have hxm:x∈s.fs:=hx▸List.getElem_mem hlj
   have hji:(j:Int)<(n:Int):=by omega
   have hjw:wrap64 ((j:Int)+1)=(j:Int)+1:=by unfold wrap64;omega
   obtain⟨hy,hnx⟩:=ql0 hfn hlj hx
   have CK:=fun W Rk Rm Rp=>qyl x.2 p m bk bm bp W Rk Rm Rp
   obtain⟨g,kp2,hov,hc⟩:=qo4 M.ids (j:=j) (by simpa using hlj)
   obtain⟨rfl,rfl⟩:a0=some ⟨g,0,none⟩/\kp=kp2:=by simp only[Value.slice.injEq] at hov;exact⟨hov.1,hov.2.2⟩
   have hix:=fun w=>ixI g n kp j hlt w
   rw[List.getElem_map,hx] at hc
   have c34:=(M.cell 34).trans M.c34
   have LK:=M.look_at hxm
   have HY:Hid (_->_):=hy
   have HX:Hid (_->_):=hnx
   clear hy hnx hov hx hxm hlj hfn hj
   cases hp:(qio p m) x.2 with
   | true=>
    rw[hp] at CK
    have HR:Hid (_=some x):=hidN (HY.out hp)
    clear HY HX hp
    go_wp2_with (first|((with_reducible refine qaa (.lookup 83 (.tmp 21) (.tmp 22) false) rfl ?_);refine qee rfl 83 (.tmp 21) (.tmp 22) rfl (.map fm) (.int .i64 ((x.1:Nat):Int)) (.agg (fc x.2)) rfl rfl LK ?_)|(go_at_call 139;go_fit (CK _ (Rk.below hB) (Rm.below hB) (Rp.below hB));rintro e w5 ⟨rfl,hb5⟩;replace hB:=hB.trans (hb5.mono hB.size);clear hb5))
    exact sZxn25
   | false=>
    rw[hp] at CK
    have HR:Hid (_=none):=hidN (HX.out hp)
    clear HY HX hp
    go_wp2_with (first|((with_reducible refine qaa (.lookup 83 (.tmp 21) (.tmp 22) false) rfl ?_);refine qee rfl 83 (.tmp 21) (.tmp 22) rfl (.map fm) (.int .i64 ((x.1:Nat):Int)) (.agg (fc x.2)) rfl rfl LK ?_)|(go_at_call 139;go_fit (CK _ (Rk.below hB) (Rm.below hB) (Rp.below hB));rintro e w5 ⟨rfl,hb5⟩;replace hB:=hB.trans (hb5.mono hB.size);clear hb5))
    exact sZxn23
  ·have e:j=n:=by omega
   exact sZxn22
theorem q4m{w:World}{b:Nat}{s:Nt}{tm:Int->Option Int}{F:Nat->Prop}(h:qaw w b s tm F)(m:Mp)(bm:Nat)(Rm:Row 46 w bm (mc m)):Calls prog 97 #[.pointer (some ⟨b,0,none⟩),.func (.func 152) #[] #[.pointer (some ⟨bm,0,none⟩)]] w fun e w'=>e=.returned (qe3 (s.find (qf0 m)))/\Below w.heap.size w w':=by
 obtain⟨cs,v,ov,fm,D,Fw,cnt,M0,hF⟩:=h
 have hB:=Below.refl w.heap.size w
 have c35:=(M0.cell 35).trans M0.c35
 obtain⟨a0,kp,hov⟩:=qeh M0.ids
 obtain⟨n,hn⟩:∃n,n=s.fs.length:=⟨_,rfl⟩
 have hn48:n<=1000000:=by have:=qkd M0;omega
 simp only[List.length_map] at hov
 rw[←hn] at hov
 subst hov
 have HN:Hid (n=s.fs.length):=hn
 clear hn
 unfold Nt.find
 go_enter func97,ntmps97
 go_wp2
 clear c35
 go_loopw [13] (fun i W=>∃j:Nat,j<=n/\i=.int .i64 (j:Int)/\(s.fs.take j).find? (fun x=>(qf0 m) x.2)=none/\Below w.heap.size w W) (fun i _=>n-(intOf i).toNat)
 case atStart=>exact⟨0,by omega,rfl,rfl,hB⟩
 case round=>
  clear hB
  obtain⟨j,hj,rfl,hfn,hB⟩:=hrel
  have M:=M0.below hB
  by_cases hlt:j<n
  ·have hlj:j<s.fs.length:=by have:=HN.out;omega
   obtain⟨x,hx⟩:∃x,s.fs[j]=x:=⟨_,rfl⟩
   have hxm:x∈s.fs:=hx▸List.getElem_mem hlj
   have hji:(j:Int)<(n:Int):=by omega
   have hjw:wrap64 ((j:Int)+1)=(j:Int)+1:=by unfold wrap64;omega
   obtain⟨hy,hnx⟩:=ql0 hfn hlj hx
   have CK:=fun W Rm=>qxe x.2 m bm W Rm
   obtain⟨g,kp2,hov,hc⟩:=qo4 M.ids (j:=j) (by simpa using hlj)
   obtain⟨rfl,rfl⟩:a0=some ⟨g,0,none⟩/\kp=kp2:=by simp only[Value.slice.injEq] at hov;exact⟨hov.1,hov.2.2⟩
   have hix:=fun w=>ixI g n kp j hlt w
   rw[List.getElem_map,hx] at hc
   have c34:=(M.cell 34).trans M.c34
   have LK:=M.look_at hxm
   have HY:Hid (_->_):=hy
   have HX:Hid (_->_):=hnx
   clear hy hnx hov hx hxm hlj hfn hj
   cases hp:(qf0 m) x.2 with
   | true=>
    rw[hp] at CK
    have HR:Hid (_=some x):=hidN (HY.out hp)
    clear HY HX hp
    go_wp2_with (first|((with_reducible refine qaa (.lookup 83 (.tmp 21) (.tmp 22) false) rfl ?_);refine qee rfl 83 (.tmp 21) (.tmp 22) rfl (.map fm) (.int .i64 ((x.1:Nat):Int)) (.agg (fc x.2)) rfl rfl LK ?_)|(go_at_call 152;go_fit (CK _ (Rm.below hB));rintro e w5 ⟨rfl,hb5⟩;replace hB:=hB.trans (hb5.mono hB.size);clear hb5))
    exact sZxn25
   | false=>
    rw[hp] at CK
    have HR:Hid (_=none):=hidN (HX.out hp)
    clear HY HX hp
    go_wp2_with (first|((with_reducible refine qaa (.lookup 83 (.tmp 21) (.tmp 22) false) rfl ?_);refine qee rfl 83 (.tmp 21) (.tmp 22) rfl (.map fm) (.int .i64 ((x.1:Nat):Int)) (.agg (fc x.2)) rfl rfl LK ?_)|(go_at_call 152;go_fit (CK _ (Rm.below hB));rintro e w5 ⟨rfl,hb5⟩;replace hB:=hB.trans (hb5.mono hB.size);clear hb5))
    exact sZxn23
  ·have e:j=n:=by omega
   exact sZxn22
theorem qse{ops:Array Oper}{rest:List Oper}{o:Oper}{a:Act}{w:World}{Q:Exit->Act->World->Prop}{t:TypeId}{b:Nat}{cs:Array Value}(R:Row t w b cs)(hgd:o.guard=none)(x y:Operand)(ho:o.op=.store 83 x y)(f:Nat)(hx:a.eval x=.pointer (some ⟨b,f,none⟩))(p:Option Nat)(hy:a.eval y=.map p)(old:Value)(hc:cs[f]?=some old)(hr:∀w',Row t w' b (cs.setIfInBounds f (.map p))->qbl b w w'->wpList prog ops Q rest (a.put o.dst undef) w'):wpList prog ops Q (o::rest) a w:=
 wpList_plain hgd fun K hK=>by
  have hcell:=(R.cell f).trans hc
  have hfr:=R.free f
  unfold Oper.wp execOp
  simp only[ho,hx,hy]
  simp[go_sem,hcell,hfr,underlying83]
  exact hK _ _ (hr _ R.set (qfx _ _ _ _))
theorem qz0{ops:Array Oper}{rest:List Oper}{o:Oper}{a:Act}{w:World}{Q:Exit->Act->World->Prop}(t:TypeId)(hgd:o.guard=none)(ho:o.op=.makeMap t none)(hr:∀b w',w.heap.size<=b->Below w.heap.size w w'->w'.ownsMap prog 3 qc9 b 0 (.map [])->wpList prog ops Q rest (a.put o.dst (.map (some b))) w'):wpList prog ops Q (o::rest) a w:=
 wpList_plain hgd fun K hK=>by
  have hm:=@run_makeMap prog t w
  unfold Oper.wp execOp
  simp only[ho,Option.map_none,Sem.run_bind,hm,Result.andThen_ok,Sem.run_pure]
  exact hK _ _ (hr _ _ (Nat.le_refl _) ((Below.refl _ _).alloc (Nat.le_refl _) _) (World.ownsMap_made (H:=Unit) w prog 3 qc9))
section
variable {w w':World} {b:Nat} {cs cs':Array Value} {v ov:Value} {fm:Option Nat} {D:DataW Unit} {Fw:Nat->Prop} {cnt:Nat} {s:Nt} {tm:Int->Option Int} {is:List Int}
theorem NatM.mapNew{bm:Nat}(h:NatM w b cs v ov none D Fw cnt s tm is)(hbm:¬Fw bm)(R:Row 91 w' b (cs.setIfInBounds 34 (.map (some bm))))(T:qbl b w w')(hm:MapF w' bm (.map [])):NatM w' b (cs.setIfInBounds 34 (.map (some bm))) v ov (some bm) D Fw cnt s tm is:=by
 have hD:D=.map []:=by rcases h.flows with⟨_,e⟩|⟨_,e,_⟩;exact e;cases e
 refine⟨h.wheel.turn R zm (fun i h1 h2=>qce _ _ _ _ om) T.other,by simpa using h.size,(qce _ _ _ _ om).trans h.c0,(qce _ _ _ _ om).trans h.c1,(qce _ _ _ _ om).trans h.c2,(qce _ _ _ _ om).trans h.c3,fun k hk=>(qce _ _ _ _ om).trans (h.ct k hk),qm1 _ _ _ (by rw[h.size];omega),(qce _ _ _ _ om).trans h.c35,(qce _ _ _ _ om).trans h.c36,qc4 h.maps (fun h0=>T.other _ (h.msb h0)),h.nil,qfc h.ids (fun c hc=>T.other c (fun e=>h.ovb (e▸hc))),.inr ⟨bm,rfl,hD▸hm⟩,h.reads,h.sized,h.few,fun c hc=>by cases hc;exact hbm,h.ovNot,h.msNot,h.up,h.num,h.bg⟩
theorem NatM.mapPut{i:Int}{bm n:Nat}{k:Fl}{fs':List (Nat×Fl)}(h:NatM w b cs v ov (some bm) D Fw cnt s tm is)(hm:w'.ownsMap prog 3 qc9 bm n (D.put (kI (i:Int)) (fd Unit k)))(hg:w.grownBy w' (some bm))(hfs:fsF fs'=qh4 (fsF s.fs) i k)(hl:fs'.length=if (fsF s.fs i).isSome then s.fs.length else s.fs.length+1)(hup:fs'.Pairwise (fun x y=>x.1<y.1))(hnum:∀x∈fs',x.1<=s.began):NatM w' b cs v ov (some bm) (D.put (kI i) (fd Unit k)) Fw cnt { s with fs:=fs' } tm is:=by
 have G:Gr (fun c=>c=bm) w w':=Gr.of_grown hg (fun c hc=>by cases hc;rfl)
 refine⟨h.wheel.keep G (fun c hc e=>h.fmNot bm rfl (e▸hc)),h.size,h.c0,h.c1,h.c2,h.c3,h.ct,h.c34,h.c35,h.c36,qc4 h.maps (fun h0=>G.block _ (h.maps.lt h0) (h.fmms rfl h0)),h.nil,qfc h.ids (fun c hc=>?_),.inr ⟨bm,rfl,qwf hm⟩,?_,?_,?_,h.fmNot,h.ovNot,h.msNot,hup,hnum,h.bg⟩
 ·obtain⟨cur,m,hh⟩:=qe6 h.ids hc
  exact G.block c (Array.getElem?_eq_some_iff.1 hh).1 (fun e=>h.fmov rfl (e▸hc))
 ·show qgy _ (fsF fs')
  rw[hfs];exact h.reads.put i k
 ·show Maps.size _=fs'.length
  rw[size_put h.reads.tidy,h.reads.has,h.sized,hl]
 ·show cnt<=fs'.length
  have:=h.few
  rw[hl];split<;>omega
theorem NatM.wheelSet{tm':Int->Option Int}{cnt':Nat}{Fw':Nat->Prop}{now':Int}(h:NatM w b cs v ov fm D Fw cnt s tm is)(hW:qca w' b 91 cs' 37 now' tm' cnt' Fw')(hs:qb7 37 cs cs')(hg:Gr Fw w w')(hF:∀c,Fw' c->Fw c\/w.heap.size<=c)(hc:cnt'<=s.fs.length):NatM w' b cs' v ov fm D Fw' cnt' { s with now:=now' } tm' is:=by
 have e:∀i,i<37->cs'[i]?=cs[i]?:=fun i hi=>hs.2 i (.inl hi)
 have nt:∀c,c<w.heap.size->¬Fw c->¬Fw' c:=fun c h1 h2 h3=>by rcases hF c h3 with h4|h4;exact h2 h4;omega
 refine⟨hW,hs.1.trans h.size,(e 0 om).trans h.c0,(e 1 om).trans h.c1,(e 2 om).trans h.c2,(e 3 om).trans h.c3,fun k hk=>(e (4+k) om).trans (h.ct k hk),(e 34 om).trans h.c34,(e 35 om).trans h.c35,(e 36 om).trans h.c36,qc4 h.maps (fun h0=>hg.block _ (h.maps.lt h0) (h.msNot h0).1),h.nil,qfc h.ids (fun c hc=>?_),?_,h.reads,h.sized,hc,fun c hc=>?_,fun c hc=>?_,fun h0=>⟨nt _ (h.maps.lt h0) (h.msNot h0).1,(h.msNot h0).2⟩,h.up,h.num,h.bg⟩
 ·obtain⟨cur,m,hh⟩:=qe6 h.ids hc
  exact hg.block c (Array.getElem?_eq_some_iff.1 hh).1 (h.ovNot c hc)
 ·rcases h.flows with h0|⟨bm,h1,h2⟩
  ·exact .inl h0
  ·exact .inr ⟨bm,h1,qdy h2 (hg.block bm h2.lt (h.fmNot bm h1))⟩
 ·rcases h.flows with⟨h0,_⟩|⟨bm,h1,h2⟩
  ·rw[h0] at hc;cases hc
  ·rw[h1] at hc;cases hc;exact nt _ h2.lt (h.fmNot _ h1)
 ·obtain⟨cur,m,hh⟩:=qe6 h.ids hc
  exact nt c (Array.getElem?_eq_some_iff.1 hh).1 (h.ovNot c hc)
end
theorem qix{w w':World}{r:Option Nat}(h:w.drew.grownBy w' r):w.grownBy w' r:=⟨h.os,h.tape,h.output,h.size,h.block⟩
theorem qgn{F:Nat->Prop}{w w':World}(h:Gr F w.drew w'):Gr F w w':=⟨h.os,h.tape,h.output,h.size,h.block⟩
theorem NatM.theFlows{w:World}{b:Nat}{cs:Array Value}{v ov:Value}{bm:Nat}{D:DataW Unit}{Fw:Nat->Prop}{cnt:Nat}{s:Nt}{tm:Int->Option Int}{is:List Int}(M:NatM w b cs v ov (some bm) D Fw cnt s tm is):∃n,n<=1000/\w.ownsMap prog 3 qc9 bm n D:=by
 rcases M.flows with⟨h,_⟩|⟨c,h,hm⟩
 ·cases h
 ·cases h
  exact⟨_,by rw[M.sized];have:=qkd M;omega,hm⟩
theorem qzi(w:World):(binOp .eql 83 (.map none) (.map none)).run prog w=.ok (.bool true) w:=by kernel_rfl
theorem qwt(bm:Nat)(w:World):(binOp .eql 83 (.map (some bm)) (.map none)).run prog w=.ok (.bool false) w:=by kernel_rfl
theorem qcq{b:Nat}{w w':World}(T:qbl b w w'):Gr (fun x=>x=b) w w':=by
 have hB:Below b w w':=T.below b w (Nat.le_refl _) (Below.refl _ _)
 exact⟨hB.os,hB.tape,hB.output,hB.size,fun x hx hn=>T.other x hn⟩
theorem sZxn21{p:Prop}(h:p:=by
 have kS:_/\_:=⟨(M.cell 34).trans M.c34,B5⟩
 refine RD (fun W=>W.cell? ⟨b,34,none⟩=some (.map (some bm))/\Row 48 W b5 (fc k)) kS (fun _=>?_)
 refine tq 0 (.pointer (some ⟨b,0,none⟩)) rfl kS (tq 1 (.pointer (some ⟨b,0,none⟩)) rfl kS (tq 2 (.pointer (some ⟨b,34,none⟩)) rfl kS ?_))
 simp only[ZZ]
 refine tk 3 (.map (some bm)) rfl (Or.inl ⟨by kernel_rfl,by intro w hS;have hc:=hS.1;go_simp⟩) kS (tq 4 (.int .i64 ((n:Nat):Int)) rfl kS (tk 5 (.agg (fc k)) rfl (yx 48 (.tmp 5) (fc k) (fun _ h=>h.2)) kS ?_))
 simp only[ZZ]
 refine AR [6] ?_
 refine AC (fun K hK=>?_) ?_
 ·rw[if_pos kr]
  obtain⟨nm,hnm,hMF⟩:=M.theFlows;(first|refine qd3 _ (.tmp 18) (.tmp 19) (.tmp 20) 83 rfl 3 48 lawI underlying83 qc9 bm nm D kr hMF (by unfold maxLen;omega) (.int .i64 ((n:Nat):Int)) (.agg (fc k)) (kI ((n:Nat):Int)) kr kr hkey (fd Unit k) [] (qgm k) ?_|refine qd3 _ (.tmp 18) (.tmp 19) (.tmp 20) 83 rfl 3 48 lawI underlying83 qc9 bm nm D kr (qdy hMF rfl) (by unfold maxLen;omega) (.int .i64 ((n:Nat):Int)) (.agg (fc k)) (kI ((n:Nat):Int)) kr kr hkey (fd Unit k) [] (qgm k) ?_);intro w9 ho9 hg9;(first|replace hg9:=qix hg9|skip);replace B5:Row 48 w9 b5 (fc k):=(hg9.block b5 B5.lt (fun e=>HBM.out (Option.some.inj e))).trans B5;replace M:=M.mapPut ho9 hg9 HFS.out HLN.out HUP.out HNU.out;replace hG:=hG.trans (Gr.of_grown (F:=fun c=>c=bm) hg9 (fun c hc=>(Option.some.inj hc).symm)) HBW.out;clear hMF hnm ho9 hg9;replace kS:_/\_:=⟨(M.cell 34).trans M.c34,B5⟩
  refine hK.out _ _ kS (fun _=>?_)
  clear hK K
  try simp only[ZZ]
  refine AN ?_
  clear kS
  go_upto_region 4 with fail
  have kS:Row 48 _ b5 (fc k):=B5
  refine RD (fun W=>Row 48 W b5 (fc k)) kS (fun _=>?_)
  refine tq 0 (.pointer (some ⟨b,0,none⟩)) rfl kS (tq 1 (.pointer (some ⟨b,0,none⟩)) rfl kS (tq 2 (.pointer (some ⟨b,37,none⟩)) rfl kS ?_))
  simp only[ZZ]
  refine tq 3 (.int .i64 ((n:Nat):Int)) rfl kS (tq 4 (.pointer (some ⟨b5,9,none⟩)) rfl kS (tk 5 (.int .i64 k.du) rfl (Or.inl ⟨by kernel_rfl,by intro w hS;have hc:=(hS.cell 9).trans (show(fc k)[9]?=some (.int .i64 k.du) from rfl);go_simp⟩) kS ?_))
  simp only[ZZ]
  refine AR [6] ?_
  refine AC (fun K hK=>?_) ?_
  ·go_simp
   go_at_call 162;(first|refine(CA _ _ M.wheel).mono ?_|refine(CA _ _ (M.wheel.below (Below.refl _ _).drew)).mono ?_);rintro e w9 ⟨rfl,cs9,F9,hW9,hs9,hg9,hf9⟩;(first|replace hg9:=qgn hg9|skip);replace B5:Row 48 w9 b5 (fc k):=(hg9.block b5 B5.lt HB5.out).trans B5;replace kS:Row 48 _ b5 (fc k):=B5
   go_wp2_with fail
   refine hK.out _ _ kS (fun _=>?_)
   clear hK K
   try simp only[ZZ]
   refine AN ?_
   clear kS
   go_end0
   refine⟨rfl,cs9,some bm,_,F9,_,M.wheelSet hW9 hs9 hg9 hf9 HCN.out,HFM.out,fun c hc=>?_,?_⟩
   ·rcases hf9 c hc with h1|h1
    ·exact .inl h1
    ·exact .inr (Nat.le_trans hG.size h1)
   ·first|exact hG.trans hg9 (fun x hx=>.inl (.inl hx))|exact(hG.trans hg9 (fun x hx=>.inl (.inl hx))).drew
  exact AZ
 exact AZ):p:=h
theorem qh8{w:World}{b:Nat}{cs:Array Value}{v ov:Value}{fm:Option Nat}{D:DataW Unit}{Fw:Nat->Prop}{cnt:Nat}{s:Nt}{tm:Int->Option Int}{is:List Int}(M:NatM w b cs v ov fm D Fw cnt s tm is)(hbd:∀c,Fw c->c<w.heap.size)(n:Nat)(k:Fl)(hn:n<=700)(hd0:0<=k.du)(hd1:k.du<=1099511627776)(hroom:tm ((n:Nat):Int)=none->cnt<400)(fs':List (Nat×Fl))(hfs:fsF fs'=qh4 (fsF s.fs) ((n:Nat):Int) k)(hl:fs'.length=if (fsF s.fs ((n:Nat):Int)).isSome then s.fs.length else s.fs.length+1)(hup:fs'.Pairwise (fun x y=>x.1<y.1))(hnum:∀x∈fs',x.1<=s.began)(hcn:(if (tm ((n:Nat):Int)).isSome then cnt else cnt+1)<=fs'.length):
  Calls prog 129 #[.pointer (some ⟨b,0,none⟩),.int .i64 ((n:Nat):Int),.agg (fc k)] w fun e w'=>e=.returned (.tuple #[])/\∃cs' fm' D' Fw' cnt',NatM w' b cs' v ov fm' D' Fw' cnt' { s with fs:=fs' } (setD tm ((n:Nat):Int) (max k.du s.now)) is/\(∀c,fm'=some c->fm=some c\/w.heap.size<=c)/\(∀c,Fw' c->Fw c\/w.heap.size<=c)/\Gr (fun c=>Fw c\/fm=some c) w w':=by
 have hkey:=keyOf_int_mk (P:=prog) (q:=.i64) (a:=((n:Nat):Int)) underlying3 (qrh hn)
 have HFS:Hid _:=hidN hfs
 have HLN:Hid _:=hidN hl
 have HUP:Hid _:=hidN hup
 have HNU:Hid _:=hidN hnum
 have HCN:Hid _:=hidN hcn
 have CA:=fun W cs (hW:qca W b 91 cs 37 s.now tm cnt Fw)=>q90 hW ((n:Nat):Int) k.du (qrh hn) hd0 hd1 hroom
 have HLT:Hid (∀c,Fw c->c<w.heap.size):=hbd
 clear hfs hl hup hnum hcn hd0 hd1 hroom hn hbd
 cases fm with
 | none=>
  have hG:=Gr.refl (fun c=>Fw c\/(none:Option Nat)=some c) w
  have hq:=fun w=>qzi w
  go_enter func129,ntmps129
  go_upto_region 3 with(first|((with_reducible refine gB 48 2 ?_);refine bx 48 (.tmp 2) (fc k) ?_;intro b5 w9 l9 R9 h9;replace M:=M.below h9;replace hG:=hG.trans (Gr.of_below (F:=fun _=>False) h9) (fun x hx=>hx.elim);have B5:=R9;have HB5:Hid (¬Fw b5):=hidN (fun hf=>by have:=HLT.out b5 hf;omega);have HL5:Hid (w.heap.size<=b5):=l9;clear R9 h9;have c34:=(M.cell 34).trans M.c34)|((with_reducible refine qaa (.makeMap 83 none) rfl ?_);refine qz0 83 rfl rfl ?_;intro bm w9 l9 h9 hmk;have HBM:Hid (b5≠bm):=hidN (by have:=B5.lt;omega);have HMM:Hid (bm≠b):=hidN (by have:=M.lt;omega);have HBL:Hid (w.heap.size<=bm):=hidN (by have:=hG.size;omega);replace M:=M.below h9;replace B5:=B5.below h9;replace hG:=hG.trans (Gr.of_below (F:=fun _=>False) h9) (fun x hx=>hx.elim);clear h9 l9;clear c34;have c34:=(M.cell 34).trans M.c34)|((with_reducible refine gS 83 14 12 ?_);refine qse M.row rfl (.tmp 14) (.tmp 12) rfl 34 rfl (some bm) rfl _ M.c34 ?_;intro w9 R9 t9;replace B5:=t9.row B5 (fun e=>HB5.out (e▸M.inb));replace hG:=hG.trans (qcq t9) (fun x hx=>.inl (.inl (hx▸M.inb)));replace M:=M.mapNew (fun hf=>by have:=HLT.out bm hf;have:=HBL.out;omega) R9 t9 (qwf (qdy hmk (t9.other bm HMM.out)));have HBW:Hid (∀x,x=bm->(Fw x\/(none:Option Nat)=some x)\/w.heap.size<=x):=hidN (fun x hx=>.inr (hx▸HBL.out));have HFM:Hid (∀c,some bm=some c->(none:Option Nat)=some c\/w.heap.size<=c):=hidN (fun c hc=>.inr (Option.some.inj hc▸HBL.out));clear R9 t9 hmk c34 HMM))
  exact sZxn21
 | some bm=>
  have hG:=Gr.refl (fun c=>Fw c\/some bm=some c) w
  have hq:=fun w=>qwt bm w
  have HBW:Hid (∀x,x=bm->(Fw x\/some bm=some x)\/w.heap.size<=x):=hidN (fun x hx=>.inl (.inr (hx▸rfl)))
  have HFM:Hid (∀c,some bm=some c->some bm=some c\/w.heap.size<=c):=hidN (fun c hc=>.inl hc)
  have hlm:bm<w.heap.size:=by rcases M.flows with⟨h,_⟩|⟨c,h,hm⟩;cases h;cases h;exact hm.lt
  have HLM:Hid (bm<w.heap.size):=hlm
  clear hlm
  go_enter func129,ntmps129
  go_upto_region 3 with(first|((with_reducible refine gB 48 2 ?_);refine bx 48 (.tmp 2) (fc k) ?_;intro b5 w9 l9 R9 h9;replace M:=M.below h9;replace hG:=hG.trans (Gr.of_below (F:=fun _=>False) h9) (fun x hx=>hx.elim);have B5:=R9;have HB5:Hid (¬Fw b5):=hidN (fun hf=>by have:=HLT.out b5 hf;omega);have HBM:Hid (b5≠bm):=hidN (by have:=HLM.out;omega);clear R9 h9;have c34:=(M.cell 34).trans M.c34))
  exact sZxn21
theorem qzz(n:Int)(w:World):(Instr.buildSlice 84 1 #[(0,.int .i64 n)]).run prog w=.ok (.slice (some ⟨w.heap.size,0,none⟩) 1 1) (w.alloc (.cells #[.int .i64 n] 3)):=by
 simp[go_sem,underlying84]
theorem qot{o:Oper}{a:Act}{w:World}{K:Act->World->Prop}{Q:Exit->Act->World->Prop}(x:Operand)(ho:o.op=.buildSlice 84 1 #[(0,x)])(n:Int)(hx:a.eval x=.int .i64 n)(hr:∀b w',w.heap.size<=b->Row 3 w' b #[.int .i64 n]->Below w.heap.size w w'->K (a.put o.dst (.slice (some ⟨b,0,none⟩) 1 1)) w'):o.wp prog a w K Q:=by
 have h':=hr w.heap.size (w.alloc (.cells #[.int .i64 n] 3)) (Nat.le_refl _) (Row.new _ w _) ((Below.refl _ _).alloc (Nat.le_refl _) _)
 unfold Oper.wp execOp
 simp only[ho,List.map_toArray,List.map_cons,List.map_nil,hx,Sem.run_bind,qzz,Result.andThen_ok,Sem.run_pure]
 exact h'
theorem q3k:(prog.info? 3).map (fun i=>(i.zero,i.size,i.bytes))=some (some (.int .i64 0),1,8):=by kernel_rfl
theorem qjs{o:Oper}{a:Act}{w:World}{K:Act->World->Prop}{Q:Exit->Act->World->Prop}(s x:Operand)(ho:o.op=.call { callee:=.builtin .append,args:=#[s,x],argTypes:=#[84,84] }){c:Nat}{v:Value}{l:List Int}{n:Int}(h:Own w v l)(R:Row 3 w c #[.int .i64 n])(hs:a.eval s=v)(hx:a.eval x=.slice (some ⟨c,0,none⟩) 1 1)(hl:l.length<=1000000)(hr:∀v' w',Own w' v' (l++[n])->w.grownBy w' v.ownBlock->(v'.ownBlock=v.ownBlock\/v'.ownBlock=some w.heap.size)->K (a.put o.dst v') w'):o.wp prog a w K Q:=by
 obtain⟨i0,hi,hz0,hz1,hz2⟩:=info_parts q3k
 obtain⟨v',w',hrun,h2,h3,h4,h5⟩:=run_append_own_at (P:=prog) w 0 84 o.type 3 i0 (.int .i64 0) 1 8 underlying84 hi hz0 hz1 hz2 rfl (by decide) v l.length (l.map (Value.int .i64)) h ⟨c,0,none⟩ 1 1 [.int .i64 n] rfl (by
  intro j u hj
  match j,hj with
  | 0,hj=>
   have e:Value.int .i64 n=u:=by simpa using hj
   subst e
   rw[Addr.add_lit,Nat.zero_add]
   exact(R.cell 0).trans rfl) (by intro u hu;simp at hu;subst hu;rfl) (by unfold maxLen;omega) om om
 unfold Oper.wp execOp
 simp only[ho,resolve,invoke,builtin,Sem.run_bind,Sem.run_pure,Result.andThen_ok,List.map_toArray,List.map_cons,List.map_nil,hs,hx,hrun]
 refine hr v' w' ?_ h3 h5
 have e1:(l++[n]).length=l.length+1:=by simp
 have e2:(l++[n]).map (Value.int .i64)=l.map (Value.int .i64)++[.int .i64 n]:=by simp
 show w'.ownsRow 0 3 1 v' (l++[n]).length ((l++[n]).map (Value.int .i64))
 rw[e1,e2];exact h2
theorem qgb{o:Oper}{a:Act}{w:World}{K:Act->World->Prop}{Q:Exit->Act->World->Prop}{t:TypeId}{b:Nat}{cs:Array Value}(R:Row t w b cs)(x y:Operand)(ho:o.op=.store 84 x y)(f:Nat)(hx:a.eval x=.pointer (some ⟨b,f,none⟩))(v:Value)(sa:Option Addr)(n c:Nat)(hv:v=.slice sa n c)(hy:a.eval y=v)(m:Value)(hc:cs[f]?=some m)(hr:∀w',Row t w' b (cs.setIfInBounds f v)->qbl b w w'->K (a.put o.dst undef) w'):o.wp prog a w K Q:=by
 have hcell:=(R.cell f).trans hc
 have hfr:=R.free f
 subst hv
 unfold Oper.wp execOp
 simp only[ho,hx,hy]
 simp[go_sem,hcell,hfr,underlying84]
 exact hr _ R.set (qfx _ _ _ _)
theorem qr9{ops:Array Oper}{rest:List Oper}{o:Oper}{a:Act}{w:World}{Q:Exit->Act->World->Prop}{t:TypeId}{b:Nat}{cs:Array Value}(R:Row t w b cs)(hgd:o.guard=none)(x y:Operand)(ho:o.op=.store 84 x y)(f:Nat)(hx:a.eval x=.pointer (some ⟨b,f,none⟩))(v:Value)(sa:Option Addr)(n c:Nat)(hv:v=.slice sa n c)(hy:a.eval y=v)(m:Value)(hc:cs[f]?=some m)(hr:∀w',Row t w' b (cs.setIfInBounds f v)->qbl b w w'->wpList prog ops Q rest (a.put o.dst undef) w'):wpList prog ops Q (o::rest) a w:=
 wpList_plain hgd fun K hK=>qgb R x y ho f hx v sa n c hv hy m hc (fun w' h1 h2=>hK _ _ (hr w' h1 h2))
theorem qly{o:Oper}{a:Act}{w:World}{K:Act->World->Prop}{Q:Exit->Act->World->Prop}(x:Operand)(ho:o.op=.load 84 x)(b f:Nat)(hx:a.eval x=.pointer (some ⟨b,f,none⟩))(v:Value)(hc:w.cell? ⟨b,f,none⟩=some v)(hr:K (a.put o.dst v) w):o.wp prog a w K Q:=by
 unfold Oper.wp execOp
 simp only[ho,hx]
 simp[go_sem,hc,underlying84]
 exact hr
section
variable {w w':World} {b:Nat} {cs cs':Array Value} {v ov:Value} {fm:Option Nat} {D:DataW Unit} {Fw:Nat->Prop} {cnt:Nat} {s:Nt} {tm:Int->Option Int} {is:List Int}
theorem NatM.order{w8:World}{ov':Value}{is':List Int}(h:NatM w b cs v ov fm D Fw cnt s tm is)(hbd:∀c,Fw c->c<w.heap.size)(hg:w.grownBy w8 ov.ownBlock)(ho:Own w8 ov' is')(hl:∀c,ov'.ownBlock=some c->ov.ownBlock=some c\/w.heap.size<=c)(R:Row 91 w' b (cs.setIfInBounds 35 ov'))(T:qbl b w8 w'):NatM w' b (cs.setIfInBounds 35 ov') v ov' fm D Fw cnt s tm is':=by
 have G:Gr (fun c=>ov.ownBlock=some c) w w8:=Gr.of_grown hg (fun c hc=>hc)
 have h8:=h.wheel.keep G (fun c hc e=>h.ovNot c e hc)
 have hb:b<w.heap.size:=h.lt
 have hob:ov'.ownBlock≠some b:=fun e=>by rcases hl b e with h1|h1;exact h.ovb h1;omega
 refine⟨h8.turn R zm (fun i h1 h2=>qce _ _ _ _ om) T.other,by simpa using h.size,(qce _ _ _ _ om).trans h.c0,(qce _ _ _ _ om).trans h.c1,(qce _ _ _ _ om).trans h.c2,(qce _ _ _ _ om).trans h.c3,fun k hk=>(qce _ _ _ _ om).trans (h.ct k hk),(qce _ _ _ _ om).trans h.c34,qm1 _ _ _ (by rw[h.size];omega),(qce _ _ _ _ om).trans h.c36,qc4 h.maps (fun h0=>(T.other _ (h.msb h0)).trans (G.block _ (h.maps.lt h0) (h.msNot h0).2)),h.nil,qfc ho (fun c hc=>T.other c (fun e=>hob (e▸hc))),?_,h.reads,h.sized,h.few,h.fmNot,fun c hc=>?_,fun h0=>⟨(h.msNot h0).1,fun e=>?_⟩,h.up,h.num,h.bg⟩
 ·rcases h.flows with h0|⟨bm,h1,h2⟩
  ·exact .inl h0
  ·exact .inr ⟨bm,h1,qdy h2 ((T.other bm (fun e=>h.fmb (e▸h1))).trans (G.block bm h2.lt (h.fmov h1)))⟩
 ·rcases hl c hc with h1|h1
  ·exact h.ovNot c h1
  ·exact fun hf=>by have:=hbd c hf;omega
 ·rcases hl _ e with h1|h1
  ·exact(h.msNot h0).2 h1
  ·have:=h.maps.lt h0;omega
end
theorem sZxn24{p:Prop}(h:p:=by
 rw[List.find?_append]
 by_cases e:i=(n:Int)
 ·subst e
  rw[if_pos rfl]
  have:fs.find? (fun x=>decide ((x.1:Int)=(n:Int)))=none:=by
   rw[List.find?_eq_none]
   intro x hx
   have:=h x hx
   simp;omega
  rw[this];simp
 ·rw[if_neg e]
  have e2:decide (((n:Nat):Int)=i)=false:=decide_eq_false (fun h=>e h.symm)
  cases hf:fs.find? (fun x=>decide ((x.1:Int)=i))<;>simp[e2,hf]):p:=h
theorem qqn{fs:List (Nat×Fl)}{n:Nat}{k:Fl}(h:∀x∈fs,x.1<n):duF (fs++[(n,k)])=setD (duF fs) (n:Int) k.du:=by
 funext i
 unfold duF setD
 exact sZxn24
theorem qjq{fs:List (Nat×Fl)}{n:Nat}{k:Fl}(h:∀x∈fs,x.1<n):fsF (fs++[(n,k)])=qh4 (fsF fs) (n:Int) k:=by
 funext i
 unfold fsF qh4
 exact sZxn24
theorem qlc{fs:List (Nat×Fl)}{n:Nat}(h:∀x∈fs,x.1<n):fs.find? (fun x=>decide ((x.1:Int)=(n:Int)))=none:=by
 rw[List.find?_eq_none]
 intro x hx
 have:=h x hx
 simp;omega
theorem quy(p s:Int):4<=qb0 p s/\qb0 p s<=60:=by unfold qb0;(repeat' split)<;>omega
theorem qw8{ops:Array Oper}{S:World->Prop}{o:Oper}{a:Act}(x y:Operand)(ho:o.op=.binOp .add 3 x y 3)(hw:Region.wanted o (yielded ops a.tmps)=true)(m n d:Int)(hx:a.eval x=.int .i64 m)(hy:a.eval y=.int .i64 n)(hd:IntKind.i64.wrap (m+n)=d):YieldsIf prog ops S o (.int .i64 d) a:=
 .inl ⟨hw,fun w _=>by unfold execOp;simp only[ho,hx,hy];simp[go_sem,Act.eval];exact hd⟩
theorem qap{b:Nat}{w w':World}(h:qbl b w.drew w'):qbl b w w':=⟨h.size,h.other,fun B w0 hB hb=>h.below B w0 hB (qbv hb)⟩
theorem qaj{w w':World}(h:Below w.drew.heap.size w.drew w'):Below w.heap.size w w':=⟨h.os,h.tape,h.output,h.size,h.block⟩
theorem qg2{w:World}{b:Nat}{cs:Array Value}{v ov:Value}{fm:Option Nat}{D:DataW Unit}{Fw:Nat->Prop}{cnt:Nat}{s:Nt}{tm:Int->Option Int}(M:NatM w b cs v ov fm D Fw cnt s tm (s.fs.map fun x=>(x.1:Int))):qaw w b s tm (FpN Fw fm ov v s.ms):=⟨_,_,_,_,_,_,_,M,fun _ h=>h⟩
theorem NatM.bound{w:World}{b:Nat}{cs:Array Value}{v ov:Value}{fm:Option Nat}{D:DataW Unit}{Fw:Nat->Prop}{cnt:Nat}{s:Nt}{tm:Int->Option Int}{is:List Int}(M:NatM w b cs v ov fm D Fw cnt s tm is):NatM w b cs v ov fm D (fun c=>Fw c/\c<w.heap.size) cnt s tm is:=
 ⟨M.wheel.bound,M.size,M.c0,M.c1,M.c2,M.c3,M.ct,M.c34,M.c35,M.c36,M.maps,M.nil,M.ids,M.flows,M.reads,M.sized,M.few,fun c hc hh=>M.fmNot c hc hh.1,fun c hc hh=>M.ovNot c hc hh.1,fun h0=>⟨fun hh=>(M.msNot h0).1 hh.1,(M.msNot h0).2⟩,M.up,M.num,M.bg⟩
theorem NatM.fpLt{w:World}{b:Nat}{cs:Array Value}{v ov:Value}{fm:Option Nat}{D:DataW Unit}{Fw:Nat->Prop}{cnt:Nat}{s:Nt}{tm:Int->Option Int}{is:List Int}(M:NatM w b cs v ov fm D Fw cnt s tm is)(hbd:∀c,Fw c->c<w.heap.size){c:Nat}(hc:FpN Fw fm ov v s.ms c):c<w.heap.size:=by
 rcases hc with h1|h1|h1|⟨h1,rfl⟩
 ·exact hbd c h1
 ·rcases M.flows with⟨e,_⟩|⟨bm,e,hm⟩
  ·rw[e] at h1;cases h1
  ·rw[e] at h1;cases h1;exact hm.lt
 ·obtain⟨cur,m,hh⟩:=qe6 M.ids h1
  exact(Array.getElem?_eq_some_iff.1 hh).1
 ·exact M.maps.lt h1
theorem qil{o:Oper}{a:Act}{w:World}{K:Act->World->Prop}{Q:Exit->Act->World->Prop}(x:Operand)(ho:o.op=.load 3 x)(b f:Nat)(hx:a.eval x=.pointer (some ⟨b,f,none⟩))(n:Int)(hc:w.cell? ⟨b,f,none⟩=some (.int .i64 n))(hr:K (a.put o.dst (.int .i64 n)) w):o.wp prog a w K Q:=by
 unfold Oper.wp execOp
 simp only[ho,hx]
 simp[go_sem,hc,underlying3]
 exact hr
def RorN(W:World)(b3:Nat)(k k':Fl):Prop:=Row 48 W b3 (fc k)\/Row 48 W b3 (fc k')
theorem qapb{W:World}{b3:Nat}{k k':Fl}(h:Row 48 W b3 (fc k)):RorN W b3 k k':=.inl h
theorem qawb{W:World}{b3:Nat}{k k':Fl}(h:Row 48 W b3 (fc k')):RorN W b3 k k':=.inr h
theorem qlb{v v':Value}{n m:Nat}(h:v'.ownBlock=v.ownBlock\/v'.ownBlock=some n)(hm:m<=n):∀c,v'.ownBlock=some c->v.ownBlock=some c\/m<=c:=by
 intro c hc
 rcases h with h|h
 ·exact .inl (h▸hc)
 ·rw[h] at hc;cases hc;exact .inr hm
theorem qjh{fs:List (Nat×Fl)}{n:Nat}{k:Fl}(hp:fs.Pairwise (fun x y=>x.1<y.1))(h:∀x∈fs,x.1<n):(fs++[(n,k)]).Pairwise (fun x y=>x.1<y.1):=by
 rw[List.pairwise_append]
 exact⟨hp,by simp,fun x hx y hy=>by obtain rfl:=List.mem_singleton.1 hy;exact h x hx⟩
theorem q8r{n l:Int}(h:4<=l):max (n+l) n=n+l:=by omega
end Go.Proofs.YtnicenfgemkdnaaGreatDoor
