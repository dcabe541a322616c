/-
  Of what a law stands on.
-/
import Derived.Test.YtnhafdkfjjplkaaDoorZrr4
set_option linter.unusedSimpArgs false
set_option linter.unusedVariables false
namespace Go.Proofs.YtnhafdkfjjplkaaDoor
open Go.Value renaming int → I,pointer → V
open Go.IntKind renaming i64 → Z
open _root_.Go.Proofs.Tryd Go.ChangeShapes Go.WideShapes Go.ChangeAt Go.RowKit
set_option maxHeartbeats 16000000
set_option maxRecDepth 100000
variable {ops:Array Oper}{S:World->Prop}{o:Oper}{a:Act}{w:World}{A L N base c e k n sc:Nat}{es:List Ev}{M:List UInt8}{sa:Option Addr}{p:Prop}
def strN:Value->Nat
 | .string s=>s.size
 | _=>0
theorem q07b(l:List UInt8)(N a k:Nat)(h:a+k<=N):((l.take N).drop a).take k=(l.drop a).take k:=by
 rw[List.drop_take,List.take_take];congr 1;omega
theorem q0ob(l:List UInt8)(N a b:Nat)(h:b<=N)(hab:a<=b):(txt (l.take N)).extract a b=txt ((l.drop a).take (b-a)):=by
 rw[qe3b,q07b _ _ _ _ om]
theorem q0lb(x:Operand)(i j:Nat)(ho:o.op=.slice 9 x (some (.const (I Z (i:Int)))) (some (.const (I Z (j:Int)))) none)(hw:Region.wanted o (yielded ops a.tmps)=true)(s:ByteArray)(hx:a.eval x=.string s)(hij:i<=j)(hj:j<=s.size)(u:ByteArray)(hu:s.extract i j=u):YieldsIf prog ops S o (.string u) a:=
 .inl ⟨hw,fun w _=>by
  (have h2:(i:Int)<=(j:Int):=by omega);(have h3:(j:Int)<=(s.size:Int):=by omega)
  unfold execOp
  simp only[ho,Option.map_some,Option.map_none,hx]
  simp[go_sem,hij,hj,h2,h3,hu,Act.eval]⟩
theorem q0gb(s:ByteArray)(i j:Nat)(hij:i<=j)(hj:j<=s.size)(u:ByteArray)(hu:s.extract i j=u)(w:World):(Instr.slice 9 (.string s) (some (I Z (i:Int))) (some (I Z (j:Int))) none).run prog w=.ok (.string u) w:=by
 (have h2:(i:Int)<=(j:Int):=by omega);(have h3:(j:Int)<=(s.size:Int):=by omega)
 simp[go_sem,hij,hj,h2,h3,hu]
theorem q0ib(x:Operand)(m:Int)(ho:o.op=.binOp .rem 3 x (.const (I Z 4294967296)) 3)(hw:Region.wanted o (yielded ops a.tmps)=true)(hx:a.eval x=I Z m)(h0:0<=m):YieldsIf prog ops S o (I Z (m%4294967296)) a:=
 .inl ⟨hw,fun w _=>by
  have e:=Int.tmod_eq_emod_of_nonneg (b:=4294967296) h0
  unfold execOp
  simp only[ho,hx]
  simp[go_sem,e,Act.eval]⟩
theorem qz5b(x:Operand)(ho:o.op=.fieldAddr 29 x 0)(hw:Region.wanted o (yielded ops a.tmps)=true)(b f:Nat)(hx:a.eval x=V (some ⟨b,f,none⟩)):YieldsIf prog ops S o (V (some ⟨b,f,none⟩)) a:=
 .inl ⟨hw,fun w _=>by
  unfold execOp
  simp only[ho,hx]
  simp[go_sem,underlying29]⟩
theorem q1pb(ty:TypeId)(sa:Option Addr)(n c:Nat)(w:World):(Builtin.len_ #[22] ty #[.slice sa n c]).run prog w=.ok (I Z (n:Int)) w:=by
 simp[go_sem]
theorem q0bb(x:Operand)(ho:o.op=.call { callee:=.builtin .len,args:=#[x],argTypes:=#[22] })(hw:Region.wanted o (yielded ops a.tmps)=true)(sa:Option Addr)(n c:Nat)(hx:a.eval x=.slice sa n c):YieldsIf prog ops S o (I Z (n:Int)) a:=
 .inl ⟨hw,fun w _=>by
  unfold execOp
  simp only[ho,resolve,invoke,builtin,Sem.run_bind,Sem.run_pure,Result.andThen_ok,List.map_toArray,List.map_cons,List.map_nil,hx,q1pb]⟩
theorem q0wb(x y:Operand)(ho:o.op=.binOp .sub 3 x y 3)(hw:Region.wanted o (yielded ops a.tmps)=true)(m n r:Int)(hx:a.eval x=I Z m)(hy:a.eval y=I Z n)(hr:m-n=r)(h0:-9223372036854775808<=r)(h1:r<=9223372036854775807):YieldsIf prog ops S o (I Z r) a:=
 .inl ⟨hw,fun w _=>by
  (have e:IntKind.i64.wrap (m-n)=r:=by rw[hr];simp[IntKind.wrap,IntKind.bits,IntKind.signed];omega)
  unfold execOp
  simp only[ho,hx,hy]
  simp[go_sem,e]⟩
theorem q00b(x y:Operand)(ho:o.op=.binOp .lss 3 x y 3)(hw:Region.wanted o (yielded ops a.tmps)=true)(m n:Int)(b:Bool)(hx:a.eval x=I Z m)(hy:a.eval y=I Z n)(hb:decide (m<n)=b):YieldsIf prog ops S o (.bool b) a:=
 .inl ⟨hw,fun w _=>by unfold execOp;simp only[ho,hx,hy];simp[go_sem,hb,eqGuard]⟩
theorem qmrb(x y:Operand)(ho:o.op=.binOp .gtr 3 x y 3)(hw:Region.wanted o (yielded ops a.tmps)=true)(m n:Int)(b:Bool)(hx:a.eval x=I Z m)(hy:a.eval y=I Z n)(hb:decide (n<m)=b):YieldsIf prog ops S o (.bool b) a:=
 .inl ⟨hw,fun w _=>by unfold execOp;simp only[ho,hx,hy];simp[go_sem,hb,eqGuard]⟩
theorem q0nb(l:List UInt8)(a k:Nat)(h:a+k<=21):nAt (l.take 21) a k=nAt l a k:=by unfold nAt;rw[q07b _ _ _ _ h]
theorem q1db(l:List UInt8):rdE (l.take 21)=rdE l:=by
 unfold rdE
 rw[q0nb _ 0 8 om,q0nb _ 8 4 om,q0nb _ 12 4 om,q0nb _ 16 2 om,q0nb _ 20 1 om]
theorem q1tb(l:List UInt8):okR (l.take 21)↔okR l:=by unfold okR;rw[q1db,List.take_take];simp
theorem q1lb{v:Value}(h:EvO w base v es):∃a n cap,Hid (n=es.length)/\v=.slice a n cap:=by
 obtain⟨a,c,e⟩:=h.slice
 exact⟨a,_,c,rfl,e⟩
theorem la21(h1:N=20+21*c)(h2:A=20+21*k)(h3:k<c):A+21<=N:=by omega
theorem la3(h2:A=20+21*k):A+21=20+21*(k+1):=by omega
theorem lm1(h:k<c):c-k=(c-(k+1))+1:=by omega
theorem ls2{a:Nat}(h1:n=a)(h2:a=e+k)(h3:e<=4294967295)(h4:k<=c)(h5:c<=3120):n<=4294970500:=by omega
theorem lep{a:Nat}(h2:a=e+k)(h3:e<=4294967295)(h4:k<=c)(h5:c<=3120):a<=3518437208780:=by omega
theorem lpu{a:Nat}(h2:a=e+k)(h3:e<=4294967295)(h4:k<=c)(h5:c<=3120):a<=5000000000:=by omega
theorem lai(h:A+21<=N):(A:Int)<(N:Int):=by omega
theorem lwa(h:A+21<=N)(h2:N<=L)(h3:L<=140737488351232):wrap64 ((A:Int)+21)=(A:Int)+21:=by unfold wrap64;omega
theorem lq21(h:A+21<=N)(h2:N<=M.length):((M.drop A).take 21).length=21:=by rw[List.length_take,List.length_drop];omega
theorem lxA(M:List UInt8)(N A:Nat)(h:A+21<=N):(txt (M.take N)).extract A (A+21)=txt ((M.drop A).take 21):=by rw[q0ob M N A (A+21) h om];congr 2;omega
theorem lsA(M:List UInt8)(N A:Nat)(h:A+21<=N)(h2:N<=M.length)(w:World):(Instr.slice 9 (.string (txt (M.take N))) (some (I Z (A:Int))) (some (I Z ((A:Int)+21))) none).run prog w=.ok (.string (txt ((M.drop A).take 21))) w:=
 q0gb (txt (M.take N)) A (A+21) om (by rw[qck,List.length_take];omega) _ (lxA M N A h) w
theorem lnl(h1:N=20+21*c)(h2:A=20+21*k)(h3:¬k<c):¬(A:Int)<(N:Int):=by omega
theorem lsub(h:n<=4294970500):-9223372036854775808<=(n:Int)-1/\(n:Int)-1<=9223372036854775807:=by omega
theorem q0qb{a b:List Ev}{x:Ev}(h:a.length=b.length+k):(a++[x]).length=b.length+(k+1):=by rw[List.length_append,h];simp;omega
theorem lat0(A:Nat):Value.int .i64 ((A:Int)+21)=Value.int .i64 ((A+21:Nat):Int):=rfl
theorem lat1(h:wrap64 ((A:Int)+21)=(A:Int)+21):Value.int .i64 (wrap64 ((A:Int)+21))=Value.int .i64 ((A+21:Nat):Int):=by rw[h];rfl
theorem q04b(h:A+21<=N):N-((A:Int)+21).toNat<N-((A:Int)).toNat:=by omega
theorem ldr1(h:M.length<=n+1)(h2:20<=N):(M.drop N).length<=n:=by rw[List.length_drop];omega
theorem ldr2(h:M.length<=L):(M.drop N).length<=L:=by rw[List.length_drop];omega
theorem lgt(h:n=0):decide ((0:Int)<(n:Int))=false:=by simp;omega
theorem lgt'(h:¬n=0):decide ((0:Int)<(n:Int))=true:=by simp;omega
theorem lIL(hE:EvO w base (.slice sa n sc) es)(h:n=es.length)(h0:¬n=0)(hl:es.length<=3518437208780)(w2:World):(Instr.indexAt 22 (.slice sa n sc) (I Z ((n:Int)-1))).run prog w2=.ok (V (some ⟨eb (.slice sa n sc),eo (.slice sa n sc)+5*(n-1),none⟩)) w2:=by
 have:=(EvO.at hE hl).index (n-1) om w2
 rw[show((n-1:Nat):Int)=(n:Int)-1 by omega] at this
 exact this
theorem lCL(hE:EvO w base (.slice sa n sc) es)(h:n=es.length)(h0:0<es.length)(hl:es.length<=3518437208780){e:Ev}(he:es[es.length-1]'om=e):w.cell? ⟨eb (.slice sa n sc),eo (.slice sa n sc)+5*(n-1),none⟩=some (I Z e.t):=by
 have:=(EvO.at hE hl).at (es.length-1) om he 0 _ rfl
 rw[←h] at this
 exact this
theorem sZrr56(h:p:=by
 go_ret2
 exact⟨⟨.slice none 0 0,by rw[HX.out];rfl,by rw[HX.out];exact⟨none,0,rfl,fun h=>absurd h zm,fun j hj=>absurd hj zm,by simp⟩⟩,hB⟩):p:=h
theorem sZrr51(h:p:=by
 go_wp2_with (first|(go_at_call 28;go_fit (N02 _);refine m02 ?_;intro w5 hb5 hE hB)|(go_at_call 28;go_fit (N22 _);refine m02 ?_;clear hE hB;intro w5 hb5 hE hB)|(go_at_call 28;go_fit (N12 _);refine m02 ?_;clear hE hB;intro w5 hb5 hE hB)|(go_at_call 28;go_fit (N16 _);refine m02 ?_;clear hE hB;intro w5 hb5 hE hB)|(go_at_call 28;go_fit (N18 _);refine m02 ?_;clear hE hB;intro w5 hb5 hE hB)|(go_at_call 28;go_fit (N08 _);refine m02 ?_;clear hE hB;intro w5 hb5 hE hB))
 exact sZrr56):p:=h
theorem sZrr57(h:p:=by
 (try simp only[ZZ]);refine AN ?_
 go_wp2
 go_ret2
 exact⟨⟨.slice none 0 0,by rw[HX.out];rfl,by rw[HX.out];exact⟨none,0,rfl,fun h=>absurd h zm,fun j hj=>absurd hj zm,by simp⟩⟩,by first|exact hB|exact qcxb hB⟩):p:=h
theorem sZrr52(h:p:=by
 refine tk 11 (.bool true) rfl (qj4b (.tmp 123) (.bool true) rfl kr kr) ⟨R12,hE⟩ ?_;(try simp only[ZZ]);refine tk 12 undef rfl (Or.inr ⟨by kernel_rfl,rfl⟩) ⟨R12,hE⟩ ?_;refine tk 13 undef rfl (Or.inr ⟨by kernel_rfl,rfl⟩) ⟨R12,hE⟩ ?_;refine tk 14 undef rfl (Or.inr ⟨by kernel_rfl,rfl⟩) ⟨R12,hE⟩ ?_;(try simp only[ZZ]);refine tk 15 undef rfl (Or.inr ⟨by kernel_rfl,rfl⟩) ⟨R12,hE⟩ ?_;refine m2n ?_;(try simp only[ZZ]);refine m1v ?_;(try simp only[ZZ]);refine m1w ?_;(try simp only[ZZ]);refine m2o ?_;refine tk 26 undef rfl (Or.inr ⟨by kernel_rfl,rfl⟩) ⟨R12,hE⟩ ?_;(try simp only[ZZ]);refine tk 27 (.bool true) rfl (q10 (.tmp 124) (.const (.bool true)) (.tmp 139) (.bool true) rfl kr kr kr) ⟨R12,hE⟩ ?_
 exact sZrr57):p:=h
theorem sZrr53(h:p:=by
 go_wp2_with (first|(go_at_call 28;go_fit (N02 _);refine m02 ?_;intro w5 hb5 hE hB)|(go_at_call 28;go_fit (N22 _);refine m02 ?_;clear hE hB;intro w5 hb5 hE hB)|(go_at_call 28;go_fit (N12 _);refine m02 ?_;clear hE hB;intro w5 hb5 hE hB)|(go_at_call 28;go_fit (N16 _);refine m02 ?_;clear hE hB;intro w5 hb5 hE hB)|(go_at_call 28;go_fit (N18 _);refine m02 ?_;clear hE hB;intro w5 hb5 hE hB)|(go_at_call 28;go_fit (N08 _);refine m02 ?_;clear hE hB;intro w5 hb5 hE hB)|(go_at_call 11;go_fit (CT _);refine m02 ?_;clear hE hB;intro w5 hb5 hE hB))
 exact sZrr56):p:=h
theorem sZrr54(h:p:=by
 (try simp only[ZZ]);refine tk 27 (.bool false) rfl (qkib (.tmp 124) (.const (.bool true)) (.tmp 139) (.bool false) rfl kr kr kr) ⟨R12,hE⟩ ?_;(try simp only[ZZ]);refine AN ?_
 go_wp2_with (first|((with_reducible refine gL 29 12 ?_);refine lx 29 (.tmp 12) (ec (rdE q)) R12 ?_)|((with_reducible refine atOp (.buildSlice 22 1 #[(0,.tmp 142)]) rfl ?_);refine qbj rfl (.tmp 142) rfl (rdE q) rfl ?_;intro b9 w7 g9 R9 hb7;replace hE:=EvO.below hE hb7;replace hB:=hB.trans (hb7.mono hB.size))|(at_builtin;refine qwb rfl (.tmp 141) (.tmp 143) rfl hE R9 rfl rfl HPU.out hB.size ?_;intro v8 w8 hE8 hG8;replace hB:=hB.trans (hG8.below hB.size (fun g hg=>(EvO.ge hE g hg).1))))
 go_roundw
 case rel=>first|exact⟨k+1,A+21,es2++[rdE q],HK1.out,HA3,lat0 A,hE8,(by show _=_;rw[HV2.out,qd4b hgood.out,HDR.out]),(q0qb HS.out),hB⟩|exact⟨k+1,A+21,es2++[rdE q],HK1.out,HA3,lat1 hwA,hE8,(by show _=_;rw[HV2.out,qd4b hgood.out,HDR.out]),(q0qb HS.out),hB⟩|((repeat apply Exists.intro);first|exact⟨⟨k+1,A+21,es2++[rdE q],HK1.out,HA3,lat0 A,hE8,(by show _=_;rw[HV2.out,qd4b hgood.out,HDR.out]),(q0qb HS.out),hB⟩,rfl⟩|exact⟨⟨k+1,A+21,es2++[rdE q],HK1.out,HA3,lat1 hwA,hE8,(by show _=_;rw[HV2.out,qd4b hgood.out,HDR.out]),(q0qb HS.out),hB⟩,rfl⟩)
 case measure=>first|exact q04b HA21.out|(rw[hwA];exact q04b HA21.out)):p:=h
theorem sZrr55(h:p:=by
 go_wp2_with (first|(go_at_call 28;go_fit (N02 _);refine m02 ?_;intro w5 hb5 hE hB)|(go_at_call 28;go_fit (N22 _);refine m02 ?_;clear hE hB;intro w5 hb5 hE hB)|(go_at_call 28;go_fit (N12 _);refine m02 ?_;clear hE hB;intro w5 hb5 hE hB))
 exact sZrr56):p:=h
theorem sZrr58(h:p:=by
 rcases k0 with k0|k0
 ·(have e0:(nAt M 16 2 != 2)=false:=by simpa using k0);clear k0
  exact sZrr51
 ·(have e0:(nAt M 16 2 != 2)=true:=by simp;omega);(have e2:(nAt M 16 2 != 300)=false:=by simpa using k0);clear k0
  exact sZrr51):p:=h
theorem q1cb(l:List UInt8)(w:World)(hl:l.length<=140737488351232):
  Calls prog 16 #[.string (txt l)] w fun x w'=>(∃v,x=.returned (.tuple #[v,I Z (runM l.length l false []).1])/\EvAt w' v (runM l.length l false []).2)/\Below w.heap.size w w':=by
 refine m2b ?_;intro hB;have hE:=EvO.nil w w.heap.size
 go_enter func16,ntmps16
 go_wp2
 go_loopw [0,4,5] (fun s v k W=>∃n m d es,s=.string (txt m)/\k=.bool d/\m.length<=n/\m.length<=l.length/\Hid (runM l.length l false []=runM n m d es)/\EvO W w.heap.size v es/\es.length<=4294970500/\Below w.heap.size w W) (fun s _ _ _=>strN s)
 case atStart=>exact⟨l.length,l,false,[],rfl,rfl,Nat.le_refl _,Nat.le_refl _,rfl,hE,by simp,hB⟩
 case round=>
  clear hB hE
  obtain⟨n,M,d,es,rfl,rfl,hmn,hml,HR,hE,hes,hB⟩:=hrel
  have hsz:(txt M).size=M.length:=qck M;(have hMl:M.length<=140737488351232:=by omega);obtain⟨sa,sc,hsl⟩:=hE.slice
  subst hsl
  by_cases h0:0<M.length
  case neg=>
   (have HX:Hid (runM l.length l false []=(0,es)):=by show _=_;rw[HR.out,qelb n M d es om]);(have h0':¬(0:Int)<(M.length:Int):=by omega);have hA:=hE.at om;clear HR
   go_wp2
   go_ret2
   exact⟨⟨_,by rw[HX.out];rfl,by rw[HX.out];exact hA⟩,hB⟩
  case pos=>
   obtain⟨n',rfl⟩:∃n',n=n'+1:=⟨n-1,by omega⟩
   (have h0':(0:Int)<(M.length:Int):=by omega);(have N02:=fun w=>qz7b ((M.drop 0).take 2) w (by rw[List.length_take];omega));(have N22:=fun w=>qz7b ((M.drop 2).take 2) w (by rw[List.length_take];omega));(have N12:=fun w=>qz7b ((M.drop 12).take 4) w (by rw[List.length_take];omega));(have N16:=fun w=>qz7b ((M.drop 16).take 2) w (by rw[List.length_take];omega));(have N18:=fun w=>qz7b ((M.drop 18).take 2) w (by rw[List.length_take];omega));(have N08:=fun w=>qz7b ((M.drop 8).take 4) w (by rw[List.length_take];omega));(have N04:=fun w=>qz7b ((M.drop 4).take 4) w (by rw[List.length_take];omega));have V02:Hid (num ((M.drop 0).take 2)=nAt M 0 2):=rfl;(have x02:(txt M).extract 0 2=txt ((M.drop 0).take 2):=by rw[qe3b]);(have x24:(txt M).extract 2 4=txt ((M.drop 2).take 2):=by rw[qe3b]);(have x1216:(txt M).extract 12 16=txt ((M.drop 12).take 4):=by rw[qe3b])
   change ∀w,Calls prog 28 #[.string (txt ((M.drop 0).take 2))] w fun e w'=>e=.returned (I Z (nAt M 0 2))/\Below w.heap.size w w' at N02
   change ∀w,Calls prog 28 #[.string (txt ((M.drop 2).take 2))] w fun e w'=>e=.returned (I Z (nAt M 2 2))/\Below w.heap.size w w' at N22
   change ∀w,Calls prog 28 #[.string (txt ((M.drop 12).take 4))] w fun e w'=>e=.returned (I Z (nAt M 12 4))/\Below w.heap.size w w' at N12
   change ∀w,Calls prog 28 #[.string (txt ((M.drop 16).take 2))] w fun e w'=>e=.returned (I Z (nAt M 16 2))/\Below w.heap.size w w' at N16
   change ∀w,Calls prog 28 #[.string (txt ((M.drop 18).take 2))] w fun e w'=>e=.returned (I Z (nAt M 18 2))/\Below w.heap.size w w' at N18
   change ∀w,Calls prog 28 #[.string (txt ((M.drop 8).take 4))] w fun e w'=>e=.returned (I Z (nAt M 8 4))/\Below w.heap.size w w' at N08
   change ∀w,Calls prog 28 #[.string (txt ((M.drop 4).take 4))] w fun e w'=>e=.returned (I Z (nAt M 4 4))/\Below w.heap.size w w' at N04
   have q2:=qc2b M 2 2 om;obtain⟨q20,q21⟩:=q2;(have ERR:∀E r,E≠0->qcsb M d es=(E,r)->Hid (runM l.length l false []=(E,[])):=fun E r h h2=>by show _=_;rw[HR.out,qgbb n' M d es om (by rw[h2];exact h),h2])
   by_cases h16:M.length<16
   ·(have g16:(M.length:Int)<16:=by omega);(have HX:=ERR 1 _ (by decide) (by unfold qcsb qctb;rw[if_pos h16];rw[if_pos (by decide)]));clear ERR HR h16
    go_wp2
    exact sZrr56
   (have g16:¬(M.length:Int)<16:=by omega);(have s24:∀w:World,(Instr.slice 9 (.string (txt M)) (some (I Z 2)) (some (I Z 4)) none).run prog w=.ok (.string (txt ((M.drop 2).take 2))) w:=fun w=>q0gb (txt M) 2 4 om (by rw[hsz];omega) _ x24 w);(have s1216:∀w:World,(Instr.slice 9 (.string (txt M)) (some (I Z 12)) (some (I Z 16)) none).run prog w=.ok (.string (txt ((M.drop 12).take 4))) w:=fun w=>q0gb (txt M) 12 16 om (by rw[hsz];omega) _ x1216 w)
   by_cases c0:nAt M 0 2≠10
   ·(have t0:(nAt M 0 2 != 10)=true:=by simpa using c0);refine m18 ?_;intro hh HX;clear ERR HR h16 hh c0
    exact sZrr55
   (have f0:(nAt M 0 2 != 10)=false:=by simpa using c0)
   by_cases c1:nAt M 2 2<20
   ·(have t1:decide (nAt M 2 2<20)=true:=by simpa using c1);refine m18 ?_;intro hh HX;clear ERR HR h16 hh c0 c1
    exact sZrr55
   (have f1:decide (nAt M 2 2<20)=false:=by simpa using c1)
   by_cases c2:(M.length:Int)<nAt M 2 2
   ·(have t2:decide ((M.length:Int)<nAt M 2 2)=true:=by simpa using c2);refine m18 ?_;intro hh HX;clear ERR HR h16 hh c0 c1 c2
    exact sZrr55
   (have f2:decide ((M.length:Int)<nAt M 2 2)=false:=by simpa using c2)
   by_cases c3:nAt M 12 4≠1
   ·(have t3:(nAt M 12 4 != 1)=true:=by simpa using c3);refine m18 ?_;intro hh HX;clear ERR HR h16 hh c0 c1 c2 c3
    exact sZrr55
   (have f3:(nAt M 12 4 != 1)=false:=by simpa using c3)
   obtain⟨N,hN⟩:∃N:Nat,nAt M 2 2=(N:Int):=⟨(nAt M 2 2).toNat,by omega⟩
   (have hN20:20<=N:=by omega);(have hNl:N<=M.length:=by omega);(have HTN:Hid ((nAt M 2 2).toNat=N):=by show _=_;omega);have h65:=qgsb M 2;(have h20:20<=M.length:=by omega);have HNN:Hid (nAt M 2 2=(N:Int)):=hN;(have hcN:Hid (∀ {P:Prop},(M.length<16->P)->True):=fun _=>trivial);(have HC:Hid (¬(nAt M 0 2≠10\/nAt M 2 2<20\/(M.length:Int)<nAt M 2 2\/nAt M 12 4≠1)):=by show ¬_;omega);have H16:Hid (¬M.length<16):=h16;clear c0 c1 c2 c3 h16
   rw[hN] at N22 f1 f2
   (have hNi:(N:Int)<=(M.length:Int):=by omega);(have hN65:(N:Int)<=65535:=by omega);(have hN20i:(20:Int)<=(N:Int):=by omega);have zL:=qdmb M N;have zR:=qfnb M N;(have hszN:(txt (M.take N)).size=N:=by rw[qck,List.length_take];omega);have y16:(txt (M.take N)).extract 16 18=txt ((M.drop 16).take 2):=q0ob M N 16 18 om om;have y18:(txt (M.take N)).extract 18 20=txt ((M.drop 18).take 2):=q0ob M N 18 20 om om;have y8:(txt (M.take N)).extract 8 12=txt ((M.drop 8).take 4):=q0ob M N 8 12 om om;have y4:(txt (M.take N)).extract 4 8=txt ((M.drop 4).take 4):=q0ob M N 4 8 om om;(have s1618:∀w:World,(Instr.slice 9 (.string (txt (M.take N))) (some (I Z 16)) (some (I Z 18)) none).run prog w=.ok (.string (txt ((M.drop 16).take 2))) w:=fun w=>q0gb (txt (M.take N)) 16 18 om (by rw[hszN];omega) _ y16 w);(have s1820:∀w:World,(Instr.slice 9 (.string (txt (M.take N))) (some (I Z 18)) (some (I Z 20)) none).run prog w=.ok (.string (txt ((M.drop 18).take 2))) w:=fun w=>q0gb (txt (M.take N)) 18 20 om (by rw[hszN];omega) _ y18 w);(have s812:∀w:World,(Instr.slice 9 (.string (txt (M.take N))) (some (I Z 8)) (some (I Z 12)) none).run prog w=.ok (.string (txt ((M.drop 8).take 4))) w:=fun w=>q0gb (txt (M.take N)) 8 12 om (by rw[hszN];omega) _ y8 w);(have s48:∀w:World,(Instr.slice 9 (.string (txt (M.take N))) (some (I Z 4)) (some (I Z 8)) none).run prog w=.ok (.string (txt ((M.drop 4).take 4))) w:=fun w=>q0gb (txt (M.take N)) 4 8 om (by rw[hszN];omega) _ y4 w);(have hw16:wrap64 ((N:Int)-16)=(N:Int)-16:=by unfold wrap64;omega);(have hw20:wrap64 ((N:Int)-20)=(N:Int)-20:=by unfold wrap64;omega);clear hN hN65
   by_cases k0:nAt M 16 2=2\/nAt M 16 2=300
   case neg=>
    (have e0:(nAt M 16 2 != 2)=true:=by simp;omega);(have e2:(nAt M 16 2 != 300)=true:=by simp;omega);(have hh:qctb M=1:=by unfold qctb;rw[if_neg H16.out,if_neg HC.out,if_pos om]);(have HX:=ERR 1 _ (by decide) (by unfold qcsb;rw[if_pos (by rw[hh];decide),hh]));clear ERR HR k0 hh
    exact sZrr51
   case pos=>
    by_cases k1:nAt M 18 2=(N:Int)-16
    case neg=>
     (have e1:(nAt M 18 2 != (N:Int)-16)=true:=by simpa using k1);(have hh:qctb M=1:=by unfold qctb;rw[if_neg H16.out,if_neg HC.out,if_pos (by rw[HNN.out];omega)]);(have HX:=ERR 1 _ (by decide) (by unfold qcsb;rw[if_pos (by rw[hh];decide),hh]));clear ERR HR k1 hh
     exact sZrr58
    case pos=>
     (have e1:(nAt M 18 2 != (N:Int)-16)=false:=by simpa using k1);(have hh:qctb M=0:=by unfold qctb;rw[if_neg H16.out,if_neg HC.out,if_neg (by rw[HNN.out];omega)]);have HH:Hid (qctb M=0):=hh;clear hh k1;(have CT0:=fun w=>qmsb (es.length:Int) w)
     by_cases hq:nAt M 8 4=(es.length:Int)
     case neg=>
      (have eq:(nAt M 8 4 != (es.length:Int))=true:=by simpa using hq);(have HX:=ERR 3 _ (by decide) (by unfold qcsb;rw[if_neg (by rw[HH.out];decide),if_pos hq]));clear ERR HR hq CT0
      exact sZrr58
     case pos=>
      (have eq:(nAt M 8 4 != (es.length:Int))=false:=by simpa using hq);have hqb:=qc2b M 8 4 om;(have hlong:qi0 (es.length:Int)=true:=by simp[qi0];omega);(have hes1:es.length<=4294967295:=by omega);have HQ:Hid (nAt M 8 4=(es.length:Int)):=hq;(have CT:∀w,Calls prog 11 #[I Z (es.length:Int)] w fun x w'=>x=.returned (.tuple #[.string (txt (msgB 0 (es.length:Int) 2 (tplB 6))),I Z 0])/\Below w.heap.size w w':=fun w=>by have:=CT0 w;rw[q4t _ _ _ _ hlong] at this;exact this);clear hq CT0 hqb hlong
      rcases k0 with k0|k0
      ·(have e0:(nAt M 16 2 != 2)=false:=by simpa using k0);(have e3:(nAt M 16 2==2)=true:=by simpa using k0)
       by_cases hm:M.take N=msgB 0 (es.length:Int) 2 (tplB 6)
       ·(have HST:Hid (qcsb M d es=(0,M.drop N,true,es)):=by show _=_;unfold qcsb;rw[if_neg (by rw[HH.out];decide),if_neg (by simpa using HQ.out),if_pos k0,HTN.out,if_pos hm]);(have gE:((txt (M.take N)).toList==(txt (msgB 0 (es.length:Int) 2 (tplB 6))).toList)=true:=by rw[hm];simp);refine m35 ?_;intro hlt' HLT;clear ERR hm k0 hlt'
        generalize msgB 0 (es.length:Int) 2 (tplB 6)=MM at *
        go_wp2_with (first|(go_at_call 28;go_fit (N02 _);refine m02 ?_;clear hE hB;intro w5 hb5 hE hB)|(go_at_call 28;go_fit (N22 _);refine m02 ?_;clear hE hB;intro w5 hb5 hE hB)|(go_at_call 28;go_fit (N12 _);refine m02 ?_;clear hE hB;intro w5 hb5 hE hB)|(go_at_call 28;go_fit (N16 _);refine m02 ?_;clear hE hB;intro w5 hb5 hE hB)|(go_at_call 28;go_fit (N18 _);refine m02 ?_;clear hE hB;intro w5 hb5 hE hB)|(go_at_call 28;go_fit (N08 _);refine m02 ?_;clear hE hB;intro w5 hb5 hE hB)|(go_at_call 11;go_fit (CT _);refine m02 ?_;clear hE hB;intro w5 hb5 hE hB))
        go_roundw
        case rel=>first|exact⟨n',M.drop N,true,es,rfl,rfl,ldr1 hmn hN20,ldr2 hml,(HR.out.trans (qd9b n' M d es (Nat.ne_of_gt h0) HST.out)),hE,hes,hB⟩|((repeat apply Exists.intro);exact⟨⟨n',M.drop N,true,es,rfl,rfl,ldr1 hmn hN20,ldr2 hml,(HR.out.trans (qd9b n' M d es (Nat.ne_of_gt h0) HST.out)),hE,hes,hB⟩,rfl⟩)
        case measure=>exact HLT.out
       ·(have gE:((txt (M.take N)).toList==(txt (msgB 0 (es.length:Int) 2 (tplB 6))).toList)=false:=by rw[ByteArray.toList_eq,ByteArray.toList_eq,qds,qds];simpa using hm);(have HX:=ERR 4 _ (by decide) (by unfold qcsb;rw[if_neg (by rw[HH.out];decide),if_neg (by simpa using HQ.out),if_pos k0,HTN.out,if_neg hm]));clear ERR HR hm k0
        generalize msgB 0 (es.length:Int) 2 (tplB 6)=MM at *
        exact sZrr53
      ·(have e0:(nAt M 16 2 != 2)=true:=by simp;omega);(have e2:(nAt M 16 2 != 300)=false:=by simpa using k0);(have e3:(nAt M 16 2==2)=false:=by simp;omega);(have K2:Hid (¬nAt M 16 2=2):=by show ¬_;omega);clear k0
       cases d with
       | false=>
        (have HX:=ERR 7 _ (by decide) (by unfold qcsb;rw[if_neg (by rw[HH.out];decide),if_neg (by simpa using HQ.out),if_neg K2.out,if_pos rfl]));clear ERR HR CT
        go_wp2_with (first|(go_at_call 28;go_fit (N02 _);refine m02 ?_;clear hE hB;intro w5 hb5 hE hB)|(go_at_call 28;go_fit (N22 _);refine m02 ?_;clear hE hB;intro w5 hb5 hE hB)|(go_at_call 28;go_fit (N12 _);refine m02 ?_;clear hE hB;intro w5 hb5 hE hB)|(go_at_call 28;go_fit (N16 _);refine m02 ?_;clear hE hB;intro w5 hb5 hE hB)|(go_at_call 28;go_fit (N18 _);refine m02 ?_;clear hE hB;intro w5 hb5 hE hB)|(go_at_call 28;go_fit (N08 _);refine m02 ?_;clear hE hB;intro w5 hb5 hE hB)|fail)
        exact sZrr56
       | true=>
        clear CT
        by_cases hf1:N=20
        ·(have g1:((N:Int)==20)=true:=by simp;omega);refine m2r ?_;intro HX;clear ERR HR hf1
         exact sZrr53
        (have g1:((N:Int)==20)=false:=by simp;omega);have hrem:((N:Int)-20).tmod 21=((N:Int)-20)%21:=Int.tmod_eq_emod_of_nonneg om
        by_cases hf2:((N:Int)-20)%21=0
        case neg=>
         (have g2:(((N:Int)-20)%21 != 0)=true:=by simpa using hf2);refine m2r ?_;intro HX;clear ERR HR hf1 hf2
         exact sZrr53
        case pos=>
         (have g2:(((N:Int)-20)%21 != 0)=false:=by simpa using hf2)
         obtain⟨c,hc⟩:∃c:Nat,N=20+21*c:=⟨(N-20)/21,by omega⟩
         have HCN:Hid (N=20+21*c):=hc;(have hc2:c<=3120:=by have:=HNN.out;omega);(have HCC:Hid (((nAt M 2 2-20)/21).toNat=c):=by show _=_;rw[HNN.out];omega);(have HF:Hid (¬(nAt M 2 2=20\/(nAt M 2 2-20)%21≠0)):=by show ¬_;rw[HNN.out];omega);(have HSL:∀es',evs (nAt M 4 4) c (M.drop 20) es=some es'->Hid (qcsb M true es=(0,M.drop N,true,es')):=fun es' h=>by show _=_;unfold qcsb;rw[if_neg (by rw[HH.out];decide),if_neg (by simpa using HQ.out),if_neg K2.out,if_neg zm,if_neg HF.out,HCC.out,HTN.out];rw[h]);(have HSN:evs (nAt M 4 4) c (M.drop 20) es=none->Hid (runM l.length l false []=(2,[])):=fun h=>ERR 2 ([],false,[]) (by decide) (by unfold qcsb;rw[if_neg (by rw[HH.out];decide),if_neg (by simpa using HQ.out),if_neg K2.out,if_neg zm,if_neg HF.out,HCC.out];rw[h]));refine m35 ?_;intro hlt' HLT;clear ERR hf1 hf2 hlt' hc
         go_wp2_with (first|(go_at_call 28;go_fit (N02 _);refine m02 ?_;clear hE hB;intro w5 hb5 hE hB)|(go_at_call 28;go_fit (N22 _);refine m02 ?_;clear hE hB;intro w5 hb5 hE hB)|(go_at_call 28;go_fit (N12 _);refine m02 ?_;clear hE hB;intro w5 hb5 hE hB)|(go_at_call 28;go_fit (N16 _);refine m02 ?_;clear hE hB;intro w5 hb5 hE hB)|(go_at_call 28;go_fit (N18 _);refine m02 ?_;clear hE hB;intro w5 hb5 hE hB)|(go_at_call 28;go_fit (N08 _);refine m02 ?_;clear hE hB;intro w5 hb5 hE hB))
         clear N02 N22 N12 N16 N18 N08 x02 x24 x1216 s24 s1216 s1618 s1820 s812 f0 f1 f2 f3 y16 y18 y8 e0 e1 e2 e3 eq g1 g2 hrem zL zR hw16 hw20 V02;have h8N:8<=(txt (M.take N)).size:=Nat.le_trans (by decide) (Nat.le_trans hN20 (Nat.le_of_eq hszN.symm));(have HNd:Hid (M.drop (20+21*c)=M.drop N):=by show _=_;rw[←HCN.out])
         go_loopw [11,4] (fun at' v2 W=>∃k A es2,k<=c/\Hid (A=20+21*k)/\at'=I Z (A:Int)/\EvO W w.heap.size v2 es2/\Hid (evs (nAt M 4 4) c (M.drop 20) es=evs (nAt M 4 4) (c-k) (M.drop A) es2)/\Hid (es2.length=es.length+k)/\Below w.heap.size w W) (fun at' _ _=>N-(intOf at').toNat)
         case atStart=>exact⟨0,20,es,by omega,rfl,rfl,hE,rfl,rfl,hB⟩
         case round=>
          clear hB hE
          obtain⟨k,A,es2,hk,HA,rfl,hE,HV,HS,hB⟩:=hrel
          obtain⟨sa2,nn,sc2,HNN2,hsl2⟩:=q1lb hE
          subst hsl2
          by_cases hlt:k<c
          case neg=>
           obtain rfl:k=c:=by omega
           have hst:=HSL es2 (by rw[HV.out,Nat.sub_self];rfl);have hnl:=lnl HCN.out HA.out (Nat.lt_irrefl _);have hs3:es2.length<=4294970500:=ls2 rfl HS.out hes1 (Nat.le_refl _) hc2
           go_wp2
           go_roundw
           case rel=>first|exact⟨n',M.drop N,true,es2,rfl,rfl,ldr1 hmn hN20,ldr2 hml,(HR.out.trans (qd9b n' M true es (Nat.ne_of_gt h0) hst.out)),hE,hs3,hB⟩|((repeat apply Exists.intro);exact⟨⟨n',M.drop N,true,es2,rfl,rfl,ldr1 hmn hN20,ldr2 hml,(HR.out.trans (qd9b n' M true es (Nat.ne_of_gt h0) hst.out)),hE,hs3,hB⟩,rfl⟩)
           case measure=>exact HLT.out
          case pos=>
           have HM1:Hid (c-k=(c-(k+1))+1):=lm1 hlt;have hA21:A+21<=N:=la21 HCN.out HA.out hlt;have HA3:Hid (A+21=20+21*(k+1)):=la3 HA.out;(have HV2:Hid (evs (nAt M 4 4) c (M.drop 20) es=evs (nAt M 4 4) ((c-(k+1))+1) (M.drop A) es2):=by show _=_;rw[HV.out,←HM1.out]);(have HDR:Hid ((M.drop A).drop 21=M.drop (A+21)):=by show _=_;rw[List.drop_drop]);have hs2:nn<=4294970500:=ls2 HNN2.out HS.out hes1 hk hc2;have hpu:es2.length<=5000000000:=lpu HS.out hes1 hk hc2;have hep:es2.length<=3518437208780:=lep HS.out hes1 hk hc2;have hk1:k+1<=c:=hlt;clear HV HM1 hlt hk;have hAi:=lai hA21;have hwA:=lwa hA21 hNl hMl
           obtain⟨q,hq⟩:∃q,M.drop A=q:=⟨_,rfl⟩
           (have sA:=fun w:World=>lsA M N A hA21 hNl w);have hq21:((M.drop A).take 21).length=21:=lq21 hA21 hNl
           rw[hq] at sA hq21
           rw[hq] at HV2 HDR
           (have CRA:=fun w=>q03b (q.take 21) w hq21)
           rw[q1tb,q1db] at CRA
           clear hq;have hlen2:nn=es2.length:=HNN2.out
           obtain⟨e,bq,HEB,CE⟩:∃e bq,Hid ((okR q/\e=rdE q/\bq=true)\/(¬okR q/\e=noE/\bq=false))/\∀w,Calls prog 29 #[.string (txt (q.take 21))] w fun x w'=>x=.returned (.tuple #[.agg (ec e),.bool bq])/\Below w.heap.size w w':=by
            by_cases hok:okR q
            ·exact⟨rdE q,true,Or.inl ⟨hok,rfl,rfl⟩,fun w=>(CRA w).mono (by rintro x w' ⟨⟨_,h⟩|⟨h,_⟩,hb⟩;exact⟨h,hb⟩;exact absurd hok h)⟩
            ·exact⟨noE,false,Or.inr ⟨hok,rfl,rfl⟩,fun w=>(CRA w).mono (by rintro x w' ⟨⟨h,_⟩|⟨_,h⟩,hb⟩;exact absurd h hok;exact⟨h,hb⟩)⟩
           clear CRA;have HSN2:Hid (evs (nAt M 4 4) c (M.drop 20) es=none->Hid (runM l.length l false []=(2,[]))):=HSN;have HLEN:Hid (nn=es2.length):=hlen2;clear hlen2 HSN HSL HR HLT HCN HCC HF HNd
           (try clear hml);(try clear hmn);(try clear hes);(try clear hMl);(try clear h0');(try clear q20);(try clear q21);(try clear h65);(try clear h20);(try clear hNl);(try clear hN20);(try clear hes1);(try clear hc2);(try clear hq21);(try clear h0);(try clear hNi);(try clear hN20i);(try clear hsz);(try clear hl)
           have HA21:Hid (A+21<=N):=hA21;have HPU:Hid (es2.length<=5000000000):=hpu;have HEP:Hid (es2.length<=3518437208780):=hep;have HS2:Hid (nn<=4294970500):=hs2;have HK1:Hid (k+1<=c):=hk1;have H8N:Hid (8<=(txt (M.take N)).size):=h8N;clear hA21 hpu hep hs2 hk1 h8N
           go_upto_region 27 with(first|(go_at_call 29;refine(CE _).mono ?_;refine m02 ?_;clear hE hB;intro w5 hb5 hE hB)|((with_reducible refine gA 29 ?_);refine ax 12 29 qr3 ?_;intro b12 w3 g12 R12 hb3;have hne12:=EvO.new hE g12;replace g12:=Nat.le_trans hB.size g12;replace hE:=EvO.below hE hb3;replace hB:=hB.trans (hb3.mono hB.size))|((with_reducible refine gS 29 12 111 ?_);refine sx 29 (.tmp 12) (.tmp 111) (ec e) R12 ?_;intro w4 R12 t4;replace hE:=EvO.turned hE t4 hne12;replace hB:=t4.below _ _ g12 hB))
           rcases HEB.out with⟨hok,rfl,rfl⟩|⟨hok,rfl,rfl⟩
           case inr=>
            (have HX:=HSN2.out (by rw[HV2.out,qd3b (fun h=>hok h.1)]))
            refine RD (fun W=>Row 29 W b12 (ec noE)/\EvO W w.heap.size (.slice sa2 nn sc2) es2) ⟨R12,hE⟩ (fun _=>?_)
            refine tk 0 (.bool false) rfl (qj4b (.tmp 13) (.bool false) rfl kr kr) ⟨R12,hE⟩ ?_;refine tk 1 (.bool true) rfl (q0eb (.tmp 113) false true rfl kr kr rfl) ⟨R12,hE⟩ ?_;refine tk 2 (.bool true) rfl (qj4b (.tmp 114) (.bool true) rfl kr kr) ⟨R12,hE⟩ ?_;(try simp only[ZZ]);refine tk 3 undef rfl (Or.inr ⟨by kernel_rfl,rfl⟩) ⟨R12,hE⟩ ?_;refine tk 4 undef rfl (Or.inr ⟨by kernel_rfl,rfl⟩) ⟨R12,hE⟩ ?_;refine tk 5 undef rfl (Or.inr ⟨by kernel_rfl,rfl⟩) ⟨R12,hE⟩ ?_;(try simp only[ZZ]);refine tk 6 undef rfl (Or.inr ⟨by kernel_rfl,rfl⟩) ⟨R12,hE⟩ ?_;refine tk 7 undef rfl (Or.inr ⟨by kernel_rfl,rfl⟩) ⟨R12,hE⟩ ?_;(try simp only[ZZ]);refine AR [8] ?_
            refine AC (fun K hK=>?_) AZ
            rw[if_neg (ne_true_of_eq_false kr)]
            refine hK.out _ _ ⟨R12,hE⟩ (fun _=>?_)
            clear hK K;(try simp only[ZZ]);refine tk 9 undef rfl (Or.inr ⟨by kernel_rfl,rfl⟩) ⟨R12,hE⟩ ?_;refine tk 10 (.bool true) rfl (q10 (.tmp 115) (.const (.bool true)) (.tmp 122) (.bool true) rfl kr kr kr) ⟨R12,hE⟩ ?_
            exact sZrr52
           case inl=>
            have ht0:=hok.1.1.1
            by_cases htm':(rdE q).t%4294967296=nAt M 4 4
            case neg=>
             (have htm:Hid (((rdE q).t%4294967296 != nAt M 4 4)=true):=by show _=_;simpa using htm');(have HX:=HSN2.out (by rw[HV2.out,qd3b (fun h=>htm' h.2.1)]));clear hok htm'
             refine RD (fun W=>Row 29 W b12 (ec (rdE q))/\EvO W w.heap.size (.slice sa2 nn sc2) es2) ⟨R12,hE⟩ (fun _=>?_)
             refine m0b ?_;(try simp only[ZZ]);refine m1i ?_
             refine tk 4 (I Z (rdE q).t) rfl (qim (.tmp 116) rfl kr b12 0 kr (rdE q).t (fun w h=>(h.1.cell 0).trans rfl)) ⟨R12,hE⟩ ?_
             refine m1c ?_;(try simp only[ZZ]);refine m0d ?_;(try simp only[ZZ]);refine AR [8] ?_
             refine AC (fun K hK=>?_) AZ
             refine m0w ?_;clear R12 hE hB;intro w5 hb5 R12 hE hB
             go_wp2_with fail
             refine hK.out _ _ ⟨R12,hE⟩ (fun _=>?_)
             clear hK K;(try simp only[ZZ]);refine tk 9 (.bool true) rfl (qrk 3 (.tmp 118) (.tmp 121) ((rdE q).t%4294967296) (nAt M 4 4) true rfl kr kr kr htm.out) ⟨R12,hE⟩ ?_;refine tk 10 (.bool true) rfl (qkib (.tmp 115) (.const (.bool true)) (.tmp 122) (.bool true) rfl kr kr kr) ⟨R12,hE⟩ ?_
             exact sZrr52
            case pos=>
             (have htm:Hid (((rdE q).t%4294967296 != nAt M 4 4)=false):=by show _=_;simpa using htm')
             by_cases h00:nn=0
             case pos=>
              have hz:Hid (decide ((0:Int)<(nn:Int))=false):=lgt h00;(have hgood:Hid (okR q/\(rdE q).t%4294967296=nAt M 4 4/\qcyb es2 (rdE q).t=false):=⟨hok,htm',by rw[List.eq_nil_of_length_eq_zero (HLEN.out.symm.trans h00)];rfl⟩);clear hok htm' h00
              refine RD (fun W=>Row 29 W b12 (ec (rdE q))/\EvO W w.heap.size (.slice sa2 nn sc2) es2) ⟨R12,hE⟩ (fun _=>?_)
              refine m0b ?_;(try simp only[ZZ]);refine m1i ?_
              refine tk 4 (I Z (rdE q).t) rfl (qim (.tmp 116) rfl kr b12 0 kr (rdE q).t (fun w h=>(h.1.cell 0).trans rfl)) ⟨R12,hE⟩ ?_
              refine m1c ?_;(try simp only[ZZ]);refine m0d ?_;(try simp only[ZZ]);refine AR [8] ?_
              refine AC (fun K hK=>?_) AZ
              refine m0w ?_;clear R12 hE hB;intro w5 hb5 R12 hE hB
              go_wp2_with fail
              refine hK.out _ _ ⟨R12,hE⟩ (fun _=>?_)
              clear hK K;(try simp only[ZZ]);refine m0g ?_;(try simp only[ZZ]);refine m11 ?_;refine tk 14 (.bool false) rfl (qmrb (.tmp 126) (.const (I Z 0)) rfl kr (nn:Int) 0 false kr kr hz.out) ⟨R12,hE⟩ ?_;(try simp only[ZZ]);refine tk 15 (.bool false) rfl (qj4b (.tmp 127) (.bool false) rfl kr kr) ⟨R12,hE⟩ ?_;refine m2n ?_;(try simp only[ZZ]);refine m1v ?_;(try simp only[ZZ]);refine m1w ?_;(try simp only[ZZ]);refine m2o ?_;refine tk 26 (.bool false) rfl (qkib (.tmp 128) (.tmp 138) (.const (.bool false)) (.bool false) rfl kr kr kr) ⟨R12,hE⟩ ?_
              exact sZrr54
             case neg=>
              have hz:Hid (decide ((0:Int)<(nn:Int))=true):=lgt' h00;(have hep0:0<es2.length:=Nat.pos_of_ne_zero (fun e=>h00 (HLEN.out.trans e)))
              obtain⟨eL,heL⟩:∃e,es2[es2.length-1]'(Nat.sub_lt hep0 Nat.one_pos)=e:=⟨_,rfl⟩
              have hL:=qfkb (es:=es2) hep0 (rdE q).t heL;(have IL:=fun w2:World=>lIL hE HLEN.out h00 HEP.out w2);(have CL:=fun(w2:World) (h:EvO w2 w.heap.size (.slice sa2 nn sc2) es2)=>lCL h HLEN.out hep0 HEP.out heL)
              cases hla':qcyb es2 (rdE q).t with
              | false=>
               (have hla:Hid (decide ((rdE q).t<eL.t)=false):=by show _=_;rw[←hL];exact hla');have hgood:Hid (okR q/\(rdE q).t%4294967296=nAt M 4 4/\qcyb es2 (rdE q).t=false):=⟨hok,htm',hla'⟩;clear hok htm' h00 hL hla' heL
               refine RD (fun W=>Row 29 W b12 (ec (rdE q))/\EvO W w.heap.size (.slice sa2 nn sc2) es2) ⟨R12,hE⟩ (fun _=>?_)
               refine m0b ?_;(try simp only[ZZ]);refine m1i ?_
               refine tk 4 (I Z (rdE q).t) rfl (qim (.tmp 116) rfl kr b12 0 kr (rdE q).t (fun w h=>(h.1.cell 0).trans rfl)) ⟨R12,hE⟩ ?_
               refine m1c ?_;(try simp only[ZZ]);refine m0d ?_;(try simp only[ZZ]);refine AR [8] ?_
               refine AC (fun K hK=>?_) AZ
               refine m0w ?_;clear R12 hE hB;intro w5 hb5 R12 hE hB
               go_wp2_with fail
               refine hK.out _ _ ⟨R12,hE⟩ (fun _=>?_)
               clear hK K;(try simp only[ZZ]);refine m0g ?_;(try simp only[ZZ]);refine m11 ?_;refine m2x ?_;(try simp only[ZZ]);refine m25 ?_
               refine tk 17 (I Z (rdE q).t) rfl (qim (.tmp 129) rfl kr b12 0 kr (rdE q).t (fun w h=>(h.1.cell 0).trans rfl)) ⟨R12,hE⟩ ?_
               (try simp only[ZZ]);refine m1e ?_;(try simp only[ZZ]);refine m0o ?_;(try simp only[ZZ])
               refine tk 24 (I Z eL.t) rfl (qim (.tmp 136) rfl kr (eb (.slice sa2 nn sc2)) (eo (.slice sa2 nn sc2)+5*(nn-1)) kr eL.t (fun w h=>CL w h.2)) ⟨R12,hE⟩ ?_
               refine tk 25 (.bool false) rfl (q00b (.tmp 130) (.tmp 137) rfl kr (rdE q).t eL.t false kr kr hla.out) ⟨R12,hE⟩ ?_;refine tk 26 (.bool false) rfl (q10 (.tmp 128) (.tmp 138) (.const (.bool false)) (.bool false) rfl kr kr kr) ⟨R12,hE⟩ ?_
               exact sZrr54
              | true=>
               (have hla:Hid (decide ((rdE q).t<eL.t)=true):=by show _=_;rw[←hL];exact hla');(have HX:=HSN2.out (by rw[HV2.out,qd3b (fun h=>by rw[hla'] at h;simp at h)]));clear hok htm' h00 hL hla' heL
               refine RD (fun W=>Row 29 W b12 (ec (rdE q))/\EvO W w.heap.size (.slice sa2 nn sc2) es2) ⟨R12,hE⟩ (fun _=>?_)
               refine m0b ?_;(try simp only[ZZ]);refine m1i ?_
               refine tk 4 (I Z (rdE q).t) rfl (qim (.tmp 116) rfl kr b12 0 kr (rdE q).t (fun w h=>(h.1.cell 0).trans rfl)) ⟨R12,hE⟩ ?_
               refine m1c ?_;(try simp only[ZZ]);refine m0d ?_;(try simp only[ZZ]);refine AR [8] ?_
               refine AC (fun K hK=>?_) AZ
               refine m0w ?_;clear R12 hE hB;intro w5 hb5 R12 hE hB
               go_wp2_with fail
               refine hK.out _ _ ⟨R12,hE⟩ (fun _=>?_)
               clear hK K;(try simp only[ZZ]);refine m0g ?_;(try simp only[ZZ]);refine m11 ?_;refine m2x ?_;(try simp only[ZZ]);refine m25 ?_
               refine tk 17 (I Z (rdE q).t) rfl (qim (.tmp 129) rfl kr b12 0 kr (rdE q).t (fun w h=>(h.1.cell 0).trans rfl)) ⟨R12,hE⟩ ?_
               (try simp only[ZZ]);refine m1e ?_;(try simp only[ZZ]);refine m0o ?_;(try simp only[ZZ])
               refine tk 24 (I Z eL.t) rfl (qim (.tmp 136) rfl kr (eb (.slice sa2 nn sc2)) (eo (.slice sa2 nn sc2)+5*(nn-1)) kr eL.t (fun w h=>CL w h.2)) ⟨R12,hE⟩ ?_
               refine tk 25 (.bool true) rfl (q00b (.tmp 130) (.tmp 137) rfl kr (rdE q).t eL.t true kr kr hla.out) ⟨R12,hE⟩ ?_;refine tk 26 (.bool true) rfl (q10 (.tmp 128) (.tmp 138) (.const (.bool false)) (.bool true) rfl kr kr kr) ⟨R12,hE⟩ ?_;(try simp only[ZZ]);refine tk 27 (.bool true) rfl (qkib (.tmp 124) (.const (.bool true)) (.tmp 139) (.bool true) rfl kr kr kr) ⟨R12,hE⟩ ?_
               exact sZrr57
end Go.Proofs.YtnhafdkfjjplkaaDoor
