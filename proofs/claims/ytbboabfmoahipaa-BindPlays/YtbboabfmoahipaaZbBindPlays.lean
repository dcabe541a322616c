/-
  For every row of wishes, rentrollkeep.BindPlays returns true: a table stays good, what is opened is found from both sides and is the same when it is asked for again;no condition but the form's own reach.
-/
import Derived.ShutString
import Derived.Test.YtbboabfmoahipaaZbd13
namespace Go.Proofs.Ytbboabfmoahipaa
open Go.ChangeShapes Go.WideShapes Go.ChangeAt Go.RowKit
set_option linter.unusedSimpArgs false
set_option linter.unusedVariables false
set_option maxRecDepth 1000000
variable {H:Type}{w:World}{sp:Nat->Bool}{held:Bool}{fuel:Nat}{l:List Value}
set_option maxHeartbeats 8000000 in
theorem plays_any(sl:Value)(xs:List Mp)(w:World)(hX:qaz w sl xs)(hwx:∀m∈xs,(Lit.int .i64 m.2.2.2.2).wf=true):Calls Try.prog 8 #[sl] w fun e w'=>e=.returned (.bool true)/\Below w.heap.size w w':=by
 have B:=Bd.start w;have hX0:=hX
 obtain⟨a0,cap,hsl,-⟩:=hX0
 obtain⟨n,hn⟩:∃n,n=xs.length:=⟨_,rfl⟩
 rw[←hn] at hsl
 subst hsl
 have HN:Hid (n=xs.length):=hn;clear hn;(have CB:=fun w=>qyib w)
 go_enter Try.func8,Try.ntmps8
 go_wp2_with (first|(go_at_call 24;go_fit (CB _);rintro e w8 ⟨rfl,hb8⟩;replace B:=B.below hb8;clear hb8)|((with_reducible refine gA 30 ?_);refine ax 3 30 qb8 ?_;intro b3 w9 l9 R9 h9;replace B:=B.alloc l9 R9 h9;clear R9 h9 l9)|((with_reducible refine gA 50 ?_);refine ax 4 50 qzsb ?_;intro b4 w9 l9 R9 h9;replace B:=B.alloc l9 R9 h9;clear R9 h9 l9)|((with_reducible refine gS 50 4 27 ?_);refine sx 50 (.tmp 4) _ pr3 (B.row 0 rfl) ?_;refine m09 ?_;clear B;intro w9 B))
 refine wp_loop (WP w b3 b4 a0 n cap) WPmu ?_ ?_
 ·unfold WP
  (repeat apply Exists.intro)
  refine⟨?_,rfl⟩
  exact⟨0,by omega,by omega,rfl,_,_,_,_,_,_,_,(B.addNew (Below.refl _ _) (qaz.nil _) (fun h=>absurd h (by simp))).two 1 0 (by decide) rfl rfl 0 rfl,fun n c e=>by injection e with _ _ e3;exact e3.symm,qyfb,rfl⟩
 ·clear B;intro a W hI
  unfold WP at hI
  obtain⟨u1,hI⟩:=hI;obtain⟨u2,hI⟩:=hI;obtain⟨u5,hI⟩:=hI;obtain⟨u6,hI⟩:=hI;obtain⟨u7,hI⟩:=hI;obtain⟨u8,hI⟩:=hI;obtain⟨u9,hI⟩:=hI;obtain⟨u10,hI⟩:=hI;obtain⟨u11,hI⟩:=hI;obtain⟨u12,hI⟩:=hI;obtain⟨u13,hI⟩:=hI;obtain⟨u14,hI⟩:=hI;obtain⟨u15,hI⟩:=hI;obtain⟨u16,hI⟩:=hI;obtain⟨u17,hI⟩:=hI;obtain⟨u18,hI⟩:=hI;obtain⟨u19,hI⟩:=hI;obtain⟨u20,hI⟩:=hI;obtain⟨u21,hI⟩:=hI;obtain⟨u22,hI⟩:=hI;obtain⟨u23,hI⟩:=hI;obtain⟨u24,hI⟩:=hI;obtain⟨u25,hI⟩:=hI;obtain⟨u26,hI⟩:=hI;obtain⟨u27,hI⟩:=hI;obtain⟨u28,hI⟩:=hI;obtain⟨u29,hI⟩:=hI;obtain⟨u30,hI⟩:=hI;obtain⟨u31,hI⟩:=hI;obtain⟨u32,hI⟩:=hI;obtain⟨u33,hI⟩:=hI;obtain⟨u34,hI⟩:=hI;obtain⟨u35,hI⟩:=hI;obtain⟨u36,hI⟩:=hI;obtain⟨u37,hI⟩:=hI;obtain⟨u38,hI⟩:=hI;obtain⟨u39,hI⟩:=hI;obtain⟨u40,hI⟩:=hI;obtain⟨u41,hI⟩:=hI;obtain⟨u42,hI⟩:=hI;obtain⟨u43,hI⟩:=hI;obtain⟨u44,hI⟩:=hI;obtain⟨u45,hI⟩:=hI;obtain⟨u46,hI⟩:=hI;obtain⟨u47,hI⟩:=hI;obtain⟨u48,hI⟩:=hI;obtain⟨u49,hI⟩:=hI;obtain⟨u50,hI⟩:=hI;obtain⟨u51,hI⟩:=hI;obtain⟨u52,hI⟩:=hI;obtain⟨u53,hI⟩:=hI;obtain⟨u54,hI⟩:=hI;obtain⟨u55,hI⟩:=hI;obtain⟨u56,hI⟩:=hI;obtain⟨u57,hI⟩:=hI;obtain⟨u58,hI⟩:=hI;obtain⟨u59,hI⟩:=hI;obtain⟨u60,hI⟩:=hI;obtain⟨u61,hI⟩:=hI;obtain⟨u62,hI⟩:=hI;obtain⟨u63,hI⟩:=hI;obtain⟨u64,hI⟩:=hI;obtain⟨u65,hI⟩:=hI;obtain⟨u66,hI⟩:=hI;obtain⟨u67,hI⟩:=hI;obtain⟨u68,hI⟩:=hI;obtain⟨u69,hI⟩:=hI;obtain⟨u70,hI⟩:=hI;obtain⟨u71,hI⟩:=hI;obtain⟨u72,hI⟩:=hI;obtain⟨u73,hI⟩:=hI;obtain⟨u74,hI⟩:=hI;obtain⟨u75,hI⟩:=hI;obtain⟨u76,hI⟩:=hI;obtain⟨u77,hI⟩:=hI;obtain⟨u78,hI⟩:=hI;obtain⟨u79,hI⟩:=hI;obtain⟨u80,hI⟩:=hI;obtain⟨u81,hI⟩:=hI;obtain⟨u82,hI⟩:=hI;obtain⟨u83,hI⟩:=hI;obtain⟨u84,hI⟩:=hI;obtain⟨u85,hI⟩:=hI;obtain⟨u86,hI⟩:=hI;obtain⟨u87,hI⟩:=hI;obtain⟨u88,hI⟩:=hI;obtain⟨u89,hI⟩:=hI;obtain⟨u90,hI⟩:=hI;obtain⟨u91,hI⟩:=hI;obtain⟨u92,hI⟩:=hI;obtain⟨u93,hI⟩:=hI;obtain⟨u94,hI⟩:=hI;obtain⟨u95,hI⟩:=hI;obtain⟨u96,hI⟩:=hI;obtain⟨u97,hI⟩:=hI;obtain⟨u98,hI⟩:=hI;obtain⟨u99,hI⟩:=hI;obtain⟨u100,hI⟩:=hI;obtain⟨u101,hI⟩:=hI;obtain⟨u102,hI⟩:=hI;obtain⟨u103,hI⟩:=hI;obtain⟨u104,hI⟩:=hI;obtain⟨u105,hI⟩:=hI;obtain⟨u106,hI⟩:=hI;obtain⟨u107,hI⟩:=hI;obtain⟨u108,hI⟩:=hI;obtain⟨u109,hI⟩:=hI;obtain⟨u110,hI⟩:=hI;obtain⟨u111,hI⟩:=hI;obtain⟨u112,hI⟩:=hI;obtain⟨u113,hI⟩:=hI;obtain⟨u114,hI⟩:=hI;obtain⟨u115,hI⟩:=hI;obtain⟨u116,hI⟩:=hI;obtain⟨u117,hI⟩:=hI;obtain⟨u118,hI⟩:=hI;obtain⟨u119,hI⟩:=hI;obtain⟨u120,hI⟩:=hI;obtain⟨u121,hI⟩:=hI;obtain⟨u122,hI⟩:=hI;obtain⟨u123,hI⟩:=hI;obtain⟨u124,hI⟩:=hI;obtain⟨u125,hI⟩:=hI;obtain⟨u126,hI⟩:=hI;obtain⟨u127,hI⟩:=hI;obtain⟨u128,hI⟩:=hI;obtain⟨u129,hI⟩:=hI;obtain⟨u130,hI⟩:=hI;obtain⟨u131,hI⟩:=hI;obtain⟨u132,hI⟩:=hI;obtain⟨u133,hI⟩:=hI;obtain⟨u134,hI⟩:=hI;obtain⟨u135,hI⟩:=hI;obtain⟨u136,hI⟩:=hI;obtain⟨u137,hI⟩:=hI;obtain⟨u138,hI⟩:=hI;obtain⟨u139,hI⟩:=hI;obtain⟨u140,hI⟩:=hI;obtain⟨u141,hI⟩:=hI;obtain⟨u142,hI⟩:=hI;obtain⟨u143,hI⟩:=hI;obtain⟨u144,hI⟩:=hI;obtain⟨u145,hI⟩:=hI;obtain⟨u146,hI⟩:=hI;obtain⟨u147,hI⟩:=hI;obtain⟨u148,hI⟩:=hI;obtain⟨u149,hI⟩:=hI;obtain⟨u150,hI⟩:=hI;obtain⟨u151,hI⟩:=hI;obtain⟨u152,hI⟩:=hI;obtain⟨u153,hI⟩:=hI;obtain⟨u154,hI⟩:=hI;obtain⟨u155,hI⟩:=hI;obtain⟨u156,hI⟩:=hI;obtain⟨u157,hI⟩:=hI;obtain⟨u158,hI⟩:=hI;obtain⟨u159,hI⟩:=hI;obtain⟨u160,hI⟩:=hI;obtain⟨u161,hI⟩:=hI;obtain⟨u162,hI⟩:=hI;obtain⟨u163,hI⟩:=hI;obtain⟨u164,hI⟩:=hI;obtain⟨u165,hI⟩:=hI;obtain⟨u166,hI⟩:=hI;obtain⟨u167,hI⟩:=hI;obtain⟨u168,hI⟩:=hI;obtain⟨u169,hI⟩:=hI;obtain⟨u170,hI⟩:=hI;obtain⟨u171,hI⟩:=hI;obtain⟨u172,hI⟩:=hI;obtain⟨u173,hI⟩:=hI;obtain⟨u174,hI⟩:=hI;obtain⟨u175,hI⟩:=hI;obtain⟨u176,hI⟩:=hI;obtain⟨u177,hI⟩:=hI;obtain⟨u178,hI⟩:=hI;obtain⟨u179,hI⟩:=hI;obtain⟨u180,hI⟩:=hI;obtain⟨u181,hI⟩:=hI;obtain⟨u182,hI⟩:=hI;obtain⟨u183,hI⟩:=hI;obtain⟨u184,hI⟩:=hI;obtain⟨u185,hI⟩:=hI;obtain⟨u186,hI⟩:=hI;obtain⟨u187,hI⟩:=hI;obtain⟨u188,hI⟩:=hI;obtain⟨u189,hI⟩:=hI;obtain⟨u190,hI⟩:=hI;obtain⟨u191,hI⟩:=hI;obtain⟨u192,hI⟩:=hI;obtain⟨u193,hI⟩:=hI;obtain⟨u194,hI⟩:=hI;obtain⟨u195,hI⟩:=hI;obtain⟨u196,hI⟩:=hI;obtain⟨u197,hI⟩:=hI;obtain⟨u198,hI⟩:=hI;obtain⟨u199,hI⟩:=hI;obtain⟨u200,hI⟩:=hI;obtain⟨u201,hI⟩:=hI;obtain⟨u202,hI⟩:=hI;obtain⟨u203,hI⟩:=hI;obtain⟨u204,hI⟩:=hI;obtain⟨u205,hI⟩:=hI;obtain⟨u206,hI⟩:=hI;obtain⟨u207,hI⟩:=hI;obtain⟨u208,hI⟩:=hI;obtain⟨u209,hI⟩:=hI;obtain⟨u210,hI⟩:=hI;obtain⟨u211,hI⟩:=hI;obtain⟨u212,hI⟩:=hI;obtain⟨u213,hI⟩:=hI;obtain⟨u214,hI⟩:=hI;obtain⟨u215,hI⟩:=hI;obtain⟨u216,hI⟩:=hI;obtain⟨u217,hI⟩:=hI;obtain⟨u218,hI⟩:=hI;obtain⟨u219,hI⟩:=hI;obtain⟨u220,hI⟩:=hI;obtain⟨u221,hI⟩:=hI;obtain⟨u222,hI⟩:=hI;obtain⟨u223,hI⟩:=hI;obtain⟨u224,hI⟩:=hI;obtain⟨u225,hI⟩:=hI;obtain⟨u226,hI⟩:=hI;obtain⟨u227,hI⟩:=hI;obtain⟨u228,hI⟩:=hI;obtain⟨u229,hI⟩:=hI;obtain⟨u230,hI⟩:=hI;obtain⟨u231,hI⟩:=hI;obtain⟨u232,hI⟩:=hI;obtain⟨u233,hI⟩:=hI;obtain⟨u234,hI⟩:=hI
  obtain⟨hrel,rfl⟩:=hI
  obtain⟨j,hjn0,hj1200,rfl,f,g,h,a1,lv,c1,ms,B,hnil,HG,HLn⟩:=hrel
  by_cases hjn':j<n
  ·by_cases hj120:j<120
   ·obtain⟨x,hx⟩:∃x,∃hh:j<xs.length,xs[j]=x:=⟨_,by have:=HN.out;omega,rfl⟩
    (have hk4:x.1%4=0\/x.1%4=1\/x.1%4=2\/x.1%4=3:=by omega)
    rcases hk4 with hk|hk|hk|hk
    ·exact qzrb u1 u2 u6 u7 u8 u9 u10 u11 u12 u13 u14 u15 u16 u17 u18 u19 u20 u21 u22 u23 u24 u25 u26 u27 u28 u29 u30 u31 u32 u33 u34 u35 u36 u37 u38 u39 u40 u41 u42 u43 u44 u45 u46 u47 u48 u49 u50 u51 u52 u53 u54 u55 u56 u57 u58 u59 u60 u61 u62 u63 u64 u65 u66 u67 u68 u69 u70 u71 u72 u73 u74 u75 u76 u77 u78 u79 u80 u81 u82 u83 u84 u85 u86 u87 u88 u89 u90 u91 u92 u93 u94 u95 u96 u97 u98 u99 u100 u101 u102 u103 u104 u105 u106 u107 u108 u109 u110 u111 u112 u113 u114 u115 u116 u117 u118 u119 u120 u121 u122 u123 u124 u125 u126 u127 u128 u129 u130 u131 u132 u133 u134 u135 u136 u137 u138 u139 u140 u141 u142 u143 u144 u145 u146 u147 u148 u149 u150 u151 u152 u153 u154 u155 u156 u157 u158 u159 u160 u161 u162 u163 u164 u165 u166 u167 u168 u169 u170 u171 u172 u173 u174 u175 u176 u177 u178 u179 u180 u181 u182 u183 u184 u185 u186 u187 u188 u189 u190 u191 u192 u193 u194 u195 u196 u197 u198 u199 u200 u201 u202 u203 u204 u205 u206 u207 u208 u209 u210 u211 u212 u213 u214 u215 u216 u217 u218 u219 u220 u221 u222 u223 u224 u225 u226 u227 u228 u229 u230 u231 u232 u233 u234 j B hnil HG HLn HN hX hwx hjn' hj120 x hx hk _
    ·exact qzpb u1 u2 u6 u7 u8 u9 u10 u11 u12 u13 u14 u15 u16 u17 u18 u19 u20 u21 u22 u23 u24 u25 u26 u27 u28 u29 u30 u31 u32 u33 u34 u35 u36 u37 u38 u39 u40 u41 u42 u43 u44 u45 u46 u47 u48 u49 u50 u51 u52 u53 u54 u55 u56 u57 u58 u59 u60 u61 u62 u63 u64 u65 u66 u67 u68 u69 u70 u71 u72 u73 u74 u75 u76 u77 u78 u79 u80 u81 u82 u83 u84 u85 u86 u87 u88 u89 u90 u91 u92 u93 u94 u95 u96 u97 u98 u99 u100 u101 u102 u103 u104 u105 u106 u107 u108 u109 u110 u111 u112 u113 u114 u115 u116 u117 u118 u119 u120 u121 u122 u123 u124 u125 u126 u127 u128 u129 u130 u131 u132 u133 u134 u135 u136 u137 u138 u139 u140 u141 u142 u143 u144 u145 u146 u147 u148 u149 u150 u151 u152 u153 u154 u155 u156 u157 u158 u159 u160 u161 u162 u163 u164 u165 u166 u167 u168 u169 u170 u171 u172 u173 u174 u175 u176 u177 u178 u179 u180 u181 u182 u183 u184 u185 u186 u187 u188 u189 u190 u191 u192 u193 u194 u195 u196 u197 u198 u199 u200 u201 u202 u203 u204 u205 u206 u207 u208 u209 u210 u211 u212 u213 u214 u215 u216 u217 u218 u219 u220 u221 u222 u223 u224 u225 u226 u227 u228 u229 u230 u231 u232 u233 u234 j B hnil HG HLn HN hX hwx hjn' hj120 x hx hk _
    ·exact qztb u1 u2 u6 u7 u8 u9 u10 u11 u12 u13 u14 u15 u16 u17 u18 u19 u20 u21 u22 u23 u24 u25 u26 u27 u28 u29 u30 u31 u32 u33 u34 u35 u36 u37 u38 u39 u40 u41 u42 u43 u44 u45 u46 u47 u48 u49 u50 u51 u52 u53 u54 u55 u56 u57 u58 u59 u60 u61 u62 u63 u64 u65 u66 u67 u68 u69 u70 u71 u72 u73 u74 u75 u76 u77 u78 u79 u80 u81 u82 u83 u84 u85 u86 u87 u88 u89 u90 u91 u92 u93 u94 u95 u96 u97 u98 u99 u100 u101 u102 u103 u104 u105 u106 u107 u108 u109 u110 u111 u112 u113 u114 u115 u116 u117 u118 u119 u120 u121 u122 u123 u124 u125 u126 u127 u128 u129 u130 u131 u132 u133 u134 u135 u136 u137 u138 u139 u140 u141 u142 u143 u144 u145 u146 u147 u148 u149 u150 u151 u152 u153 u154 u155 u156 u157 u158 u159 u160 u161 u162 u163 u164 u165 u166 u167 u168 u169 u170 u171 u172 u173 u174 u175 u176 u177 u178 u179 u180 u181 u182 u183 u184 u185 u186 u187 u188 u189 u190 u191 u192 u193 u194 u195 u196 u197 u198 u199 u200 u201 u202 u203 u204 u205 u206 u207 u208 u209 u210 u211 u212 u213 u214 u215 u216 u217 u218 u219 u220 u221 u222 u223 u224 u225 u226 u227 u228 u229 u230 u231 u232 u233 u234 j B hnil HG HLn HN hX hwx hjn' hj120 x hx hk _
    ·exact qzqb u1 u2 u6 u7 u8 u9 u10 u11 u12 u13 u14 u15 u16 u17 u18 u19 u20 u21 u22 u23 u24 u25 u26 u27 u28 u29 u30 u31 u32 u33 u34 u35 u36 u37 u38 u39 u40 u41 u42 u43 u44 u45 u46 u47 u48 u49 u50 u51 u52 u53 u54 u55 u56 u57 u58 u59 u60 u61 u62 u63 u64 u65 u66 u67 u68 u69 u70 u71 u72 u73 u74 u75 u76 u77 u78 u79 u80 u81 u82 u83 u84 u85 u86 u87 u88 u89 u90 u91 u92 u93 u94 u95 u96 u97 u98 u99 u100 u101 u102 u103 u104 u105 u106 u107 u108 u109 u110 u111 u112 u113 u114 u115 u116 u117 u118 u119 u120 u121 u122 u123 u124 u125 u126 u127 u128 u129 u130 u131 u132 u133 u134 u135 u136 u137 u138 u139 u140 u141 u142 u143 u144 u145 u146 u147 u148 u149 u150 u151 u152 u153 u154 u155 u156 u157 u158 u159 u160 u161 u162 u163 u164 u165 u166 u167 u168 u169 u170 u171 u172 u173 u174 u175 u176 u177 u178 u179 u180 u181 u182 u183 u184 u185 u186 u187 u188 u189 u190 u191 u192 u193 u194 u195 u196 u197 u198 u199 u200 u201 u202 u203 u204 u205 u206 u207 u208 u209 u210 u211 u212 u213 u214 u215 u216 u217 u218 u219 u220 u221 u222 u223 u224 u225 u226 u227 u228 u229 u230 u231 u232 u233 u234 j B hnil HG HLn HN hX hwx hjn' hj120 x hx hk _
   ·(have hj12:¬(j:Int)<120:=by omega);(have hjn:(j:Int)<(n:Int):=by omega)
    go_wp2
    go_ret
    exact⟨rfl,B.base⟩
  ·(have hjn:¬(j:Int)<(n:Int):=by omega)
   go_wp2
   go_ret
   exact⟨rfl,B.base⟩
end Go.Proofs.Ytbboabfmoahipaa
namespace Go.Proofs.Ytbboabfmoahipaa
open Go.ChangeShapes Go.WideShapes Go.ChangeAt Go.RowKit
set_option linter.unusedSimpArgs false
set_option linter.unusedVariables false
variable {H:Type}{w:World}{sp:Nat->Bool}{held:Bool}{fuel:Nat}{l:List Value}
def WishAt(w:World)(a:Option Addr)(cap B O:Nat)(zs:List Mp):Prop:=qaz w (.slice a zs.length cap) zs/\∀m∈zs,(Lit.int .i64 m.2.2.2.2).wf=true
theorem playsW_any(a:Option Addr)(cap B O:Nat)(zs:List Mp)(w:World)(h:WishAt w a cap B O zs):Calls Try.prog 8 #[.slice a zs.length cap] w fun e w'=>e=.returned (.bool true)/\Below w.heap.size w w':=plays_any _ zs w h.1 h.2
set_option maxRecDepth 10000 in
theorem open_wish_cellsN{enc:TypeId×Value->H}{base:Nat}{x:DataW H×List MemPlace}(hl0:l.length=5)(hf0:DataW.trod enc Try.prog w base sp held fuel 52 l=some x):∃m:Mp,l=mcl m/\(Lit.int .i64 m.2.2.2.2).wf=true:=by
 (have cI:Try.prog.cellsOf 3=1:=by kernel_rfl)
 obtain⟨ys,m,_,hx,_,hl,hf⟩:=DataW.trod_struct Try.underlying52 hf0
 match l,hl0 with
 | [c0,c1,c2,c3,c4],_=>
 match ys,hl with
 | [y0,y1,y2,y3,y4],_=>
 have hv0:=hf 0 _ rfl;have hv1:=hf 1 _ rfl;have hv2:=hf 2 _ rfl;have hv3:=hf 3 _ rfl;have hv4:=hf 4 _ rfl
 simp[cI] at hv0 hv1 hv2 hv3 hv4
 obtain⟨x0,e0,rfl,s0⟩:=DataW.trod_int Try.underlying3 hv0
 obtain⟨x1,e1,rfl,s1⟩:=DataW.trod_int Try.underlying3 hv1
 obtain⟨x2,e2,rfl,s2⟩:=DataW.trod_int Try.underlying3 hv2
 obtain⟨x3,e3,rfl,s3⟩:=DataW.trod_int Try.underlying3 hv3
 obtain⟨x4,e4,rfl,s4⟩:=DataW.trod_int Try.underlying3 hv4
 simp at e0 e1 e2 e3 e4
 subst e0 e1 e2 e3 e4
 exact⟨(x0,x1,x2,x3,x4),rfl,s4⟩
set_option maxRecDepth 10000 in
theorem open_wishesN{enc:TypeId×Value->H}{x:DataW H×List MemPlace}(hf0:DataW.trod enc Try.prog w 0 sp held fuel 49 l=some x)(hw:∀y∈x.1.weights Try.prog 49,y<=reachBytes):∃a cap B O,∃zs:List Mp,l=[.slice a zs.length cap]/\WishAt w a cap B O zs:=by
 (have c5:Try.prog.cellsOf 52=5:=by kernel_rfl);(have hby:Try.prog.bytesOf 52=40:=by kernel_rfl)
 rcases Go.Deep.open_slice Try.underlying49 hf0 with⟨rfl,rfl⟩|⟨a,len,cap,m,n,D,Pl,rfl,hb,hl,hm,hmm,rfl,hx⟩
 ·exact⟨none,0,0,0,[],rfl,qaz.nil w,by simp⟩
 ·(have hlm:len<=m:=by rw[hmm];split<;>omega)
  have hbd:len<=140737488355328:=by
   have h1:=hw _ (by simp only[DataW.weights,Try.underlying49];exact List.mem_cons_self)
   rw[hby] at h1
   simp[reachBytes] at h1
   omega
  have each:∀i,i<len->∃q:Mp,(∀k v,(mcl q)[k]?=some v->w.cell? (a.add (5*i+k))=some v)/\(Lit.int .i64 q.2.2.2.2).wf=true:=by
   intro i hi;obtain⟨cs',h1,h2⟩:=hx i (by omega)
   rw[c5] at h1
   obtain⟨_,hlen,hcell⟩:=World.cells?_some h1
   obtain⟨q,rfl,hq⟩:=open_wish_cellsN hlen h2
   refine⟨q,fun k v hv=>?_,hq⟩
   (have hk:k<5:=by have:=(List.getElem?_eq_some_iff.1 hv).1;simpa[mcl] using this)
   have:=hcell k hk
   rw[Go.Deep.add_add,Nat.mul_comm i 5] at this
   first|exact this.trans hv|(rw[this];simpa using hv)
  obtain⟨q,hq⟩:=Go.Deep.choose_lt each
  have hsp:0<len->a=⟨a.block,a.off,none⟩:=by
   intro h0
   have:=(hq 0 h0).1 0 _ rfl
   obtain⟨b,off,spot⟩:=a;(have hspot:spot=none:=by simpa[Addr.add] using World.cell?_spot this)
   subst hspot
   rfl
  refine⟨some a,cap,a.block,a.off,(List.range len).map q,by simp,⟨some a,cap,by simp,fun h0=>?_,fun j hj k v hv=>?_,by simpa using hbd,cap,by simp,by simpa using hl⟩,fun z hz=>?_⟩
  ·rw[hsp (by simpa using h0)];rfl
  ·refine m3c ?_;intro hj' e1
   rw[e1] at hv
   have:=(hq j hj').1 k v hv
   rw[hsp (by omega),Addr.add_lit] at this
   show w.cell? ⟨a.block,a.off+5*j+k,none⟩=some v
   rw[Nat.add_assoc]
   exact this
  ·obtain⟨i,hi,rfl⟩:=List.mem_map.1 hz
   exact(hq i (by simpa using hi)).2
end Go.Proofs.Ytbboabfmoahipaa
namespace Go.Proofs.Ytbboabfmoahipaa.bindPlays
open Go.ChangeShapes Go.WideShapes Go.ChangeAt Go.RowKit
open Go.ChangeMaps (open_string shut_string)
set_option linter.unusedVariables false
set_option linter.unusedSimpArgs false
variable {H:Type}{w:World}{sp:Nat->Bool}{held:Bool}{fuel:Nat}{l:List Value}
theorem own:ownKnob Try.prog.godebug=none:=by kernel_rfl
set_option maxRecDepth 100000 in
theorem lifted(os:Os)(started:os.Started)(H:Type)(enc:TypeId×Value->H):
  ReturnsInHanded {} Try.checked os 8 .any (Rows.bindPlaysSpec.pre6 enc Try.prog Try.f8 Rows.bindPlaysRow.domain false) (Rows.bindPlaysSpec.post enc Try.prog Try.f8 false true false false):=by
 refine returnsInHanded_of_change_sized (C:=Try.checked) own started (by kernel_rfl) Try.func8
  (ChangeSpec.witness6 (enc:=enc) (C:=Try.checked) false ⟨#[],#[.slice none 0 0],[]⟩ 8 (by kernel_rfl) (by kernel_rfl) (by kernel_rfl) (by kernel_rfl)) ?_
 intro W base args ds gs before hval0 hW hcnd hsz0 _
 have hval:∀(j:Nat) t v,Try.f8.params[j]?=some t->args[j]?=some v->Value.okWide Try.prog W .any base t v:=hval0;have hW':=hW
 obtain⟨p,q,hA0,hV,rfl,hfz,hnd⟩:=hW
 have hA:DataW.TrodAll enc Try.prog W 0 (fun _=>true) true Try.f8.params.toList args.toList ds p:=hA0;have hsz:(DataW.weightsEach Try.prog (Try.f8.params.toList++Rows.bindPlaysSpec.plain.varTypes Try.prog) (ds++gs)).all (·<=reachBytes)=true:=hsz0
 rw[Try.params8] at hA hval hsz
 obtain⟨v0,vs0,d0,ds0,p0,q0,hargs,rfl,rfl,h0,r0⟩:=trodAll_cons hA
 obtain⟨rfl,rfl,rfl⟩:=trodAll_nil r0
 obtain rfl:args=#[v0]:=by cases args;simp_all
 obtain⟨rfl,rfl⟩:=trodVars_none hV
 (have hw0:∀y∈d0.weights Try.prog 49,y<=reachBytes:=fun y hy=>of_decide_eq_true (List.all_eq_true.1 hsz _ (DataW.weights_mem_each (j:=0) rfl rfl y hy)));obtain⟨fuel0,hf0⟩:=id h0;obtain⟨s0,c0,B0,O0,zs0,hl0,hS0⟩:=open_wishesN hf0 hw0;obtain⟨s0',n0',c0',hsl0⟩:=okWide_slice Try.underlying49 (hval 0 49 v0 rfl rfl)
 subst hsl0
 (have hv0:Value.slice s0' n0' c0'=.slice s0 zs0.length c0:=by simpa[Value.cells] using hl0)
 obtain⟨rfl,rfl,rfl⟩:s0'=s0/\n0'=zs0.length/\c0'=c0:=by simpa using hv0
 clear hA0 hval0
 simp only[List.append_nil,List.nil_append] at hW'
 (have hlt0:∀x∈p0,x.block<W.heap.size:=fun x hx=>by simpa using hW'.lt x (by simp[hx]))
 refine(playsW_any s0' c0' B0 O0 zs0 W hS0).mono fun e W' ⟨he,bel⟩=>?_
 subst he
 have h0':=Below.trod (by kernel_rfl) (by kernel_rfl) (of_decide_eq_true (by kernel_rfl)) h0 bel hlt0;have hall:=(trodAll_cons_mk (h0') trodAll_mk0)
 simp only[List.append_nil,List.nil_append] at hall
 exact⟨_,rfl,_,_,_,[],p0,[],hW',trodAll_mk1 (shut_bool Try.underlying4 _),hall,rfl,bel.frame _,fun h=>by cases h⟩
theorem over:Rows.bindPlaysRow.holds Try.pinned (OpenSpec.ofChange Rows.bindPlaysSpec):=
 OpenClaim.holds_of_wide 8 Try.f8 rfl rfl rfl rfl rfl rfl rfl ⟨rfl,rfl,rfl,rfl,rfl⟩ rfl rfl rfl rfl rfl (by kernel_rfl) Try.func8 (by kernel_rfl)
  (of_decide_eq_true (by kernel_rfl)) (by unfold Func.isWrapper;first|(rw[if_pos (by decide +kernel)];kernel_rfl)|(rw[if_neg (by decide +kernel)];exact⟨rfl,rfl⟩))
  (fun os started H enc _=>lifted os started H enc)
end Go.Proofs.Ytbboabfmoahipaa.bindPlays
namespace Go.Proofs.Ytbboabfmoahipaa
variable {H:Type}{w:World}{sp:Nat->Bool}{held:Bool}{fuel:Nat}{l:List Value}
theorem bindPlays_holds:Rows.BindPlaysSaid:=bindPlays.over
#print axioms bindPlays_holds
end Go.Proofs.Ytbboabfmoahipaa
