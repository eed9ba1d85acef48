import Derived.Test.YtihnjndnkgnmaaaGreatRows
import Derived.Test.YtihnjndnkgnmaaaGreatLawHp
import Derived.Test.YtihnjndnkgnmaaaGreatOpn
import Derived.ShutString
import Derived.ChangeOld
import Derived.ChangeSame
import Derived.SizedLaws
import Derived.Lib.SmallJoins
set_option maxHeartbeats 1000000
set_option maxRecDepth 100000
namespace Go.Proofs.YtihnjndnkgnmaaaGreat
open Go.ChangeShapes Go.WideShapes Go.ChangeAt Go.RowKit
theorem mJ:ownKnob Tryz.prog.godebug=none:=by kernel_rfl
theorem Wu:laidOutB Tryz.prog=true:=by kernel_rfl
theorem kP {cs:Array Value} {a b c d:Value} (hl:cs.toList.length=4) (h0:cs.toList[0]?=some a) (h1:cs.toList[1]?=some b) (h2:cs.toList[2]?=some c) (h3:cs.toList[3]?=some d):cs=#[a,b,c,d]:=by
 obtain ⟨l⟩:=cs;obtain ⟨c0,c1,c2,c3,rfl⟩:=jV hl;simp at h0 h1 h2 h3;rw [h0,h1,h2,h3]
theorem kO:Tryz.prog.cellsOf 34=21:=by kernel_rfl
theorem lF {cs:List Value} (h:cs.length=21):∃ c0 c1 c2 c3 c4 c5 c6 c7 c8 c9 c10 c11 c12 c13 c14 c15 c16 c17 c18 c19 c20,cs=[c0,c1,c2,c3,c4,c5,c6,c7,c8,c9,c10,c11,c12,c13,c14,c15,c16,c17,c18,c19,c20]:=by
 match cs,h with
 | [c0,c1,c2,c3,c4,c5,c6,c7,c8,c9,c10,c11,c12,c13,c14,c15,c16,c17,c18,c19,c20],_=>exact ⟨_,_,_,_,_,_,_,_,_,_,_,_,_,_,_,_,_,_,_,_,_,rfl⟩
section
variable {H:Type} {enc:TypeId×Value→H} {w:World} {base:Nat} {spare:Nat→Bool} {held:Bool}
theorem kL {P:Program} {t:TypeId} {f0 f1 f2 f3 f4:Field} {fuel:Nat} {cs:List Value} {x:DataW H×List MemPlace} (ht:P.underlying t=some (.struct #[f0,f1,f2,f3,f4])) (h:DataW.trod enc P w base spare held fuel t cs=some x) :
  cs.length=P.cellsOf t∧∃ n,(∃ y,DataW.trod enc P w base spare held n f0.type ((cs.drop f0.offset).take (P.cellsOf f0.type))=some y)∧(∃ y,DataW.trod enc P w base spare held n f1.type ((cs.drop f1.offset).take (P.cellsOf f1.type))=some y)∧(∃ y,DataW.trod enc P w base spare held n f2.type ((cs.drop f2.offset).take (P.cellsOf f2.type))=some y)∧(∃ y,DataW.trod enc P w base spare held n f3.type ((cs.drop f3.offset).take (P.cellsOf f3.type))=some y)∧(∃ y,DataW.trod enc P w base spare held n f4.type ((cs.drop f4.offset).take (P.cellsOf f4.type))=some y):=by
 obtain ⟨xs,n,_,_,hl,hlen,hf⟩:=DataW.trod_struct ht h;exact ⟨hl,n,Bg hlen hf 0 f0 rfl,Bg hlen hf 1 f1 rfl,Bg hlen hf 2 f2 rfl,Bg hlen hf 3 f3 rfl,Bg hlen hf 4 f4 rfl⟩
theorem eX {fuel:Nat} {cs:Array Value} {y:DataW H×List MemPlace} (h:DataW.trod enc Tryz.prog w base spare held fuel 34 cs.toList=some y) :
  ∃ (v:Evt) (am:Option Addr) (cm:Nat) (al:Option Addr) (cl:Nat),cs=#[.int .i64 v.kind,.string v.berth.name,.string v.berth.zone,.slice am v.berth.marks.length cm,.int .i64 v.berth.room,.int .i64 v.berth.hold,.bool v.berth.closed,.string v.copy.name,.string v.copy.service,.int .i64 v.copy.rank,.int .i64 v.copy.born,.int .i64 v.copy.room,.int .i64 v.copy.hold,.string v.copy.select,.slice al v.copy.likes.length cl,.int .i64 v.copy.apart,.string v.copy.near,.string v.copy.fixed,.string v.copy.at_,.string v.name,.string v.at_]∧SliceC StrC 1 0 w am v.berth.marks∧SliceC LikC 2 0 w al v.copy.likes∧v.berth.name.size≤maxLen∧v.berth.zone.size≤maxLen∧v.copy.name.size≤maxLen∧v.copy.service.size≤maxLen∧v.copy.select.size≤maxLen∧v.copy.near.size≤maxLen∧v.copy.fixed.size≤maxLen∧v.copy.at_.size≤maxLen∧v.name.size≤maxLen∧v.at_.size≤maxLen:=by
 obtain ⟨l⟩:=cs;replace h:DataW.trod enc Tryz.prog w base spare held fuel 34 l=some y:=h;obtain ⟨hl,n,HP⟩:=kL Tryz.underlying34 h;rw [kO] at hl;obtain ⟨c0,c1,c2,c3,c4,c5,c6,c7,c8,c9,c10,c11,c12,c13,c14,c15,c16,c17,c18,c19,c20,rfl⟩:=lF hl;obtain ⟨⟨_,h0⟩,⟨_,h1⟩,⟨_,h2⟩,⟨_,h3⟩,⟨_,h4⟩⟩:=HP;simp only [Pf,Mm,Yx,Xw] at h0 h1 h2 h3 h4;obtain ⟨v0,e0,_,_⟩:=DataW.trod_int Tryz.underlying3 h0;obtain ⟨_,b,hb⟩:=Vx h1;obtain ⟨_,c,hc⟩:=Wv h2;obtain ⟨v3,e3,_,s3⟩:=DataW.trod_string Tryz.underlying9 h3;obtain ⟨v4,e4,_,s4⟩:=DataW.trod_string Tryz.underlying9 h4;obtain ⟨am,cm,q0,q1,q2,q3,q4,q5,b0,b1,b2⟩:=hb;obtain ⟨al,cl,r0,r1,r2,r3,r4,r5,r6,r7,r8,r9,r10,r11,d0,d1,d6,d9,d10,d11,d7⟩:=hc;clear h h0 h1 h2 h3 h4 hl;simp at e0 e3 e4 q0 q1 q2 q3 q4 q5 r0 r1 r2 r3 r4 r5 r6 r7 r8 r9 r10 r11;subst e0 e3 e4 q0 q1 q2 q3 q4 q5 r0 r1 r2 r3 r4 r5 r6 r7 r8 r9 r10 r11;exact ⟨⟨v0,b,c,v3,v4⟩,am,cm,al,cl,rfl,b2,d7,b0,b1,d0,d1,d6,d9,d10,d11,s3,s4⟩
end
theorem lB (os:Os) (started:os.Started) (H:Type) (enc:TypeId×Value→H) :
  ReturnsInHanded {} Tryz.checked os 3 .any (Rows.fnExactPilotHappenSpec.pre6 enc Tryz.prog Tryz.f3 Rows.fnExactPilotHappenRow.domain false) (Rows.fnExactPilotHappenSpec.post enc Tryz.prog Tryz.f3 false true false false):=by
 refine returnsInHanded_of_change (C:=Tryz.checked) mJ started (by kernel_rfl) Tryz.func3
  (ChangeSpec.witness6 (enc:=enc) (C:=Tryz.checked) false ⟨#[],#[.agg #[.bool false,.slice none 0 0,.slice none 0 0,.slice none 0 0],.agg #[.int .i64 0,.string ⟨#[]⟩,.string ⟨#[]⟩,.slice none 0 0,.int .i64 0,.int .i64 0,.bool false,.string ⟨#[]⟩,.string ⟨#[]⟩,.int .i64 0,.int .i64 0,.int .i64 0,.int .i64 0,.string ⟨#[]⟩,.slice none 0 0,.int .i64 0,.string ⟨#[]⟩,.string ⟨#[]⟩,.string ⟨#[]⟩,.string ⟨#[]⟩,.string ⟨#[]⟩]],[]⟩ 8 (by kernel_rfl) (by kernel_rfl) (by kernel_rfl) (by kernel_rfl)) ?_
 intro W base args ds gs before hval0 hW _ _;have hval:∀ (j:Nat) t v,Tryz.f3.params[j]?=some t→args[j]?=some v→Value.okWide Tryz.prog W .any base t v:=hval0;have hW':=hW;obtain ⟨p,q,hA0,hV,rfl,_,_⟩:=hW;have hA:DataW.TrodAll enc Tryz.prog W 0 (fun _=>true) true Tryz.f3.params.toList args.toList ds p:=hA0;rw [Tryz.params3] at hA hval;obtain ⟨v0,v1,d0,d1,p0,p1,rfl,rfl,rfl,h0,h1⟩:=trodAll_two hA;obtain ⟨rfl,rfl⟩:=trodVars_none hV;obtain ⟨cs0,rfl,hcs0⟩:=okWide_struct Tryz.underlying26 (hval 0 26 v0 rfl rfl);obtain ⟨cs1,rfl,hcs1⟩:=okWide_struct Tryz.underlying34 (hval 1 34 v1 rfl rfl);have h0k:=h0;have h1k:=h1;have hlt0:∀ x∈p0,x.block<W.heap.size:=by obtain ⟨m,hm⟩:=h0k;exact DataW.trod_lt m _ _ _ hm
 have hlt1:∀ x∈p1,x.block<W.heap.size:=by obtain ⟨m,hm⟩:=h1k;exact DataW.trod_lt m _ _ _ hm
 obtain ⟨fuel0,hf0⟩:=h0;obtain ⟨fuel1,hf1⟩:=h1;clear hA0 hval0;obtain ⟨hl,x,a1,c1,a2,c2,a3,c3,e0,e1,e2,e3,n1,n2,n3⟩:=dZ hf0;have hagg:=kP hl e0 e1 e2 e3;subst hagg;obtain ⟨v,am,cm,al,cl,rfl,nm,nl,z1,z2,z7,z8,z13,z16,z17,z18,z19,z20⟩:=eX hf1;refine (iB x a1 c1 a2 c2 a3 c3 v am cm al cl 0 W n1 n2 n3 nm nl z1 z2 z7 z8 z13 z16 z17 z18 z19 z20).mono ?_;rintro e W' ⟨he,bel⟩;subst he;exact ⟨_,rfl,_,_,_,[],_,[],hW',trodAll_mk1 (shut_bool Tryz.underlying4 _),trodAll_mk2 (Below.trod Wu (by kernel_rfl) (of_decide_eq_true (by kernel_rfl)) h0k bel hlt0) (Below.trod Wu (by kernel_rfl) (of_decide_eq_true (by kernel_rfl)) h1k bel hlt1),rfl,bel.frame _,fun h=>by cases h⟩
theorem x_holds:Rows.FnExactPilotHappenSaid :=
 OpenClaim.holds_of_wide 3 Tryz.f3 rfl rfl rfl rfl rfl rfl rfl ⟨rfl,rfl,rfl,rfl,rfl⟩ rfl rfl rfl rfl rfl (by kernel_rfl) Tryz.func3 (by kernel_rfl)
  (of_decide_eq_true (by kernel_rfl)) (by unfold Func.isWrapper;first | (rw [if_pos (by decide +kernel)];kernel_rfl) | (rw [if_neg (by decide +kernel)];exact ⟨rfl,rfl⟩))
  (fun os started H enc _=>lB os started H enc)
end Go.Proofs.YtihnjndnkgnmaaaGreat
