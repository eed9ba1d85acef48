import Derived.Test.YtjoeojhdkoidbaaGreatRows
import Derived.Test.YtjoeojhdkoidbaaGreatLawDo
import Derived.Test.YtjoeojhdkoidbaaGreatOpn
import Derived.ShutString
import Derived.ChangeOld
import Derived.ChangeSame
import Derived.SizedLaws
import Derived.Lib.SmallJoins
set_option maxHeartbeats 1000000
set_option maxRecDepth 100000
namespace Go.Proofs.YtjoeojhdkoidbaaGreat
open Go.ChangeShapes Go.WideShapes Go.ChangeAt Go.RowKit
theorem vO:ownKnob Tryz.prog.godebug=none:=by kernel_rfl
theorem bB:laidOutB Tryz.prog=true:=by kernel_rfl
theorem tF {cs:Array Value} {a b c d:Value} (hl:cs.toList.length=4) (h0:cs.toList[0]?=some a) (h1:cs.toList[1]?=some b) (h2:cs.toList[2]?=some c) (h3:cs.toList[3]?=some d):cs=#[a,b,c,d]:=by
 obtain ⟨l⟩:=cs;obtain ⟨c0,c1,c2,c3,rfl⟩:=sK hl;simp at h0 h1 h2 h3;rw [h0,h1,h2,h3]
theorem tX:Tryz.prog.cellsOf 29=3:=by kernel_rfl
theorem uS {cs:List Value} (h:cs.length=3):∃ c0 c1 c2,cs=[c0,c1,c2]:=by
 match cs,h with
 | [c0,c1,c2],_=>exact ⟨_,_,_,rfl⟩
section
variable {H:Type} {enc:TypeId×Value→H} {w:World} {base:Nat} {spare:Nat→Bool} {held:Bool}
theorem qY {P:Program} {t:TypeId} {f0 f1 f2:Field} {fuel:Nat} {cs:List Value} {x:DataW H×List MemPlace} (ht:P.underlying t=some (.struct #[f0,f1,f2])) (h:DataW.trod enc P w base spare held fuel t cs=some x) :
  cs.length=P.cellsOf t∧∃ n,(∃ y,DataW.trod enc P w base spare held n f0.type ((cs.drop f0.offset).take (P.cellsOf f0.type))=some y)∧(∃ y,DataW.trod enc P w base spare held n f1.type ((cs.drop f1.offset).take (P.cellsOf f1.type))=some y)∧(∃ y,DataW.trod enc P w base spare held n f2.type ((cs.drop f2.offset).take (P.cellsOf f2.type))=some y):=by
 obtain ⟨xs,n,_,_,hl,hlen,hf⟩:=DataW.trod_struct ht h;exact ⟨hl,n,Bk hlen hf 0 f0 rfl,Bk hlen hf 1 f1 rfl,Bk hlen hf 2 f2 rfl⟩
theorem oK {fuel:Nat} {cs:Array Value} {y:DataW H×List MemPlace} (h:DataW.trod enc Tryz.prog w base spare held fuel 29 cs.toList=some y) :
  ∃ (v:Stp) (am:Option Addr) (cm:Nat),cs=#[.string v.copy,.string v.berth,.slice am v.gone.length cm]∧SliceC StrC 1 0 w am v.gone∧v.copy.size≤maxLen∧v.berth.size≤maxLen:=by
 obtain ⟨l⟩:=cs;replace h:DataW.trod enc Tryz.prog w base spare held fuel 29 l=some y:=h;obtain ⟨hl,n,HP⟩:=qY Tryz.underlying29 h;rw [tX] at hl;obtain ⟨c0,c1,c2,rfl⟩:=uS hl;obtain ⟨⟨_,h0⟩,⟨_,h1⟩,⟨_,h2⟩⟩:=HP;simp only [Qo,gU] at h0 h1 h2;obtain ⟨v0,e0,_,s0⟩:=DataW.trod_string Tryz.underlying9 h0;obtain ⟨v1,e1,_,s1⟩:=DataW.trod_string Tryz.underlying9 h1;obtain ⟨am,xs,cm,e2,hs⟩:=Xj h2;clear h h0 h1 h2 hl;simp at e0 e1 e2;subst e0 e1 e2;exact ⟨⟨v0,v1,xs⟩,am,cm,rfl,hs,s0,s1⟩
end
theorem tR (os:Os) (started:os.Started) (H:Type) (enc:TypeId×Value→H) :
  ReturnsInHanded {} Tryz.checked os 3 .any (Rows.fnExactPilotDoSpec.pre6 enc Tryz.prog Tryz.f3 Rows.fnExactPilotDoRow.domain false) (Rows.fnExactPilotDoSpec.post enc Tryz.prog Tryz.f3 false true false false):=by
 refine returnsInHanded_of_change (C:=Tryz.checked) vO started (by kernel_rfl) Tryz.func3
  (ChangeSpec.witness6 (enc:=enc) (C:=Tryz.checked) false ⟨#[],#[.agg #[.bool false,.slice none 0 0,.slice none 0 0,.slice none 0 0],.agg #[.string ⟨#[]⟩,.string ⟨#[]⟩,.slice none 0 0]],[]⟩ 8 (by kernel_rfl) (by kernel_rfl) (by kernel_rfl) (by kernel_rfl)) ?_
 intro W base args ds gs before hval0 hW _ _;have hval:∀ (j:Nat) t v,Tryz.f3.params[j]?=some t→args[j]?=some v→Value.okWide Tryz.prog W .any base t v:=hval0;have hW':=hW;obtain ⟨p,q,hA0,hV,rfl,_,_⟩:=hW;have hA:DataW.TrodAll enc Tryz.prog W 0 (fun _=>true) true Tryz.f3.params.toList args.toList ds p:=hA0;rw [Tryz.params3] at hA hval;obtain ⟨v0,v1,d0,d1,p0,p1,rfl,rfl,rfl,h0,h1⟩:=trodAll_two hA;obtain ⟨rfl,rfl⟩:=trodVars_none hV;obtain ⟨cs0,rfl,hcs0⟩:=okWide_struct Tryz.underlying26 (hval 0 26 v0 rfl rfl);obtain ⟨cs1,rfl,hcs1⟩:=okWide_struct Tryz.underlying29 (hval 1 29 v1 rfl rfl);have h0k:=h0;have h1k:=h1;have hlt0:∀ x∈p0,x.block<W.heap.size:=by obtain ⟨m,hm⟩:=h0k;exact DataW.trod_lt m _ _ _ hm
 have hlt1:∀ x∈p1,x.block<W.heap.size:=by obtain ⟨m,hm⟩:=h1k;exact DataW.trod_lt m _ _ _ hm
 obtain ⟨fuel0,hf0⟩:=h0;obtain ⟨fuel1,hf1⟩:=h1;clear hA0 hval0;obtain ⟨hl,x,a1,c1,a2,c2,a3,c3,e0,e1,e2,e3,n1,n2,n3⟩:=pW hf0;have hagg:=tF hl e0 e1 e2 e3;subst hagg;obtain ⟨v,am,cm,rfl,nm,z0,z1⟩:=oK hf1;refine (qX x a1 c1 a2 c2 a3 c3 v am cm 0 W n1 n2 n3 nm z0 z1).mono ?_;rintro e W' ⟨he,bel⟩;subst he;exact ⟨_,rfl,_,_,_,[],_,[],hW',trodAll_mk1 (shut_bool Tryz.underlying4 _),trodAll_mk2 (Below.trod bB (by kernel_rfl) (of_decide_eq_true (by kernel_rfl)) h0k bel hlt0) (Below.trod bB (by kernel_rfl) (of_decide_eq_true (by kernel_rfl)) h1k bel hlt1),rfl,bel.frame _,fun h=>by cases h⟩
theorem x_holds:Rows.FnExactPilotDoSaid :=
 OpenClaim.holds_of_wide 3 Tryz.f3 rfl rfl rfl rfl rfl rfl rfl ⟨rfl,rfl,rfl,rfl,rfl⟩ rfl rfl rfl rfl rfl (by kernel_rfl) Tryz.func3 (by kernel_rfl)
  (of_decide_eq_true (by kernel_rfl)) (by unfold Func.isWrapper;first | (rw [if_pos (by decide +kernel)];kernel_rfl) | (rw [if_neg (by decide +kernel)];exact ⟨rfl,rfl⟩))
  (fun os started H enc _=>tR os started H enc)
end Go.Proofs.YtjoeojhdkoidbaaGreat
