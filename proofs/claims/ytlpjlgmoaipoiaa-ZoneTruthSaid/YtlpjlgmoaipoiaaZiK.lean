/- ZoneTruth, for all that it can be called with, returns true. Condition: none. -/
import Derived.Test.YtlpjlgmoaipoiaaZiJ
import GoSem.Step
import GoSem.ClaimKeys
import Derived.DeepKeys2
import Derived.RangeFuncLeaves
import Derived.OrdersIn
import Derived.Laws.World
import Derived.Laws.Sem
import Derived.RangeFuncRecord
import Derived.Laws.CopyRow
import Derived.Laws.Append
import Derived.Laws.Rows
import Derived.Laws.Slices
import Derived.Laws.Entries
import Derived.ChangeKeysEq
import Derived.IntWalk
import Derived.DeepKeys
import Derived.DeepKeys3
import Derived.Laws.StructEq
import Derived.MapKept
import Derived.Laws.AppendOwn
import Derived.ChangeArms
import Derived.ChangeOld
import Derived.Carry
import Derived.ChangeShapes
import Derived.KernelRfl
import Derived.ProofKit
import Derived.Test.YtlpjlgmoaipoiaaRows

namespace Go.Proofs.Ytlpjlgmoaipoiaa
open _root_.Go.Proofs.Try
open Go.ChangeShapes Go.WideShapes Go.ChangeAt Go.RowKit Go.Abs
set_option maxRecDepth 100000
theorem op3:zrR prog 3 Int (zl6 .i64):=zrS (by kernel_rfl)
theorem zAz:zrR prog 22 (List Int) (fun l=>l.length<=maxLen/\∀a0∈l,zl6 .i64 a0):=zrV (by kernel_rfl) (by kernel_rfl) op3
theorem zAA:zrR prog 24 Rl zr4:=zr0 (fs:=[(3,0),(3,1),(3,2),(3,3),(3,4),(22,5)]) (by kernel_rfl) (by kernel_rfl) (zrZ (α:=Int) (ok:=zl6 .i64) (k:=1) op3 (by kernel_rfl) rfl (zrZ (α:=Int) (ok:=zl6 .i64) (k:=1) op3 (by kernel_rfl) rfl (zrZ (α:=Int) (ok:=zl6 .i64) (k:=1) op3 (by kernel_rfl) rfl (zrZ (α:=Int) (ok:=zl6 .i64) (k:=1) op3 (by kernel_rfl) rfl (zrZ (α:=Int) (ok:=zl6 .i64) (k:=1) op3 (by kernel_rfl) rfl (zrZ (α:=List Int) (ok:=(fun l=>l.length<=maxLen/\∀a0∈l,zl6 .i64 a0)) (k:=1) zAz (by kernel_rfl) rfl zrY)))))) (by kernel_rfl) fun m vs h=>by
 obtain⟨a0,c0,r0,m0,h0,p0,k0,s0,⟨a1,c1,r1,m1,h1,p1,k1,s1,⟨a2,c2,r2,m2,h2,p2,k2,s2,⟨a3,c3,r3,m3,h3,p3,k3,s3,⟨a4,c4,r4,m4,h4,p4,k4,s4,⟨a5,c5,r5,m5,h5,p5,k5,s5,rfl⟩⟩⟩⟩⟩⟩:=h;have p0:c0=[.int .i64 a0]:=p0; subst p0;have p1:c1=[.int .i64 a1]:=p1; subst p1;have p2:c2=[.int .i64 a2]:=p2; subst p2;have p3:c3=[.int .i64 a3]:=p3; subst p3;have p4:c4=[.int .i64 a4]:=p4; subst p4;obtain⟨d5,rfl,p5⟩:=p5;subst h5 h4 h3 h2 h1 h0;exact⟨⟨a0,a1,a2,a3,a4,a5⟩,⟨_,rfl,p5⟩,⟨k0,k1,k2,k3,k4,k5⟩⟩
theorem zAB:zrR prog 63 Rg zr2:=zr0 (fs:=[(3,0),(3,1)]) (by kernel_rfl) (by kernel_rfl) (zrZ (α:=Int) (ok:=zl6 .i64) (k:=1) op3 (by kernel_rfl) rfl (zrZ (α:=Int) (ok:=zl6 .i64) (k:=1) op3 (by kernel_rfl) rfl zrY)) (by kernel_rfl) fun m vs h=>by
 obtain⟨a0,c0,r0,m0,h0,p0,k0,s0,⟨a1,c1,r1,m1,h1,p1,k1,s1,rfl⟩⟩:=h;have p0:c0=[.int .i64 a0]:=p0; subst p0;have p1:c1=[.int .i64 a1]:=p1; subst p1;subst h1 h0;exact⟨⟨a0,a1⟩,rfl,⟨k0,k1⟩⟩
theorem op4:zrR prog 4 Bool (fun _=>True):=zrT (by kernel_rfl)
theorem zAC:zrR prog 75 Yr zr5:=zr0 (fs:=[(63,0),(63,2),(3,4),(4,5)]) (by kernel_rfl) (by kernel_rfl) (zrZ (α:=Rg) (ok:=zr2) (k:=2) zAB (by kernel_rfl) rfl (zrZ (α:=Rg) (ok:=zr2) (k:=2) zAB (by kernel_rfl) rfl (zrZ (α:=Int) (ok:=zl6 .i64) (k:=1) op3 (by kernel_rfl) rfl (zrZ (α:=Bool) (ok:=(fun _=>True)) (k:=1) op4 (by kernel_rfl) rfl zrY)))) (by kernel_rfl) fun m vs h=>by
 obtain⟨a0,c0,r0,m0,h0,p0,k0,s0,⟨a1,c1,r1,m1,h1,p1,k1,s1,⟨a2,c2,r2,m2,h2,p2,k2,s2,⟨a3,c3,r3,m3,h3,p3,k3,s3,rfl⟩⟩⟩⟩:=h;have p0:c0=[.int .i64 a0.Lo,.int .i64 a0.Hi]:=p0; subst p0;have p1:c1=[.int .i64 a1.Lo,.int .i64 a1.Hi]:=p1; subst p1;have p2:c2=[.int .i64 a2]:=p2; subst p2;have p3:c3=[.bool a3]:=p3; subst p3;subst h3 h2 h1 h0;exact⟨⟨a0,a1,a2,a3⟩,rfl,⟨k0,k1,k2,k3⟩⟩
theorem zAD:zrR prog 25 (List Yr) (fun l=>l.length<=maxLen/\∀a0∈l,zr5 a0):=zrV (by kernel_rfl) (by kernel_rfl) zAC
theorem zAE:zrR prog 27 Zn zr7:=zr0 (fs:=[(3,0),(25,1)]) (by kernel_rfl) (by kernel_rfl) (zrZ (α:=Int) (ok:=zl6 .i64) (k:=1) op3 (by kernel_rfl) rfl (zrZ (α:=List Yr) (ok:=(fun l=>l.length<=maxLen/\∀a0∈l,zr5 a0)) (k:=1) zAD (by kernel_rfl) rfl zrY)) (by kernel_rfl) fun m vs h=>by
 obtain⟨a0,c0,r0,m0,h0,p0,k0,s0,⟨a1,c1,r1,m1,h1,p1,k1,s1,rfl⟩⟩:=h;have p0:c0=[.int .i64 a0]:=p0; subst p0;obtain⟨d1,rfl,p1⟩:=p1;subst h1 h0;exact⟨⟨a0,a1⟩,⟨_,rfl,p1⟩,⟨k0,k1⟩⟩
theorem op5:zrR prog 5 W8 zr9:=fun H enc W held n cs x hx e m hl=>by
 obtain⟨i,rfl,_,hw⟩:=DataW.trod_int (show prog.underlying 5=some (.int .u8) by kernel_rfl) hx;exact⟨e,m,[.int .u8 i],⟨i⟩,.refl _,.refl _,hl,.cons rfl .nil,rfl,zqw hw⟩
theorem zAF:zrR prog 71 (List W8) (fun l=>l.length<=maxLen/\∀a0∈l,zr9 a0):=zrV (by kernel_rfl) (by kernel_rfl) op5
theorem zAG:laidOutB prog=true:=by kernel_rfl
theorem zAH:ownKnob prog.godebug=none:=by kernel_rfl
theorem zAI(os:Os)(started:os.Started)(H:Type)(enc:TypeId × Value->H) :
    ReturnsInHanded {} Try.checked os 8 .any (Rows.zoneTruthSpec.pre6 enc Try.prog Try.f8 Rows.zoneTruthRow.domain false) (Rows.zoneTruthSpec.post enc Try.prog Try.f8 false true false false):=by
  refine returnsInHanded_of_change (C:=Try.checked) zAH started (by kernel_rfl) Try.func8
    (ChangeSpec.witness6 (enc:=enc) (C:=Try.checked) false ⟨#[],#[.agg #[.int .i64 0,.int .i64 0,.int .i64 0,.int .i64 0,.int .i64 0,.slice none 0 0],.agg #[.int .i64 0,.slice none 0 0],.slice none 0 0],[]⟩ 8 (by kernel_rfl) (by kernel_rfl) (by kernel_rfl) (by kernel_rfl)) ?_
  intro W base args ds gs before hval0 hW hcnd _;have hval:∀(j:Nat) t v,Try.f8.params[j]? = some t->args[j]? = some v->Value.okWide Try.prog W .any base t v:=hval0;have hW':=hW;obtain⟨p,q,hA0,hV,rfl,hfz,hnd⟩:=hW;have hA:DataW.TrodAll enc Try.prog W 0 (fun _=>true) true Try.f8.params.toList args.toList ds p:=hA0;rw[Try.params8] at hA hval;obtain⟨v0,v1,v2,d0,d1,d2,p0,p1,p2,rfl,rfl,rfl,h0,h1,h2⟩:=trodAll_three hA;obtain⟨rfl,rfl⟩:=trodVars_none hV;obtain⟨a2,len2,cap2,hv2⟩:=okWide_slice Try.underlying71 (hval 2 71 v2 rfl rfl)
  have hlt:∀x∈p0++p1++p2,x.block < W.heap.size:=fun x hx=>by simpa using hW'.lt x (by simpa using hx)
  obtain⟨fu0,hf0⟩:=id h0;obtain⟨fu1,hf1⟩:=id h1;obtain⟨fu2,hf2⟩:=id h2
  clear hA0 hval0
  obtain⟨e0,m0,w0,a_0,le0,sv0,lay0,cr0,zvz,ok0⟩:=zAA H enc W true _ _ _ hf0 _ _ (Lay.nil W);obtain⟨e1,m1,w1,a_1,le1,sv1,lay1,cr1,rep1,ok1⟩:=zAE H enc W true _ _ _ hf1 e0 m0 lay0;obtain⟨e2,m2,w2,a_2,le2,sv2,lay2,cr2,rep2,ok2⟩:=zAF H enc W true _ _ _ hf2 e1 m1 lay1;obtain⟨c0_5,rfl,g0_5⟩:=zvz
  obtain⟨cs0,hv0,cl0⟩:∃cs,v0=.agg cs/\v0.cells.toList=cs.toList:=by
    have hl:=cr0.length
    cases v0 with
    | agg cs=>exact⟨cs,rfl,rfl⟩
    | _=>exact absurd hl (by simp[Value.cells])
  subst hv0;obtain⟨c1_1,rfl,g1_1⟩:=rep1
  obtain⟨cs1,hv1,cl1⟩:∃cs,v1=.agg cs/\v1.cells.toList=cs.toList:=by
    have hl:=cr1.length
    cases v1 with
    | agg cs=>exact⟨cs,rfl,rfl⟩
    | _=>exact absurd hl (by simp[Value.cells])
  subst hv1;subst hv2;obtain⟨c2,rfl,rep2⟩:=rep2
  have cv2:CR e2 c2 (.slice a2 len2 cap2):=by
    cases cr2 with
    | cons h _=>exact h
  have hargs:zeq (VR e2) [.agg 6 [.int .i64 a_0.Classes,.int .i64 a_0.Good,.int .i64 a_0.Bad,.int .i64 a_0.Rest,.int .i64 a_0.Fewest,c0_5],.agg 2 [.int .i64 a_1.First,c1_1],.c c2] [.agg cs0,.agg cs1,.slice a2 len2 cap2]:=.cons ⟨cs0,rfl,(cr0.mono fun _ _=>CR.mono (le1.trans le2)),rfl⟩ (.cons ⟨cs1,rfl,(cr1.mono fun _ _=>CR.mono le2),rfl⟩ (.cons cv2 .nil));refine(callsIn_wide.1 (zqy fits htab (zwq (r:=a_0) (z:=a_1) (words:=a_2) lay2.pre ((g0_5.subv sv1).subv sv2) (g1_1.subv sv2) rep2 (zAh ok0 ok1 ok2) (Q:=fun v _=>v=.c (.bool true)) fun _ _=>rfl) lay2.hr (args':=#[.agg cs0,.agg cs1,.slice a2 len2 cap2]) hargs 0)).mono fun en W' hp=>?_;obtain⟨v,v',e',m',rfl,hst,hvr,rfl⟩:=hp;have hv':v'=.bool true:=hvr;subst hv';have hbelow:=lay2.below hst
  refine⟨_,rfl,[d0,d1,d2],[],p0++p1++p2,[],p0++(p1++p2),[],by simpa using hW',trodAll_mk1 (shut_bool Try.underlying4 _),
    trodAll_mk3 (Below.trod zAG (by kernel_rfl) (of_decide_eq_true (by kernel_rfl)) h0 hbelow fun x hx=>hlt x (by simp[hx])) (Below.trod zAG (by kernel_rfl) (of_decide_eq_true (by kernel_rfl)) h1 hbelow fun x hx=>hlt x (by simp[hx])) (Below.trod zAG (by kernel_rfl) (of_decide_eq_true (by kernel_rfl)) h2 hbelow fun x hx=>hlt x (by simp[hx])),rfl,lay2.kept hst _,fun hc=>by cases hc⟩
theorem ZoneTruth_holds:Rows.ZoneTruthSaid:=
 OpenClaim.holds_of_wide 8 Try.f8 rfl rfl rfl rfl rfl rfl rfl ⟨rfl,rfl,rfl,rfl,rfl⟩ rfl rfl rfl rfl rfl (by kernel_rfl) Try.func8 (by kernel_rfl)
  (of_decide_eq_true (by kernel_rfl)) (by unfold Func.isWrapper; first | (rw[if_pos (by decide +kernel)]; kernel_rfl) | (rw[if_neg (by decide +kernel)]; exact⟨rfl,rfl⟩))
  (fun os started H enc _=>zAI os started H enc)
end Go.Proofs.Ytlpjlgmoaipoiaa

