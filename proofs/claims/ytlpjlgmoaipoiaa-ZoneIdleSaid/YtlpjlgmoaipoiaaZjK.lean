/- ZoneIdle, for all that it can be called with, returns true. Condition: none. -/
import Derived.Test.YtlpjlgmoaipoiaaZjJ
import GoSem.Step
import GoSem.ClaimKeys
import Derived.DeepKeys2
import Derived.RangeFuncLeaves
import Derived.OrdersIn
import Derived.Laws.World
import Derived.Laws.Sem
import Derived.RangeFuncRecord
import Derived.Laws.CopyRow
import Derived.Laws.Append
import Derived.Laws.Rows
import Derived.Laws.Slices
import Derived.Laws.Entries
import Derived.ChangeKeysEq
import Derived.IntWalk
import Derived.DeepKeys
import Derived.DeepKeys3
import Derived.Laws.StructEq
import Derived.MapKept
import Derived.Laws.AppendOwn
import Derived.ChangeArms
import Derived.ChangeOld
import Derived.Carry
import Derived.ChangeShapes
import Derived.KernelRfl
import Derived.ProofKit
import Derived.Test.YtlpjlgmoaipoiaaRows

namespace Go.Proofs.Ytlpjlgmoaipoiaa
open _root_.Go.Proofs.Try
open Go.ChangeShapes Go.WideShapes Go.ChangeAt Go.RowKit Go.Abs
set_option maxRecDepth 100000
theorem op3:zrQ prog 3 Int (zl6 .i64):=zrR (by kernel_rfl)
theorem zz9:zrQ prog 22 (List Int) (fun l=>l.length<=maxLen/\∀a0∈l,zl6 .i64 a0):=zrU (by kernel_rfl) (by kernel_rfl) op3
theorem zAa:zrQ prog 24 Rl zr3:=zrZ (fs:=[(3,0),(3,1),(3,2),(3,3),(3,4),(22,5)]) (by kernel_rfl) (by kernel_rfl) (zrY (α:=Int) (ok:=zl6 .i64) (k:=1) op3 (by kernel_rfl) rfl (zrY (α:=Int) (ok:=zl6 .i64) (k:=1) op3 (by kernel_rfl) rfl (zrY (α:=Int) (ok:=zl6 .i64) (k:=1) op3 (by kernel_rfl) rfl (zrY (α:=Int) (ok:=zl6 .i64) (k:=1) op3 (by kernel_rfl) rfl (zrY (α:=Int) (ok:=zl6 .i64) (k:=1) op3 (by kernel_rfl) rfl (zrY (α:=List Int) (ok:=(fun l=>l.length<=maxLen/\∀a0∈l,zl6 .i64 a0)) (k:=1) zz9 (by kernel_rfl) rfl zrX)))))) (by kernel_rfl) fun m vs h=>by
 obtain⟨a0,c0,r0,m0,h0,p0,k0,s0,⟨a1,c1,r1,m1,h1,p1,k1,s1,⟨a2,c2,r2,m2,h2,p2,k2,s2,⟨a3,c3,r3,m3,h3,p3,k3,s3,⟨a4,c4,r4,m4,h4,p4,k4,s4,⟨a5,c5,r5,m5,h5,p5,k5,s5,rfl⟩⟩⟩⟩⟩⟩:=h;have p0:c0=[.int .i64 a0]:=p0; subst p0;have p1:c1=[.int .i64 a1]:=p1; subst p1;have p2:c2=[.int .i64 a2]:=p2; subst p2;have p3:c3=[.int .i64 a3]:=p3; subst p3;have p4:c4=[.int .i64 a4]:=p4; subst p4;obtain⟨d5,rfl,p5⟩:=p5;subst h5 h4 h3 h2 h1 h0;exact⟨⟨a0,a1,a2,a3,a4,a5⟩,⟨_,rfl,p5⟩,⟨k0,k1,k2,k3,k4,k5⟩⟩
theorem zAb:zrQ prog 63 Rg zr1:=zrZ (fs:=[(3,0),(3,1)]) (by kernel_rfl) (by kernel_rfl) (zrY (α:=Int) (ok:=zl6 .i64) (k:=1) op3 (by kernel_rfl) rfl (zrY (α:=Int) (ok:=zl6 .i64) (k:=1) op3 (by kernel_rfl) rfl zrX)) (by kernel_rfl) fun m vs h=>by
 obtain⟨a0,c0,r0,m0,h0,p0,k0,s0,⟨a1,c1,r1,m1,h1,p1,k1,s1,rfl⟩⟩:=h;have p0:c0=[.int .i64 a0]:=p0; subst p0;have p1:c1=[.int .i64 a1]:=p1; subst p1;subst h1 h0;exact⟨⟨a0,a1⟩,rfl,⟨k0,k1⟩⟩
theorem op4:zrQ prog 4 Bool (fun _=>True):=zrS (by kernel_rfl)
theorem zAc:zrQ prog 75 Yr zr4:=zrZ (fs:=[(63,0),(63,2),(3,4),(4,5)]) (by kernel_rfl) (by kernel_rfl) (zrY (α:=Rg) (ok:=zr1) (k:=2) zAb (by kernel_rfl) rfl (zrY (α:=Rg) (ok:=zr1) (k:=2) zAb (by kernel_rfl) rfl (zrY (α:=Int) (ok:=zl6 .i64) (k:=1) op3 (by kernel_rfl) rfl (zrY (α:=Bool) (ok:=(fun _=>True)) (k:=1) op4 (by kernel_rfl) rfl zrX)))) (by kernel_rfl) fun m vs h=>by
 obtain⟨a0,c0,r0,m0,h0,p0,k0,s0,⟨a1,c1,r1,m1,h1,p1,k1,s1,⟨a2,c2,r2,m2,h2,p2,k2,s2,⟨a3,c3,r3,m3,h3,p3,k3,s3,rfl⟩⟩⟩⟩:=h;have p0:c0=[.int .i64 a0.Lo,.int .i64 a0.Hi]:=p0; subst p0;have p1:c1=[.int .i64 a1.Lo,.int .i64 a1.Hi]:=p1; subst p1;have p2:c2=[.int .i64 a2]:=p2; subst p2;have p3:c3=[.bool a3]:=p3; subst p3;subst h3 h2 h1 h0;exact⟨⟨a0,a1,a2,a3⟩,rfl,⟨k0,k1,k2,k3⟩⟩
theorem zAd:zrQ prog 25 (List Yr) (fun l=>l.length<=maxLen/\∀a0∈l,zr4 a0):=zrU (by kernel_rfl) (by kernel_rfl) zAc
theorem zAe:zrQ prog 27 Zn zr6:=zrZ (fs:=[(3,0),(25,1)]) (by kernel_rfl) (by kernel_rfl) (zrY (α:=Int) (ok:=zl6 .i64) (k:=1) op3 (by kernel_rfl) rfl (zrY (α:=List Yr) (ok:=(fun l=>l.length<=maxLen/\∀a0∈l,zr4 a0)) (k:=1) zAd (by kernel_rfl) rfl zrX)) (by kernel_rfl) fun m vs h=>by
 obtain⟨a0,c0,r0,m0,h0,p0,k0,s0,⟨a1,c1,r1,m1,h1,p1,k1,s1,rfl⟩⟩:=h;have p0:c0=[.int .i64 a0]:=p0; subst p0;obtain⟨d1,rfl,p1⟩:=p1;subst h1 h0;exact⟨⟨a0,a1⟩,⟨_,rfl,p1⟩,⟨k0,k1⟩⟩
theorem op5:zrQ prog 5 W8 zr8:=fun H enc W held n cs x hx e m hl=>by
 obtain⟨i,rfl,_,hw⟩:=DataW.trod_int (show prog.underlying 5=some (.int .u8) by kernel_rfl) hx;exact⟨e,m,[.int .u8 i],⟨i⟩,.refl _,.refl _,hl,.cons rfl .nil,rfl,zqw hw⟩
theorem zAf:zrQ prog 71 (List W8) (fun l=>l.length<=maxLen/\∀a0∈l,zr8 a0):=zrU (by kernel_rfl) (by kernel_rfl) op5
theorem zAg:laidOutB prog=true:=by kernel_rfl
theorem zAh:ownKnob prog.godebug=none:=by kernel_rfl
theorem zAi(os:Os)(started:os.Started)(H:Type)(enc:TypeId × Value->H) :
    ReturnsInHanded {} Try.checked os 9 .any (Rows.zoneIdleSpec.pre6 enc Try.prog Try.f9 Rows.zoneIdleRow.domain false) (Rows.zoneIdleSpec.post enc Try.prog Try.f9 false true false false):=by
  refine returnsInHanded_of_change (C:=Try.checked) zAh started (by kernel_rfl) Try.func9
    (ChangeSpec.witness6 (enc:=enc) (C:=Try.checked) false ⟨#[],#[.agg #[.int .i64 0,.int .i64 0,.int .i64 0,.int .i64 0,.int .i64 0,.slice none 0 0],.agg #[.int .i64 0,.slice none 0 0],.int .u8 0,.slice none 0 0],[]⟩ 8 (by kernel_rfl) (by kernel_rfl) (by kernel_rfl) (by kernel_rfl)) ?_
  intro W base args ds gs before hval0 hW hcnd _;have hval:∀(j:Nat) t v,Try.f9.params[j]? = some t->args[j]? = some v->Value.okWide Try.prog W .any base t v:=hval0;have hW':=hW;obtain⟨p,q,hA0,hV,rfl,hfz,hnd⟩:=hW;have hA:DataW.TrodAll enc Try.prog W 0 (fun _=>true) true Try.f9.params.toList args.toList ds p:=hA0;rw[Try.params9] at hA hval;obtain⟨v0,v1,v2,v3,d0,d1,d2,d3,p0,p1,p2,p3,rfl,rfl,rfl,h0,h1,h2,h3⟩:=trodAll_four hA;obtain⟨rfl,rfl⟩:=trodVars_none hV;obtain⟨n2,hv2⟩:=okWide_int Try.underlying5 (hval 2 5 v2 rfl rfl);obtain⟨a3,len3,cap3,hv3⟩:=okWide_slice Try.underlying71 (hval 3 71 v3 rfl rfl)
  have hlt:∀x∈p0++p1++p2++p3,x.block < W.heap.size:=fun x hx=>by simpa using hW'.lt x (by simpa using hx)
  obtain⟨fu0,hf0⟩:=id h0;obtain⟨fu1,hf1⟩:=id h1;obtain⟨fu2,hf2⟩:=id h2;obtain⟨fu3,hf3⟩:=id h3
  clear hA0 hval0
  obtain⟨e0,m0,w0,a_0,le0,sv0,lay0,cr0,zvq,ok0⟩:=zAa H enc W true _ _ _ hf0 _ _ (Lay.nil W);obtain⟨e1,m1,w1,a_1,le1,sv1,lay1,cr1,rep1,ok1⟩:=zAe H enc W true _ _ _ hf1 e0 m0 lay0;obtain⟨i2,hc2,_,hw2⟩:=DataW.trod_int Try.underlying5 hf2;obtain⟨e3,m3,w3,a_3,le3,sv3,lay3,cr3,rep3,ok3⟩:=zAf H enc W true _ _ _ hf3 e1 m1 lay1;obtain⟨c0_5,rfl,g0_5⟩:=zvq
  obtain⟨cs0,hv0,cl0⟩:∃cs,v0=.agg cs/\v0.cells.toList=cs.toList:=by
    have hl:=cr0.length
    cases v0 with
    | agg cs=>exact⟨cs,rfl,rfl⟩
    | _=>exact absurd hl (by simp[Value.cells])
  subst hv0;obtain⟨c1_1,rfl,g1_1⟩:=rep1
  obtain⟨cs1,hv1,cl1⟩:∃cs,v1=.agg cs/\v1.cells.toList=cs.toList:=by
    have hl:=cr1.length
    cases v1 with
    | agg cs=>exact⟨cs,rfl,rfl⟩
    | _=>exact absurd hl (by simp[Value.cells])
  subst hv1;subst hv2
  have hi2:i2=n2:=by
    have h:[Value.int .u8 n2]=[.int .u8 i2]:=hc2
    cases h; rfl
  subst hi2;subst hv3;obtain⟨c3,rfl,rep3⟩:=rep3
  have cv3:CR e3 c3 (.slice a3 len3 cap3):=by
    cases cr3 with
    | cons h _=>exact h
  have hargs:zeq (VR e3) [.agg 6 [.int .i64 a_0.Classes,.int .i64 a_0.Good,.int .i64 a_0.Bad,.int .i64 a_0.Rest,.int .i64 a_0.Fewest,c0_5],.agg 2 [.int .i64 a_1.First,c1_1],.c (.int .u8 i2),.c c3] [.agg cs0,.agg cs1,.int .u8 i2,.slice a3 len3 cap3]:=.cons ⟨cs0,rfl,(cr0.mono fun _ _=>CR.mono (le1.trans le3)),rfl⟩ (.cons ⟨cs1,rfl,(cr1.mono fun _ _=>CR.mono le3),rfl⟩ (.cons rfl (.cons cv3 .nil)));refine(callsIn_wide.1 (zqy fits htab (zwl (r:=a_0) (z:=a_1) (which:=i2) (words:=a_3) lay3.pre ((g0_5.subv sv1).subv sv3) (g1_1.subv sv3) rep3 (zz8 ok0 ok1 (zqw hw2) ok3) (Q:=fun v _=>v=.c (.bool true)) fun _ _=>rfl) lay3.hr (args':=#[.agg cs0,.agg cs1,.int .u8 i2,.slice a3 len3 cap3]) hargs 0)).mono fun en W' hp=>?_;obtain⟨v,v',e',m',rfl,hst,hvr,rfl⟩:=hp;have hv':v'=.bool true:=hvr;subst hv';have hbelow:=lay3.below hst
  refine⟨_,rfl,[d0,d1,d2,d3],[],p0++p1++p2++p3,[],p0++(p1++(p2++p3)),[],by simpa using hW',trodAll_mk1 (shut_bool Try.underlying4 _),
    trodAll_mk4 (Below.trod zAg (by kernel_rfl) (of_decide_eq_true (by kernel_rfl)) h0 hbelow fun x hx=>hlt x (by simp[hx])) (Below.trod zAg (by kernel_rfl) (of_decide_eq_true (by kernel_rfl)) h1 hbelow fun x hx=>hlt x (by simp[hx])) (Below.trod zAg (by kernel_rfl) (of_decide_eq_true (by kernel_rfl)) h2 hbelow fun x hx=>hlt x (by simp[hx])) (Below.trod zAg (by kernel_rfl) (of_decide_eq_true (by kernel_rfl)) h3 hbelow fun x hx=>hlt x (by simp[hx])),rfl,lay3.kept hst _,fun hc=>by cases hc⟩
theorem ZoneIdle_holds:Rows.ZoneIdleSaid:=
 OpenClaim.holds_of_wide 9 Try.f9 rfl rfl rfl rfl rfl rfl rfl ⟨rfl,rfl,rfl,rfl,rfl⟩ rfl rfl rfl rfl rfl (by kernel_rfl) Try.func9 (by kernel_rfl)
  (of_decide_eq_true (by kernel_rfl)) (by unfold Func.isWrapper; first | (rw[if_pos (by decide +kernel)]; kernel_rfl) | (rw[if_neg (by decide +kernel)]; exact⟨rfl,rfl⟩))
  (fun os started H enc _=>zAi os started H enc)
end Go.Proofs.Ytlpjlgmoaipoiaa

