/- ParcelPlays, for all that it can be called with, returns true. Condition: none. -/
import Derived.Test.YtlkgdadfbfafcaaGreatPbI
import GoSem.Step
import GoSem.ClaimKeys
import Derived.DeepKeys2
import Derived.RangeFuncLeaves
import Derived.OrdersIn
import Derived.Laws.World
import Derived.Laws.Sem
import Derived.RangeFuncRecord
import Derived.Laws.CopyRow
import Derived.Laws.Append
import Derived.Laws.Rows
import Derived.Laws.Slices
import Derived.Laws.Entries
import Derived.ChangeKeysEq
import Derived.IntWalk
import Derived.DeepKeys
import Derived.DeepKeys3
import Derived.Laws.StructEq
import Derived.MapKept
import Derived.Laws.AppendOwn
import Derived.ChangeArms
import Derived.ChangeOld
import Derived.Carry
import Derived.ChangeShapes
import Derived.KernelRfl
import Derived.ProofKit
import Derived.Test.YtlkgdadfbfafcaaGreatRows

namespace Go.Proofs.YtlkgdadfbfafcaaGreat
open _root_.Go.Proofs.Tryz
open Go.ChangeShapes Go.WideShapes Go.ChangeAt Go.RowKit Go.Abs
set_option maxRecDepth 100000
theorem op3:zsI prog 3 Int (znq .i64):=zsJ (by kernel_rfl)
theorem zAi:zsI prog 75 Rg zsS:=zsQ (fs:=[(3,0),(3,1)]) (by kernel_rfl) (by kernel_rfl) (zsP (α:=Int) (ok:=znq .i64) (k:=1) op3 (by kernel_rfl) rfl (zsP (α:=Int) (ok:=znq .i64) (k:=1) op3 (by kernel_rfl) rfl zsO)) (by kernel_rfl) fun m vs h=>by
 obtain⟨a0,c0,r0,m0,h0,p0,k0,s0,⟨a1,c1,r1,m1,h1,p1,k1,s1,rfl⟩⟩:=h;have p0:c0=[.int .i64 a0]:=p0; subst p0;have p1:c1=[.int .i64 a1]:=p1; subst p1;subst h1 h0;exact⟨⟨a0,a1⟩,rfl,⟨k0,k1⟩⟩
theorem zAj:zsI prog 95 Pc zsU:=zsQ (fs:=[(3,0),(3,1),(75,2)]) (by kernel_rfl) (by kernel_rfl) (zsP (α:=Int) (ok:=znq .i64) (k:=1) op3 (by kernel_rfl) rfl (zsP (α:=Int) (ok:=znq .i64) (k:=1) op3 (by kernel_rfl) rfl (zsP (α:=Rg) (ok:=zsS) (k:=2) zAi (by kernel_rfl) rfl zsO))) (by kernel_rfl) fun m vs h=>by
 obtain⟨a0,c0,r0,m0,h0,p0,k0,s0,⟨a1,c1,r1,m1,h1,p1,k1,s1,⟨a2,c2,r2,m2,h2,p2,k2,s2,rfl⟩⟩⟩:=h;have p0:c0=[.int .i64 a0]:=p0; subst p0;have p1:c1=[.int .i64 a1]:=p1; subst p1;have p2:c2=[.int .i64 a2.Lo,.int .i64 a2.Hi]:=p2; subst p2;subst h2 h1 h0;exact⟨⟨a0,a1,a2⟩,rfl,⟨k0,k1,k2⟩⟩
theorem zAk:zsI prog 22 (List Pc) (fun l=>l.length<=maxLen/\∀a0∈l,zsU a0):=zsL (by kernel_rfl) (by kernel_rfl) zAj
theorem zAl:zsI prog 103 En zsW:=zsQ (fs:=[(3,0),(3,1),(3,2),(3,3),(3,4),(3,5),(75,6)]) (by kernel_rfl) (by kernel_rfl) (zsP (α:=Int) (ok:=znq .i64) (k:=1) op3 (by kernel_rfl) rfl (zsP (α:=Int) (ok:=znq .i64) (k:=1) op3 (by kernel_rfl) rfl (zsP (α:=Int) (ok:=znq .i64) (k:=1) op3 (by kernel_rfl) rfl (zsP (α:=Int) (ok:=znq .i64) (k:=1) op3 (by kernel_rfl) rfl (zsP (α:=Int) (ok:=znq .i64) (k:=1) op3 (by kernel_rfl) rfl (zsP (α:=Int) (ok:=znq .i64) (k:=1) op3 (by kernel_rfl) rfl (zsP (α:=Rg) (ok:=zsS) (k:=2) zAi (by kernel_rfl) rfl zsO))))))) (by kernel_rfl) fun m vs h=>by
 obtain⟨a0,c0,r0,m0,h0,p0,k0,s0,⟨a1,c1,r1,m1,h1,p1,k1,s1,⟨a2,c2,r2,m2,h2,p2,k2,s2,⟨a3,c3,r3,m3,h3,p3,k3,s3,⟨a4,c4,r4,m4,h4,p4,k4,s4,⟨a5,c5,r5,m5,h5,p5,k5,s5,⟨a6,c6,r6,m6,h6,p6,k6,s6,rfl⟩⟩⟩⟩⟩⟩⟩:=h;have p0:c0=[.int .i64 a0]:=p0; subst p0;have p1:c1=[.int .i64 a1]:=p1; subst p1;have p2:c2=[.int .i64 a2]:=p2; subst p2;have p3:c3=[.int .i64 a3]:=p3; subst p3;have p4:c4=[.int .i64 a4]:=p4; subst p4;have p5:c5=[.int .i64 a5]:=p5; subst p5;have p6:c6=[.int .i64 a6.Lo,.int .i64 a6.Hi]:=p6; subst p6;subst h6 h5 h4 h3 h2 h1 h0;exact⟨⟨a0,a1,a2,a3,a4,a5,a6⟩,rfl,⟨k0,k1,k2,k3,k4,k5,k6⟩⟩
theorem zAm:zsI prog 23 (List En) (fun l=>l.length<=maxLen/\∀a0∈l,zsW a0):=zsL (by kernel_rfl) (by kernel_rfl) zAl
theorem zAn:zsI prog 25 Boo zsY:=zsQ (fs:=[(3,0),(3,1),(22,2),(23,3)]) (by kernel_rfl) (by kernel_rfl) (zsP (α:=Int) (ok:=znq .i64) (k:=1) op3 (by kernel_rfl) rfl (zsP (α:=Int) (ok:=znq .i64) (k:=1) op3 (by kernel_rfl) rfl (zsP (α:=List Pc) (ok:=(fun l=>l.length<=maxLen/\∀a0∈l,zsU a0)) (k:=1) zAk (by kernel_rfl) rfl (zsP (α:=List En) (ok:=(fun l=>l.length<=maxLen/\∀a0∈l,zsW a0)) (k:=1) zAm (by kernel_rfl) rfl zsO)))) (by kernel_rfl) fun m vs h=>by
 obtain⟨a0,c0,r0,m0,h0,p0,k0,s0,⟨a1,c1,r1,m1,h1,p1,k1,s1,⟨a2,c2,r2,m2,h2,p2,k2,s2,⟨a3,c3,r3,m3,h3,p3,k3,s3,rfl⟩⟩⟩⟩:=h;have p0:c0=[.int .i64 a0]:=p0; subst p0;have p1:c1=[.int .i64 a1]:=p1; subst p1;obtain⟨d2,rfl,p2⟩:=p2;obtain⟨d3,rfl,p3⟩:=p3;subst h3 h2 h1 h0;exact⟨⟨a0,a1,a2,a3⟩,⟨_,_,rfl,p2,p3⟩,⟨k0,k1,k2,k3⟩⟩
theorem zAo:zsI prog 26 (List Int) (fun l=>l.length<=maxLen/\∀a0∈l,znq .i64 a0):=zsL (by kernel_rfl) (by kernel_rfl) op3
theorem zAp:zsI prog 28 Tr zsZ:=zsQ (fs:=[(26,0),(26,1)]) (by kernel_rfl) (by kernel_rfl) (zsP (α:=List Int) (ok:=(fun l=>l.length<=maxLen/\∀a0∈l,znq .i64 a0)) (k:=1) zAo (by kernel_rfl) rfl (zsP (α:=List Int) (ok:=(fun l=>l.length<=maxLen/\∀a0∈l,znq .i64 a0)) (k:=1) zAo (by kernel_rfl) rfl zsO)) (by kernel_rfl) fun m vs h=>by
 obtain⟨a0,c0,r0,m0,h0,p0,k0,s0,⟨a1,c1,r1,m1,h1,p1,k1,s1,rfl⟩⟩:=h;obtain⟨d0,rfl,p0⟩:=p0;obtain⟨d1,rfl,p1⟩:=p1;subst h1 h0;exact⟨⟨a0,a1⟩,⟨_,_,rfl,p0,p1⟩,⟨k0,k1⟩⟩
theorem zAq:laidOutB prog=true:=by kernel_rfl
theorem zAr:ownKnob prog.godebug=none:=by kernel_rfl
theorem zAs(os:Os)(started:os.Started)(H:Type)(enc:TypeId × Value->H) :
    ReturnsInHanded {} Tryz.checked os 3 .any (Rows.parcelPlaysSpec.pre6 enc Tryz.prog Tryz.f3 Rows.parcelPlaysRow.domain false) (Rows.parcelPlaysSpec.post enc Tryz.prog Tryz.f3 false true false false):=by
  refine returnsInHanded_of_change (C:=Tryz.checked) zAr started (by kernel_rfl) Tryz.func3
    (ChangeSpec.witness6 (enc:=enc) (C:=Tryz.checked) false ⟨#[],#[.agg #[.int .i64 0,.int .i64 0,.slice none 0 0,.slice none 0 0],.agg #[.slice none 0 0,.slice none 0 0],.int .i64 0],[]⟩ 8 (by kernel_rfl) (by kernel_rfl) (by kernel_rfl) (by kernel_rfl)) ?_
  intro W base args ds gs before hval0 hW hcnd _;have hval:∀(j:Nat) t v,Tryz.f3.params[j]? = some t->args[j]? = some v->Value.okWide Tryz.prog W .any base t v:=hval0;have hW':=hW;obtain⟨p,q,hA0,hV,rfl,hfz,hnd⟩:=hW;have hA:DataW.TrodAll enc Tryz.prog W 0 (fun _=>true) true Tryz.f3.params.toList args.toList ds p:=hA0;rw[Tryz.params3] at hA hval;obtain⟨v0,v1,v2,d0,d1,d2,p0,p1,p2,rfl,rfl,rfl,h0,h1,h2⟩:=trodAll_three hA;obtain⟨rfl,rfl⟩:=trodVars_none hV;obtain⟨n2,hv2⟩:=okWide_int Tryz.underlying3 (hval 2 3 v2 rfl rfl)
  have hlt:∀x∈p0++p1++p2,x.block < W.heap.size:=fun x hx=>by simpa using hW'.lt x (by simpa using hx)
  obtain⟨fu0,hf0⟩:=id h0;obtain⟨fu1,hf1⟩:=id h1;obtain⟨fu2,hf2⟩:=id h2
  clear hA0 hval0
  obtain⟨e0,m0,w0,a_0,le0,sv0,lay0,cr0,rep0,ok0⟩:=zAn H enc W true _ _ _ hf0 _ _ (Lay.nil W);obtain⟨e1,m1,w1,a_1,le1,sv1,lay1,cr1,rep1,ok1⟩:=zAp H enc W true _ _ _ hf1 e0 m0 lay0;obtain⟨e2,m2,w2,a_2,le2,sv2,lay2,cr2,rep2,ok2⟩:=op3 H enc W true _ _ _ hf2 e1 m1 lay1;obtain⟨c0_2,c0_3,rfl,g0_2,g0_3⟩:=rep0
  obtain⟨cs0,hv0,cl0⟩:∃cs,v0=.agg cs/\v0.cells.toList=cs.toList:=by
    have hl:=cr0.length
    cases v0 with
    | agg cs=>exact⟨cs,rfl,rfl⟩
    | _=>exact absurd hl (by simp[Value.cells])
  subst hv0;obtain⟨c1_0,c1_1,rfl,g1_0,g1_1⟩:=rep1
  obtain⟨cs1,hv1,cl1⟩:∃cs,v1=.agg cs/\v1.cells.toList=cs.toList:=by
    have hl:=cr1.length
    cases v1 with
    | agg cs=>exact⟨cs,rfl,rfl⟩
    | _=>exact absurd hl (by simp[Value.cells])
  subst hv1;have rep2:w2=[.int .i64 a_2]:=rep2;subst rep2 hv2
  have ha2:n2=a_2:=by
    cases cr2 with
    | cons h _=>have h:Value.int .i64 n2=.int .i64 a_2:=h; cases h; rfl
  subst ha2;have hargs:zeq (VR e2) [.agg 4 [.int .i64 a_0.Last,.int .i64 a_0.Owners,c0_2,c0_3],.agg 2 [c1_0,c1_1],.c (.int .i64 n2)] [.agg cs0,.agg cs1,.int .i64 n2]:=.cons ⟨cs0,rfl,(cr0.mono fun _ _=>CR.mono (le1.trans le2)),rfl⟩ (.cons ⟨cs1,rfl,(cr1.mono fun _ _=>CR.mono le2),rfl⟩ (.cons rfl .nil));refine(callsIn_wide.1 (zrU fits htab (zwx (b:=a_0) (t:=a_1) (day:=n2) lay2.pre ((g0_2.subv sv1).subv sv2) ((g0_3.subv sv1).subv sv2) (g1_0.subv sv2) (g1_1.subv sv2) (zz4 ok0 ok1 ok2) (Q:=fun v _=>v=.c (.bool true)) fun _ _=>rfl) lay2.hr (args':=#[.agg cs0,.agg cs1,.int .i64 n2]) hargs 0)).mono fun en W' hp=>?_;obtain⟨v,v',e',m',rfl,hst,hvr,rfl⟩:=hp;have hv':v'=.bool true:=hvr;subst hv';have hbelow:=lay2.below hst
  refine⟨_,rfl,[d0,d1,d2],[],p0++p1++p2,[],p0++(p1++p2),[],by simpa using hW',trodAll_mk1 (shut_bool Tryz.underlying4 _),
    trodAll_mk3 (Below.trod zAq (by kernel_rfl) (of_decide_eq_true (by kernel_rfl)) h0 hbelow fun x hx=>hlt x (by simp[hx])) (Below.trod zAq (by kernel_rfl) (of_decide_eq_true (by kernel_rfl)) h1 hbelow fun x hx=>hlt x (by simp[hx])) (Below.trod zAq (by kernel_rfl) (of_decide_eq_true (by kernel_rfl)) h2 hbelow fun x hx=>hlt x (by simp[hx])),rfl,lay2.kept hst _,fun hc=>by cases hc⟩
theorem ParcelPlays_holds:Rows.ParcelPlaysSaid:=
 OpenClaim.holds_of_wide 3 Tryz.f3 rfl rfl rfl rfl rfl rfl rfl ⟨rfl,rfl,rfl,rfl,rfl⟩ rfl rfl rfl rfl rfl (by kernel_rfl) Tryz.func3 (by kernel_rfl)
  (of_decide_eq_true (by kernel_rfl)) (by unfold Func.isWrapper; first | (rw[if_pos (by decide +kernel)]; kernel_rfl) | (rw[if_neg (by decide +kernel)]; exact⟨rfl,rfl⟩))
  (fun os started H enc _=>zAs os started H enc)
end Go.Proofs.YtlkgdadfbfafcaaGreat

