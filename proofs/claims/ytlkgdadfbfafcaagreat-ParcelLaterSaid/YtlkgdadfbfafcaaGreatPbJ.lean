/- ParcelLater, for all that it can be called with, returns true. Condition: none. -/
import Derived.Test.YtlkgdadfbfafcaaGreatPbI
import GoSem.Step
import GoSem.ClaimKeys
import Derived.DeepKeys2
import Derived.RangeFuncLeaves
import Derived.OrdersIn
import Derived.Laws.World
import Derived.Laws.Sem
import Derived.RangeFuncRecord
import Derived.Laws.CopyRow
import Derived.Laws.Append
import Derived.Laws.Rows
import Derived.Laws.Slices
import Derived.Laws.Entries
import Derived.ChangeKeysEq
import Derived.IntWalk
import Derived.DeepKeys
import Derived.DeepKeys3
import Derived.Laws.StructEq
import Derived.MapKept
import Derived.Laws.AppendOwn
import Derived.ChangeArms
import Derived.ChangeOld
import Derived.Carry
import Derived.ChangeShapes
import Derived.KernelRfl
import Derived.ProofKit
import Derived.Test.YtlkgdadfbfafcaaGreatRows

namespace Go.Proofs.YtlkgdadfbfafcaaGreat
open _root_.Go.Proofs.Tryz
open Go.ChangeShapes Go.WideShapes Go.ChangeAt Go.RowKit Go.Abs
set_option maxRecDepth 100000
theorem op3:zsI prog 3 Int (znq .i64):=zsJ (by kernel_rfl)
theorem zAi:zsI prog 75 Rg zsS:=zsQ (fs:=[(3,0),(3,1)]) (by kernel_rfl) (by kernel_rfl) (zsP (α:=Int) (ok:=znq .i64) (k:=1) op3 (by kernel_rfl) rfl (zsP (α:=Int) (ok:=znq .i64) (k:=1) op3 (by kernel_rfl) rfl zsO)) (by kernel_rfl) fun m vs h=>by
 obtain⟨a0,c0,r0,m0,h0,p0,k0,s0,⟨a1,c1,r1,m1,h1,p1,k1,s1,rfl⟩⟩:=h;have p0:c0=[.int .i64 a0]:=p0; subst p0;have p1:c1=[.int .i64 a1]:=p1; subst p1;subst h1 h0;exact⟨⟨a0,a1⟩,rfl,⟨k0,k1⟩⟩
theorem zAj:zsI prog 95 Pc zsU:=zsQ (fs:=[(3,0),(3,1),(75,2)]) (by kernel_rfl) (by kernel_rfl) (zsP (α:=Int) (ok:=znq .i64) (k:=1) op3 (by kernel_rfl) rfl (zsP (α:=Int) (ok:=znq .i64) (k:=1) op3 (by kernel_rfl) rfl (zsP (α:=Rg) (ok:=zsS) (k:=2) zAi (by kernel_rfl) rfl zsO))) (by kernel_rfl) fun m vs h=>by
 obtain⟨a0,c0,r0,m0,h0,p0,k0,s0,⟨a1,c1,r1,m1,h1,p1,k1,s1,⟨a2,c2,r2,m2,h2,p2,k2,s2,rfl⟩⟩⟩:=h;have p0:c0=[.int .i64 a0]:=p0; subst p0;have p1:c1=[.int .i64 a1]:=p1; subst p1;have p2:c2=[.int .i64 a2.Lo,.int .i64 a2.Hi]:=p2; subst p2;subst h2 h1 h0;exact⟨⟨a0,a1,a2⟩,rfl,⟨k0,k1,k2⟩⟩
theorem zAk:zsI prog 22 (List Pc) (fun l=>l.length<=maxLen/\∀a0∈l,zsU a0):=zsL (by kernel_rfl) (by kernel_rfl) zAj
theorem zAl:zsI prog 103 En zsW:=zsQ (fs:=[(3,0),(3,1),(3,2),(3,3),(3,4),(3,5),(75,6)]) (by kernel_rfl) (by kernel_rfl) (zsP (α:=Int) (ok:=znq .i64) (k:=1) op3 (by kernel_rfl) rfl (zsP (α:=Int) (ok:=znq .i64) (k:=1) op3 (by kernel_rfl) rfl (zsP (α:=Int) (ok:=znq .i64) (k:=1) op3 (by kernel_rfl) rfl (zsP (α:=Int) (ok:=znq .i64) (k:=1) op3 (by kernel_rfl) rfl (zsP (α:=Int) (ok:=znq .i64) (k:=1) op3 (by kernel_rfl) rfl (zsP (α:=Int) (ok:=znq .i64) (k:=1) op3 (by kernel_rfl) rfl (zsP (α:=Rg) (ok:=zsS) (k:=2) zAi (by kernel_rfl) rfl zsO))))))) (by kernel_rfl) fun m vs h=>by
 obtain⟨a0,c0,r0,m0,h0,p0,k0,s0,⟨a1,c1,r1,m1,h1,p1,k1,s1,⟨a2,c2,r2,m2,h2,p2,k2,s2,⟨a3,c3,r3,m3,h3,p3,k3,s3,⟨a4,c4,r4,m4,h4,p4,k4,s4,⟨a5,c5,r5,m5,h5,p5,k5,s5,⟨a6,c6,r6,m6,h6,p6,k6,s6,rfl⟩⟩⟩⟩⟩⟩⟩:=h;have p0:c0=[.int .i64 a0]:=p0; subst p0;have p1:c1=[.int .i64 a1]:=p1; subst p1;have p2:c2=[.int .i64 a2]:=p2; subst p2;have p3:c3=[.int .i64 a3]:=p3; subst p3;have p4:c4=[.int .i64 a4]:=p4; subst p4;have p5:c5=[.int .i64 a5]:=p5; subst p5;have p6:c6=[.int .i64 a6.Lo,.int .i64 a6.Hi]:=p6; subst p6;subst h6 h5 h4 h3 h2 h1 h0;exact⟨⟨a0,a1,a2,a3,a4,a5,a6⟩,rfl,⟨k0,k1,k2,k3,k4,k5,k6⟩⟩
theorem zAm:zsI prog 23 (List En) (fun l=>l.length<=maxLen/\∀a0∈l,zsW a0):=zsL (by kernel_rfl) (by kernel_rfl) zAl
theorem zAn:zsI prog 25 Boo zsY:=zsQ (fs:=[(3,0),(3,1),(22,2),(23,3)]) (by kernel_rfl) (by kernel_rfl) (zsP (α:=Int) (ok:=znq .i64) (k:=1) op3 (by kernel_rfl) rfl (zsP (α:=Int) (ok:=znq .i64) (k:=1) op3 (by kernel_rfl) rfl (zsP (α:=List Pc) (ok:=(fun l=>l.length<=maxLen/\∀a0∈l,zsU a0)) (k:=1) zAk (by kernel_rfl) rfl (zsP (α:=List En) (ok:=(fun l=>l.length<=maxLen/\∀a0∈l,zsW a0)) (k:=1) zAm (by kernel_rfl) rfl zsO)))) (by kernel_rfl) fun m vs h=>by
 obtain⟨a0,c0,r0,m0,h0,p0,k0,s0,⟨a1,c1,r1,m1,h1,p1,k1,s1,⟨a2,c2,r2,m2,h2,p2,k2,s2,⟨a3,c3,r3,m3,h3,p3,k3,s3,rfl⟩⟩⟩⟩:=h;have p0:c0=[.int .i64 a0]:=p0; subst p0;have p1:c1=[.int .i64 a1]:=p1; subst p1;obtain⟨d2,rfl,p2⟩:=p2;obtain⟨d3,rfl,p3⟩:=p3;subst h3 h2 h1 h0;exact⟨⟨a0,a1,a2,a3⟩,⟨_,_,rfl,p2,p3⟩,⟨k0,k1,k2,k3⟩⟩
theorem zAo:laidOutB prog=true:=by kernel_rfl
theorem zAp:ownKnob prog.godebug=none:=by kernel_rfl
theorem zAq(os:Os)(started:os.Started)(H:Type)(enc:TypeId × Value->H) :
    ReturnsInHanded {} Tryz.checked os 10 .any (Rows.parcelLaterSpec.pre6 enc Tryz.prog Tryz.f10 Rows.parcelLaterRow.domain false) (Rows.parcelLaterSpec.post enc Tryz.prog Tryz.f10 false true false false):=by
  refine returnsInHanded_of_change (C:=Tryz.checked) zAp started (by kernel_rfl) Tryz.func10
    (ChangeSpec.witness6 (enc:=enc) (C:=Tryz.checked) false ⟨#[],#[.agg #[.int .i64 0,.int .i64 0,.slice none 0 0,.slice none 0 0],.int .u16 0,.int .u16 0,.int .u8 0],[]⟩ 8 (by kernel_rfl) (by kernel_rfl) (by kernel_rfl) (by kernel_rfl)) ?_
  intro W base args ds gs before hval0 hW hcnd _;have hval:∀(j:Nat) t v,Tryz.f10.params[j]? = some t->args[j]? = some v->Value.okWide Tryz.prog W .any base t v:=hval0;have hW':=hW;obtain⟨p,q,hA0,hV,rfl,hfz,hnd⟩:=hW;have hA:DataW.TrodAll enc Tryz.prog W 0 (fun _=>true) true Tryz.f10.params.toList args.toList ds p:=hA0;rw[Tryz.params10] at hA hval;obtain⟨v0,v1,v2,v3,d0,d1,d2,d3,p0,p1,p2,p3,rfl,rfl,rfl,h0,h1,h2,h3⟩:=trodAll_four hA;obtain⟨rfl,rfl⟩:=trodVars_none hV;obtain⟨n1,hv1⟩:=okWide_int Tryz.underlying89 (hval 1 89 v1 rfl rfl);obtain⟨n2,hv2⟩:=okWide_int Tryz.underlying89 (hval 2 89 v2 rfl rfl);obtain⟨n3,hv3⟩:=okWide_int Tryz.underlying5 (hval 3 5 v3 rfl rfl)
  have hlt:∀x∈p0++p1++p2++p3,x.block < W.heap.size:=fun x hx=>by simpa using hW'.lt x (by simpa using hx)
  obtain⟨fu0,hf0⟩:=id h0;obtain⟨fu1,hf1⟩:=id h1;obtain⟨fu2,hf2⟩:=id h2;obtain⟨fu3,hf3⟩:=id h3
  clear hA0 hval0
  obtain⟨e0,m0,w0,a_0,le0,sv0,lay0,cr0,rep0,ok0⟩:=zAn H enc W true _ _ _ hf0 _ _ (Lay.nil W);obtain⟨i1,hc1,_,hw1⟩:=DataW.trod_int Tryz.underlying89 hf1;obtain⟨i2,hc2,_,hw2⟩:=DataW.trod_int Tryz.underlying89 hf2;obtain⟨i3,hc3,_,hw3⟩:=DataW.trod_int Tryz.underlying5 hf3;obtain⟨c0_2,c0_3,rfl,g0_2,g0_3⟩:=rep0
  obtain⟨cs0,hv0,cl0⟩:∃cs,v0=.agg cs/\v0.cells.toList=cs.toList:=by
    have hl:=cr0.length
    cases v0 with
    | agg cs=>exact⟨cs,rfl,rfl⟩
    | _=>exact absurd hl (by simp[Value.cells])
  subst hv0;subst hv1
  have hi1:i1=n1:=by
    have h:[Value.int .u16 n1]=[.int .u16 i1]:=hc1
    cases h; rfl
  subst hi1;subst hv2
  have hi2:i2=n2:=by
    have h:[Value.int .u16 n2]=[.int .u16 i2]:=hc2
    cases h; rfl
  subst hi2;subst hv3
  have hi3:i3=n3:=by
    have h:[Value.int .u8 n3]=[.int .u8 i3]:=hc3
    cases h; rfl
  subst hi3;have hargs:zeq (VR e0) [.agg 4 [.int .i64 a_0.Last,.int .i64 a_0.Owners,c0_2,c0_3],.c (.int .u16 i1),.c (.int .u16 i2),.c (.int .u8 i3)] [.agg cs0,.int .u16 i1,.int .u16 i2,.int .u8 i3]:=.cons ⟨cs0,rfl,cr0,rfl⟩ (.cons rfl (.cons rfl (.cons rfl .nil)));refine(callsIn_wide.1 (zrU fits htab (zwE (b:=a_0) (which:=i1) (other:=i2) (on:=i3) lay0.pre g0_2 g0_3 (zAh ok0 (zrS hw1) (zrS hw2) (zrS hw3)) (Q:=fun v _=>v=.c (.bool true)) fun _ _=>rfl) lay0.hr (args':=#[.agg cs0,.int .u16 i1,.int .u16 i2,.int .u8 i3]) hargs 0)).mono fun en W' hp=>?_;obtain⟨v,v',e',m',rfl,hst,hvr,rfl⟩:=hp;have hv':v'=.bool true:=hvr;subst hv';have hbelow:=lay0.below hst
  refine⟨_,rfl,[d0,d1,d2,d3],[],p0++p1++p2++p3,[],p0++(p1++(p2++p3)),[],by simpa using hW',trodAll_mk1 (shut_bool Tryz.underlying4 _),
    trodAll_mk4 (Below.trod zAo (by kernel_rfl) (of_decide_eq_true (by kernel_rfl)) h0 hbelow fun x hx=>hlt x (by simp[hx])) (Below.trod zAo (by kernel_rfl) (of_decide_eq_true (by kernel_rfl)) h1 hbelow fun x hx=>hlt x (by simp[hx])) (Below.trod zAo (by kernel_rfl) (of_decide_eq_true (by kernel_rfl)) h2 hbelow fun x hx=>hlt x (by simp[hx])) (Below.trod zAo (by kernel_rfl) (of_decide_eq_true (by kernel_rfl)) h3 hbelow fun x hx=>hlt x (by simp[hx])),rfl,lay0.kept hst _,fun hc=>by cases hc⟩
theorem ParcelLater_holds:Rows.ParcelLaterSaid:=
 OpenClaim.holds_of_wide 10 Tryz.f10 rfl rfl rfl rfl rfl rfl rfl ⟨rfl,rfl,rfl,rfl,rfl⟩ rfl rfl rfl rfl rfl (by kernel_rfl) Tryz.func10 (by kernel_rfl)
  (of_decide_eq_true (by kernel_rfl)) (by unfold Func.isWrapper; first | (rw[if_pos (by decide +kernel)]; kernel_rfl) | (rw[if_neg (by decide +kernel)]; exact⟨rfl,rfl⟩))
  (fun os started H enc _=>zAq os started H enc)
end Go.Proofs.YtlkgdadfbfafcaaGreat

