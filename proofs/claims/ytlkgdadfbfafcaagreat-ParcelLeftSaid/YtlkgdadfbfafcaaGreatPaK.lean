/- ParcelLeft, for all that it can be called with, returns true. Condition: none. -/
import Derived.Test.YtlkgdadfbfafcaaGreatPaJ
import GoSem.Step
import GoSem.ClaimKeys
import Derived.DeepKeys2
import Derived.RangeFuncLeaves
import Derived.OrdersIn
import Derived.Laws.World
import Derived.Laws.Sem
import Derived.RangeFuncRecord
import Derived.Laws.CopyRow
import Derived.Laws.Append
import Derived.Laws.Rows
import Derived.Laws.Slices
import Derived.Laws.Entries
import Derived.ChangeKeysEq
import Derived.IntWalk
import Derived.DeepKeys
import Derived.DeepKeys3
import Derived.Laws.StructEq
import Derived.MapKept
import Derived.Laws.AppendOwn
import Derived.ChangeArms
import Derived.ChangeOld
import Derived.Carry
import Derived.ChangeShapes
import Derived.KernelRfl
import Derived.ProofKit
import Derived.Test.YtlkgdadfbfafcaaGreatRows

namespace Go.Proofs.YtlkgdadfbfafcaaGreat
open _root_.Go.Proofs.Tryz
open Go.ChangeShapes Go.WideShapes Go.ChangeAt Go.RowKit Go.Abs
set_option maxRecDepth 100000
theorem op3:zsS prog 3 Int (znq .i64):=zsT (by kernel_rfl)
theorem zBY:zsS prog 75 Rg zs2:=zs0 (fs:=[(3,0),(3,1)]) (by kernel_rfl) (by kernel_rfl) (zsZ (α:=Int) (ok:=znq .i64) (k:=1) op3 (by kernel_rfl) rfl (zsZ (α:=Int) (ok:=znq .i64) (k:=1) op3 (by kernel_rfl) rfl zsY)) (by kernel_rfl) fun m vs h=>by
 obtain⟨a0,c0,r0,m0,h0,p0,k0,s0,⟨a1,c1,r1,m1,h1,p1,k1,s1,rfl⟩⟩:=h;have p0:c0=[.int .i64 a0]:=p0; subst p0;have p1:c1=[.int .i64 a1]:=p1; subst p1;subst h1 h0;exact⟨⟨a0,a1⟩,rfl,⟨k0,k1⟩⟩
theorem zBZ:zsS prog 95 Pc zs4:=zs0 (fs:=[(3,0),(3,1),(75,2)]) (by kernel_rfl) (by kernel_rfl) (zsZ (α:=Int) (ok:=znq .i64) (k:=1) op3 (by kernel_rfl) rfl (zsZ (α:=Int) (ok:=znq .i64) (k:=1) op3 (by kernel_rfl) rfl (zsZ (α:=Rg) (ok:=zs2) (k:=2) zBY (by kernel_rfl) rfl zsY))) (by kernel_rfl) fun m vs h=>by
 obtain⟨a0,c0,r0,m0,h0,p0,k0,s0,⟨a1,c1,r1,m1,h1,p1,k1,s1,⟨a2,c2,r2,m2,h2,p2,k2,s2,rfl⟩⟩⟩:=h;have p0:c0=[.int .i64 a0]:=p0; subst p0;have p1:c1=[.int .i64 a1]:=p1; subst p1;have p2:c2=[.int .i64 a2.Lo,.int .i64 a2.Hi]:=p2; subst p2;subst h2 h1 h0;exact⟨⟨a0,a1,a2⟩,rfl,⟨k0,k1,k2⟩⟩
theorem zB0:zsS prog 22 (List Pc) (fun l=>l.length<=maxLen/\∀a0∈l,zs4 a0):=zsV (by kernel_rfl) (by kernel_rfl) zBZ
theorem zB1:zsS prog 103 En zs6:=zs0 (fs:=[(3,0),(3,1),(3,2),(3,3),(3,4),(3,5),(75,6)]) (by kernel_rfl) (by kernel_rfl) (zsZ (α:=Int) (ok:=znq .i64) (k:=1) op3 (by kernel_rfl) rfl (zsZ (α:=Int) (ok:=znq .i64) (k:=1) op3 (by kernel_rfl) rfl (zsZ (α:=Int) (ok:=znq .i64) (k:=1) op3 (by kernel_rfl) rfl (zsZ (α:=Int) (ok:=znq .i64) (k:=1) op3 (by kernel_rfl) rfl (zsZ (α:=Int) (ok:=znq .i64) (k:=1) op3 (by kernel_rfl) rfl (zsZ (α:=Int) (ok:=znq .i64) (k:=1) op3 (by kernel_rfl) rfl (zsZ (α:=Rg) (ok:=zs2) (k:=2) zBY (by kernel_rfl) rfl zsY))))))) (by kernel_rfl) fun m vs h=>by
 obtain⟨a0,c0,r0,m0,h0,p0,k0,s0,⟨a1,c1,r1,m1,h1,p1,k1,s1,⟨a2,c2,r2,m2,h2,p2,k2,s2,⟨a3,c3,r3,m3,h3,p3,k3,s3,⟨a4,c4,r4,m4,h4,p4,k4,s4,⟨a5,c5,r5,m5,h5,p5,k5,s5,⟨a6,c6,r6,m6,h6,p6,k6,s6,rfl⟩⟩⟩⟩⟩⟩⟩:=h;have p0:c0=[.int .i64 a0]:=p0; subst p0;have p1:c1=[.int .i64 a1]:=p1; subst p1;have p2:c2=[.int .i64 a2]:=p2; subst p2;have p3:c3=[.int .i64 a3]:=p3; subst p3;have p4:c4=[.int .i64 a4]:=p4; subst p4;have p5:c5=[.int .i64 a5]:=p5; subst p5;have p6:c6=[.int .i64 a6.Lo,.int .i64 a6.Hi]:=p6; subst p6;subst h6 h5 h4 h3 h2 h1 h0;exact⟨⟨a0,a1,a2,a3,a4,a5,a6⟩,rfl,⟨k0,k1,k2,k3,k4,k5,k6⟩⟩
theorem zB2:zsS prog 23 (List En) (fun l=>l.length<=maxLen/\∀a0∈l,zs6 a0):=zsV (by kernel_rfl) (by kernel_rfl) zB1
theorem zB3:zsS prog 25 Boo zs8:=zs0 (fs:=[(3,0),(3,1),(22,2),(23,3)]) (by kernel_rfl) (by kernel_rfl) (zsZ (α:=Int) (ok:=znq .i64) (k:=1) op3 (by kernel_rfl) rfl (zsZ (α:=Int) (ok:=znq .i64) (k:=1) op3 (by kernel_rfl) rfl (zsZ (α:=List Pc) (ok:=(fun l=>l.length<=maxLen/\∀a0∈l,zs4 a0)) (k:=1) zB0 (by kernel_rfl) rfl (zsZ (α:=List En) (ok:=(fun l=>l.length<=maxLen/\∀a0∈l,zs6 a0)) (k:=1) zB2 (by kernel_rfl) rfl zsY)))) (by kernel_rfl) fun m vs h=>by
 obtain⟨a0,c0,r0,m0,h0,p0,k0,s0,⟨a1,c1,r1,m1,h1,p1,k1,s1,⟨a2,c2,r2,m2,h2,p2,k2,s2,⟨a3,c3,r3,m3,h3,p3,k3,s3,rfl⟩⟩⟩⟩:=h;have p0:c0=[.int .i64 a0]:=p0; subst p0;have p1:c1=[.int .i64 a1]:=p1; subst p1;obtain⟨d2,rfl,p2⟩:=p2;obtain⟨d3,rfl,p3⟩:=p3;subst h3 h2 h1 h0;exact⟨⟨a0,a1,a2,a3⟩,⟨_,_,rfl,p2,p3⟩,⟨k0,k1,k2,k3⟩⟩
theorem zB4:laidOutB prog=true:=by kernel_rfl
theorem zB5:ownKnob prog.godebug=none:=by kernel_rfl
theorem zB6(os:Os)(started:os.Started)(H:Type)(enc:TypeId × Value->H) :
    ReturnsInHanded {} Tryz.checked os 14 .any (Rows.parcelLeftSpec.pre6 enc Tryz.prog Tryz.f14 Rows.parcelLeftRow.domain false) (Rows.parcelLeftSpec.post enc Tryz.prog Tryz.f14 false true false false):=by
  refine returnsInHanded_of_change (C:=Tryz.checked) zB5 started (by kernel_rfl) Tryz.func14
    (ChangeSpec.witness6 (enc:=enc) (C:=Tryz.checked) false ⟨#[],#[.agg #[.int .i64 0,.int .i64 0,.slice none 0 0,.slice none 0 0],.int .u8 0],[]⟩ 8 (by kernel_rfl) (by kernel_rfl) (by kernel_rfl) (by kernel_rfl)) ?_
  intro W base args ds gs before hval0 hW hcnd _;have hval:∀(j:Nat) t v,Tryz.f14.params[j]? = some t->args[j]? = some v->Value.okWide Tryz.prog W .any base t v:=hval0;have hW':=hW;obtain⟨p,q,hA0,hV,rfl,hfz,hnd⟩:=hW;have hA:DataW.TrodAll enc Tryz.prog W 0 (fun _=>true) true Tryz.f14.params.toList args.toList ds p:=hA0;rw[Tryz.params14] at hA hval;obtain⟨v0,v1,d0,d1,p0,p1,rfl,rfl,rfl,h0,h1⟩:=trodAll_two hA;obtain⟨rfl,rfl⟩:=trodVars_none hV;obtain⟨n1,hv1⟩:=okWide_int Tryz.underlying5 (hval 1 5 v1 rfl rfl)
  have hlt:∀x∈p0++p1,x.block < W.heap.size:=fun x hx=>by simpa using hW'.lt x (by simpa using hx)
  obtain⟨fu0,hf0⟩:=id h0;obtain⟨fu1,hf1⟩:=id h1
  clear hA0 hval0
  obtain⟨e0,m0,w0,a_0,le0,sv0,lay0,cr0,zwO,ok0⟩:=zB3 H enc W true _ _ _ hf0 _ _ (Lay.nil W);obtain⟨i1,hc1,_,hw1⟩:=DataW.trod_int Tryz.underlying5 hf1;obtain⟨c0_2,c0_3,rfl,g0_2,g0_3⟩:=zwO
  obtain⟨cs0,hv0,cl0⟩:∃cs,v0=.agg cs/\v0.cells.toList=cs.toList:=by
    have hl:=cr0.length
    cases v0 with
    | agg cs=>exact⟨cs,rfl,rfl⟩
    | _=>exact absurd hl (by simp[Value.cells])
  subst hv0;subst hv1
  have hi1:i1=n1:=by
    have h:[Value.int .u8 n1]=[.int .u8 i1]:=hc1
    cases h; rfl
  subst hi1;have hargs:zeq (VR e0) [.agg 4 [.int .i64 a_0.Last,.int .i64 a_0.Owners,c0_2,c0_3],.c (.int .u8 i1)] [.agg cs0,.int .u8 i1]:=.cons ⟨cs0,rfl,cr0,rfl⟩ (.cons rfl .nil);refine(callsIn_wide.1 (zrX fits htab (zxu (b:=a_0) (bits:=i1) lay0.pre g0_2 g0_3 (zBW ok0 (zrV hw1)) (Q:=fun v _=>v=.c (.bool true)) fun _ _=>rfl) lay0.hr (args':=#[.agg cs0,.int .u8 i1]) hargs 0)).mono fun en W' hp=>?_;obtain⟨v,v',e',m',rfl,hst,hvr,rfl⟩:=hp;have hv':v'=.bool true:=hvr;subst hv';have hbelow:=lay0.below hst
  refine⟨_,rfl,[d0,d1],[],p0++p1,[],p0++p1,[],by simpa using hW',trodAll_mk1 (shut_bool Tryz.underlying4 _),
    trodAll_mk2 (Below.trod zB4 (by kernel_rfl) (of_decide_eq_true (by kernel_rfl)) h0 hbelow fun x hx=>hlt x (by simp[hx])) (Below.trod zB4 (by kernel_rfl) (of_decide_eq_true (by kernel_rfl)) h1 hbelow fun x hx=>hlt x (by simp[hx])),rfl,lay0.kept hst _,fun hc=>by cases hc⟩
theorem ParcelLeft_holds:Rows.ParcelLeftSaid:=
 OpenClaim.holds_of_wide 14 Tryz.f14 rfl rfl rfl rfl rfl rfl rfl ⟨rfl,rfl,rfl,rfl,rfl⟩ rfl rfl rfl rfl rfl (by kernel_rfl) Tryz.func14 (by kernel_rfl)
  (of_decide_eq_true (by kernel_rfl)) (by unfold Func.isWrapper; first | (rw[if_pos (by decide +kernel)]; kernel_rfl) | (rw[if_neg (by decide +kernel)]; exact⟨rfl,rfl⟩))
  (fun os started H enc _=>zB6 os started H enc)
end Go.Proofs.YtlkgdadfbfafcaaGreat

