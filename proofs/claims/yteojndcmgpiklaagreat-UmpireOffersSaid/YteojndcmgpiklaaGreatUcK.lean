/- UmpireOffers, for all that it can be called with, returns true. Condition: none. -/
import Derived.Test.YteojndcmgpiklaaGreatUcJ
import GoSem.Step
import GoSem.ClaimKeys
import Derived.DeepKeys2
import Derived.RangeFuncLeaves
import Derived.OrdersIn
import Derived.Laws.World
import Derived.Laws.Sem
import Derived.RangeFuncRecord
import Derived.Laws.CopyRow
import Derived.Laws.Append
import Derived.Laws.Rows
import Derived.Laws.Slices
import Derived.Laws.Entries
import Derived.ChangeKeysEq
import Derived.IntWalk
import Derived.DeepKeys
import Derived.DeepKeys3
import Derived.Laws.StructEq
import Derived.MapKept
import Derived.Laws.AppendOwn
import Derived.ChangeArms
import Derived.ChangeOld
import Derived.Carry
import Derived.ChangeShapes
import Derived.KernelRfl
import Derived.ProofKit
import Derived.Test.YteojndcmgpiklaaGreatRows

namespace Go.Proofs.YteojndcmgpiklaaGreat
open _root_.Go.Proofs.Tryz
open Go.ChangeShapes Go.WideShapes Go.ChangeAt Go.RowKit Go.Abs
set_option maxRecDepth 100000
theorem op3:Opens prog 3 Int (fitsP .i64):=opens_int (by kernel_rfl)
theorem op4:Opens prog 4 Bool (fun _=>True):=opens_bool (by kernel_rfl)
theorem op29:Opens prog 29 (List Int) (fun l=>l.length≤maxLen∧∀a0∈l,fitsP .i64 a0):=opens_slice (by kernel_rfl) (by kernel_rfl) op3
theorem op140:Opens prog 140 (List (List Int)) (fun l=>l.length≤maxLen∧∀a0∈l,a0.length≤maxLen∧∀a1∈a0,fitsP .i64 a1):=opens_slice (by kernel_rfl) (by kernel_rfl) op29
theorem op78:Opens prog 78 (List (List (List Int))) (fun l=>l.length≤maxLen∧∀a0∈l,a0.length≤maxLen∧∀a1∈a0,a1.length≤maxLen∧∀a2∈a1,fitsP .i64 a2):=opens_slice (by kernel_rfl) (by kernel_rfl) op140
theorem op151:Opens prog 151 Tf ok_Tf:=opens_struct (fs:=[(3,0),(4,1),(3,2),(29,3),(29,4),(78,5)]) (by kernel_rfl) (by kernel_rfl) (opensFs_cons (α:=Int) (ok:=fitsP .i64) (k:=1) op3 (by kernel_rfl) rfl (opensFs_cons (α:=Bool) (ok:=(fun _=>True)) (k:=1) op4 (by kernel_rfl) rfl (opensFs_cons (α:=Int) (ok:=fitsP .i64) (k:=1) op3 (by kernel_rfl) rfl (opensFs_cons (α:=List Int) (ok:=(fun l=>l.length≤maxLen∧∀a0∈l,fitsP .i64 a0)) (k:=1) op29 (by kernel_rfl) rfl (opensFs_cons (α:=List Int) (ok:=(fun l=>l.length≤maxLen∧∀a0∈l,fitsP .i64 a0)) (k:=1) op29 (by kernel_rfl) rfl (opensFs_cons (α:=List (List (List Int))) (ok:=(fun l=>l.length≤maxLen∧∀a0∈l,a0.length≤maxLen∧∀a1∈a0,a1.length≤maxLen∧∀a2∈a1,fitsP .i64 a2)) (k:=1) op78 (by kernel_rfl) rfl opensFs_nil)))))) (by kernel_rfl) fun m vs h=>by
 obtain⟨a0,c0,r0,m0,h0,p0,k0,s0,⟨a1,c1,r1,m1,h1,p1,k1,s1,⟨a2,c2,r2,m2,h2,p2,k2,s2,⟨a3,c3,r3,m3,h3,p3,k3,s3,⟨a4,c4,r4,m4,h4,p4,k4,s4,⟨a5,c5,r5,m5,h5,p5,k5,s5,rfl⟩⟩⟩⟩⟩⟩:=h;have p0:c0=[.int .i64 a0]:=p0; subst p0;have p1:c1=[.bool a1]:=p1; subst p1;have p2:c2=[.int .i64 a2]:=p2; subst p2;obtain⟨d3,rfl,p3⟩:=p3;obtain⟨d4,rfl,p4⟩:=p4;obtain⟨d5,rfl,p5⟩:=p5;subst h5 h4 h3 h2 h1 h0;exact⟨⟨a0,a1,a2,a3,a4,a5⟩,⟨_,_,_,rfl,p3,p4,p5⟩,⟨k0,k1,k2,k3,k4,k5⟩⟩
theorem op22:Opens prog 22 (List Tf) (fun l=>l.length≤maxLen∧∀a0∈l,ok_Tf a0):=opens_slice (by kernel_rfl) (by kernel_rfl) op151
theorem op58:Opens prog 58 Rg ok_Rg:=opens_struct (fs:=[(3,0),(3,1)]) (by kernel_rfl) (by kernel_rfl) (opensFs_cons (α:=Int) (ok:=fitsP .i64) (k:=1) op3 (by kernel_rfl) rfl (opensFs_cons (α:=Int) (ok:=fitsP .i64) (k:=1) op3 (by kernel_rfl) rfl opensFs_nil)) (by kernel_rfl) fun m vs h=>by
 obtain⟨a0,c0,r0,m0,h0,p0,k0,s0,⟨a1,c1,r1,m1,h1,p1,k1,s1,rfl⟩⟩:=h;have p0:c0=[.int .i64 a0]:=p0; subst p0;have p1:c1=[.int .i64 a1]:=p1; subst p1;subst h1 h0;exact⟨⟨a0,a1⟩,rfl,⟨k0,k1⟩⟩
theorem op60:Opens prog 60 Fld ok_Fld:=opens_struct (fs:=[(3,0),(3,1),(3,2),(58,3),(58,5),(58,7)]) (by kernel_rfl) (by kernel_rfl) (opensFs_cons (α:=Int) (ok:=fitsP .i64) (k:=1) op3 (by kernel_rfl) rfl (opensFs_cons (α:=Int) (ok:=fitsP .i64) (k:=1) op3 (by kernel_rfl) rfl (opensFs_cons (α:=Int) (ok:=fitsP .i64) (k:=1) op3 (by kernel_rfl) rfl (opensFs_cons (α:=Rg) (ok:=ok_Rg) (k:=2) op58 (by kernel_rfl) rfl (opensFs_cons (α:=Rg) (ok:=ok_Rg) (k:=2) op58 (by kernel_rfl) rfl (opensFs_cons (α:=Rg) (ok:=ok_Rg) (k:=2) op58 (by kernel_rfl) rfl opensFs_nil)))))) (by kernel_rfl) fun m vs h=>by
 obtain⟨a0,c0,r0,m0,h0,p0,k0,s0,⟨a1,c1,r1,m1,h1,p1,k1,s1,⟨a2,c2,r2,m2,h2,p2,k2,s2,⟨a3,c3,r3,m3,h3,p3,k3,s3,⟨a4,c4,r4,m4,h4,p4,k4,s4,⟨a5,c5,r5,m5,h5,p5,k5,s5,rfl⟩⟩⟩⟩⟩⟩:=h;have p0:c0=[.int .i64 a0]:=p0; subst p0;have p1:c1=[.int .i64 a1]:=p1; subst p1;have p2:c2=[.int .i64 a2]:=p2; subst p2;have p3:c3=[.int .i64 a3.Lo,.int .i64 a3.Hi]:=p3; subst p3;have p4:c4=[.int .i64 a4.Lo,.int .i64 a4.Hi]:=p4; subst p4;have p5:c5=[.int .i64 a5.Lo,.int .i64 a5.Hi]:=p5; subst p5;subst h5 h4 h3 h2 h1 h0;exact⟨⟨a0,a1,a2,a3,a4,a5⟩,rfl,⟨k0,k1,k2,k3,k4,k5⟩⟩
theorem op23:Opens prog 23 (List Fld) (fun l=>l.length≤maxLen∧∀a0∈l,ok_Fld a0):=opens_slice (by kernel_rfl) (by kernel_rfl) op60
theorem op25:Opens prog 25 Cse ok_Cse:=opens_struct (fs:=[(22,0),(3,1),(3,2),(23,3)]) (by kernel_rfl) (by kernel_rfl) (opensFs_cons (α:=List Tf) (ok:=(fun l=>l.length≤maxLen∧∀a0∈l,ok_Tf a0)) (k:=1) op22 (by kernel_rfl) rfl (opensFs_cons (α:=Int) (ok:=fitsP .i64) (k:=1) op3 (by kernel_rfl) rfl (opensFs_cons (α:=Int) (ok:=fitsP .i64) (k:=1) op3 (by kernel_rfl) rfl (opensFs_cons (α:=List Fld) (ok:=(fun l=>l.length≤maxLen∧∀a0∈l,ok_Fld a0)) (k:=1) op23 (by kernel_rfl) rfl opensFs_nil)))) (by kernel_rfl) fun m vs h=>by
 obtain⟨a0,c0,r0,m0,h0,p0,k0,s0,⟨a1,c1,r1,m1,h1,p1,k1,s1,⟨a2,c2,r2,m2,h2,p2,k2,s2,⟨a3,c3,r3,m3,h3,p3,k3,s3,rfl⟩⟩⟩⟩:=h;obtain⟨d0,rfl,p0⟩:=p0;have p1:c1=[.int .i64 a1]:=p1; subst p1;have p2:c2=[.int .i64 a2]:=p2; subst p2;obtain⟨d3,rfl,p3⟩:=p3;subst h3 h2 h1 h0;exact⟨⟨a0,a1,a2,a3⟩,⟨_,_,rfl,p0,p3⟩,⟨k0,k1,k2,k3⟩⟩
theorem laid:laidOutB prog=true:=by kernel_rfl
theorem ownNone:ownKnob prog.godebug=none:=by kernel_rfl
theorem UmpireOffers_lifted(os:Os)(started:os.Started)(H:Type)(enc:TypeId × Value→H) :
    ReturnsInHanded {} Tryz.checked os 15 .any (Rows.umpireOffersSpec.pre6 enc Tryz.prog Tryz.f15 Rows.umpireOffersRow.domain false) (Rows.umpireOffersSpec.post enc Tryz.prog Tryz.f15 false true false false):=by
  refine returnsInHanded_of_change (C:=Tryz.checked) ownNone started (by kernel_rfl) Tryz.func15
    (ChangeSpec.witness6 (enc:=enc) (C:=Tryz.checked) false ⟨#[],#[.agg #[.slice none 0 0,.int .i64 0,.int .i64 0,.slice none 0 0],.int .u16 0],[]⟩ 8 (by kernel_rfl) (by kernel_rfl) (by kernel_rfl) (by kernel_rfl)) ?_
  intro W base args ds gs before hval0 hW hcnd _;have hval:∀(j:Nat) t v,Tryz.f15.params[j]? = some t→args[j]? = some v→Value.okWide Tryz.prog W .any base t v:=hval0;have hW':=hW;obtain⟨p,q,hA0,hV,rfl,hfz,hnd⟩:=hW;have hA:DataW.TrodAll enc Tryz.prog W 0 (fun _=>true) true Tryz.f15.params.toList args.toList ds p:=hA0;rw[Tryz.params15] at hA hval;obtain⟨v0,v1,d0,d1,p0,p1,rfl,rfl,rfl,h0,h1⟩:=trodAll_two hA;obtain⟨rfl,rfl⟩:=trodVars_none hV;obtain⟨n1,hv1⟩:=okWide_int Tryz.underlying104 (hval 1 104 v1 rfl rfl)
  have hlt:∀x∈p0++p1,x.block < W.heap.size:=fun x hx=>by simpa using hW'.lt x (by simpa using hx)
  obtain⟨fu0,hf0⟩:=id h0;obtain⟨fu1,hf1⟩:=id h1
  clear hA0 hval0
  obtain⟨e0,m0,w0,a_0,le0,sv0,lay0,cr0,rep0,ok0⟩:=op25 H enc W true _ _ _ hf0 _ _ (Lay.nil W);obtain⟨i1,hc1,_,hw1⟩:=DataW.trod_int Tryz.underlying104 hf1;obtain⟨c0_0,c0_3,rfl,g0_0,g0_3⟩:=rep0
  obtain⟨cs0,hv0,cl0⟩:∃cs,v0=.agg cs∧v0.cells.toList=cs.toList:=by
    have hl:=cr0.length
    cases v0 with
    | agg cs=>exact⟨cs,rfl,rfl⟩
    | _=>exact absurd hl (by simp[Value.cells])
  subst hv0;subst hv1
  have hi1:i1=n1:=by
    have h:[Value.int .u16 n1]=[.int .u16 i1]:=hc1
    cases h; rfl
  subst hi1;have hargs:All2 (VR e0) [.agg 4 [c0_0,.int .i64 a_0.Day,.int .i64 a_0.Fee,c0_3],.c (.int .u16 i1)] [.agg cs0,.int .u16 i1]:=.cons ⟨cs0,rfl,cr0,rfl⟩ (.cons rfl .nil);refine(callsIn_wide.1 (call_of fits htab (s_UmpireOffers (c:=a_0) (more:=i1) lay0.pre g0_0 g0_3 (m_UmpireOffers ok0 (wf_fits hw1)) (Q:=fun v _=>v=.c (.bool true)) fun _ _=>rfl) lay0.hr (args':=#[.agg cs0,.int .u16 i1]) hargs 0)).mono fun en W' hp=>?_;obtain⟨v,v',e',m',rfl,hst,hvr,rfl⟩:=hp;have hv':v'=.bool true:=hvr;subst hv';have hbelow:=lay0.below hst
  refine⟨_,rfl,[d0,d1],[],p0++p1,[],p0++p1,[],by simpa using hW',trodAll_mk1 (shut_bool Tryz.underlying4 _),
    trodAll_mk2 (Below.trod laid (by kernel_rfl) (of_decide_eq_true (by kernel_rfl)) h0 hbelow fun x hx=>hlt x (by simp[hx])) (Below.trod laid (by kernel_rfl) (of_decide_eq_true (by kernel_rfl)) h1 hbelow fun x hx=>hlt x (by simp[hx])),rfl,lay0.kept hst _,fun hc=>by cases hc⟩
theorem UmpireOffers_holds:Rows.UmpireOffersSaid:=
 OpenClaim.holds_of_wide 15 Tryz.f15 rfl rfl rfl rfl rfl rfl rfl ⟨rfl,rfl,rfl,rfl,rfl⟩ rfl rfl rfl rfl rfl (by kernel_rfl) Tryz.func15 (by kernel_rfl)
  (of_decide_eq_true (by kernel_rfl)) (by unfold Func.isWrapper; first | (rw[if_pos (by decide +kernel)]; kernel_rfl) | (rw[if_neg (by decide +kernel)]; exact⟨rfl,rfl⟩))
  (fun os started H enc _=>UmpireOffers_lifted os started H enc)
end Go.Proofs.YteojndcmgpiklaaGreat

