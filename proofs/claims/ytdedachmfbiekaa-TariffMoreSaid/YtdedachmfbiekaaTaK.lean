/- TariffMore, for all that it can be called with, returns true. Condition: none. -/
import Derived.Test.YtdedachmfbiekaaTaJ
import GoSem.Step
import GoSem.ClaimKeys
import Derived.DeepKeys2
import Derived.RangeFuncLeaves
import Derived.OrdersIn
import Derived.Laws.World
import Derived.Laws.Sem
import Derived.RangeFuncRecord
import Derived.Laws.CopyRow
import Derived.Laws.Append
import Derived.Laws.Rows
import Derived.Laws.Slices
import Derived.Laws.Entries
import Derived.ChangeKeysEq
import Derived.IntWalk
import Derived.DeepKeys
import Derived.DeepKeys3
import Derived.Laws.StructEq
import Derived.MapKept
import Derived.Laws.AppendOwn
import Derived.ChangeArms
import Derived.ChangeOld
import Derived.Carry
import Derived.ChangeShapes
import Derived.KernelRfl
import Derived.ProofKit
import Derived.Test.YtdedachmfbiekaaRows

namespace Go.Proofs.Ytdedachmfbiekaa
open _root_.Go.Proofs.Try
open Go.ChangeShapes Go.WideShapes Go.ChangeAt Go.RowKit Go.Abs
set_option maxRecDepth 100000
theorem op3:zsC prog 3 Int (znj .i64):=zsD (by kernel_rfl)
theorem op4:zsC prog 4 Bool (fun _=>True):=zsE (by kernel_rfl)
theorem zBY:zsC prog 73 (List Int) (fun l=>l.length<=maxLen/\∀a0∈l,znj .i64 a0):=zsG (by kernel_rfl) (by kernel_rfl) op3
theorem zBZ:zsC prog 77 (List (List Int)) (fun l=>l.length<=maxLen/\∀a0∈l,a0.length<=maxLen/\∀a1∈a0,znj .i64 a1):=zsG (by kernel_rfl) (by kernel_rfl) zBY
theorem zB0:zsC prog 74 (List (List (List Int))) (fun l=>l.length<=maxLen/\∀a0∈l,a0.length<=maxLen/\∀a1∈a0,a1.length<=maxLen/\∀a2∈a1,znj .i64 a2):=zsG (by kernel_rfl) (by kernel_rfl) zBZ
theorem zB1:zsC prog 84 Tf zsQ:=zsL (fs:=[(3,0),(4,1),(3,2),(73,3),(73,4),(74,5)]) (by kernel_rfl) (by kernel_rfl) (zsK (α:=Int) (ok:=znj .i64) (k:=1) op3 (by kernel_rfl) rfl (zsK (α:=Bool) (ok:=(fun _=>True)) (k:=1) op4 (by kernel_rfl) rfl (zsK (α:=Int) (ok:=znj .i64) (k:=1) op3 (by kernel_rfl) rfl (zsK (α:=List Int) (ok:=(fun l=>l.length<=maxLen/\∀a0∈l,znj .i64 a0)) (k:=1) zBY (by kernel_rfl) rfl (zsK (α:=List Int) (ok:=(fun l=>l.length<=maxLen/\∀a0∈l,znj .i64 a0)) (k:=1) zBY (by kernel_rfl) rfl (zsK (α:=List (List (List Int))) (ok:=(fun l=>l.length<=maxLen/\∀a0∈l,a0.length<=maxLen/\∀a1∈a0,a1.length<=maxLen/\∀a2∈a1,znj .i64 a2)) (k:=1) zB0 (by kernel_rfl) rfl zsJ)))))) (by kernel_rfl) fun m vs h=>by
 obtain⟨a0,c0,r0,m0,h0,p0,k0,s0,⟨a1,c1,r1,m1,h1,p1,k1,s1,⟨a2,c2,r2,m2,h2,p2,k2,s2,⟨a3,c3,r3,m3,h3,p3,k3,s3,⟨a4,c4,r4,m4,h4,p4,k4,s4,⟨a5,c5,r5,m5,h5,p5,k5,s5,rfl⟩⟩⟩⟩⟩⟩:=h;have p0:c0=[.int .i64 a0]:=p0; subst p0;have p1:c1=[.bool a1]:=p1; subst p1;have p2:c2=[.int .i64 a2]:=p2; subst p2;obtain⟨d3,rfl,p3⟩:=p3;obtain⟨d4,rfl,p4⟩:=p4;obtain⟨d5,rfl,p5⟩:=p5;subst h5 h4 h3 h2 h1 h0;exact⟨⟨a0,a1,a2,a3,a4,a5⟩,⟨_,_,_,rfl,p3,p4,p5⟩,⟨k0,k1,k2,k3,k4,k5⟩⟩
theorem zB2:zsC prog 22 (List Tf) (fun l=>l.length<=maxLen/\∀a0∈l,zsQ a0):=zsG (by kernel_rfl) (by kernel_rfl) zB1
theorem zB3:laidOutB prog=true:=by kernel_rfl
theorem zB4:ownKnob prog.godebug=none:=by kernel_rfl
theorem zB5(os:Os)(started:os.Started)(H:Type)(enc:TypeId × Value->H) :
    ReturnsInHanded {} Try.checked os 10 .any (Rows.tariffMoreSpec.pre6 enc Try.prog Try.f10 Rows.tariffMoreRow.domain false) (Rows.tariffMoreSpec.post enc Try.prog Try.f10 false true false false):=by
  refine returnsInHanded_of_change (C:=Try.checked) zB4 started (by kernel_rfl) Try.func10
    (ChangeSpec.witness6 (enc:=enc) (C:=Try.checked) false ⟨#[],#[.slice none 0 0,.int .u8 0,.int .u8 0,.int .u8 0,.int .u8 0],[]⟩ 8 (by kernel_rfl) (by kernel_rfl) (by kernel_rfl) (by kernel_rfl)) ?_
  intro W base args ds gs before hval0 hW hcnd _;have hval:∀(j:Nat) t v,Try.f10.params[j]? = some t->args[j]? = some v->Value.okWide Try.prog W .any base t v:=hval0;have hW':=hW;obtain⟨p,q,hA0,hV,rfl,hfz,hnd⟩:=hW;have hA:DataW.TrodAll enc Try.prog W 0 (fun _=>true) true Try.f10.params.toList args.toList ds p:=hA0;rw[Try.params10] at hA hval;obtain⟨v0,v1,v2,v3,v4,d0,d1,d2,d3,d4,p0,p1,p2,p3,p4,rfl,rfl,rfl,h0,h1,h2,h3,h4⟩:=zsM hA;obtain⟨rfl,rfl⟩:=trodVars_none hV;obtain⟨a0,len0,cap0,hv0⟩:=okWide_slice Try.underlying22 (hval 0 22 v0 rfl rfl);obtain⟨n1,hv1⟩:=okWide_int Try.underlying5 (hval 1 5 v1 rfl rfl);obtain⟨n2,hv2⟩:=okWide_int Try.underlying5 (hval 2 5 v2 rfl rfl);obtain⟨n3,hv3⟩:=okWide_int Try.underlying5 (hval 3 5 v3 rfl rfl);obtain⟨n4,hv4⟩:=okWide_int Try.underlying5 (hval 4 5 v4 rfl rfl)
  have hlt:∀x∈p0++p1++p2++p3++p4,x.block < W.heap.size:=fun x hx=>by simpa using hW'.lt x (by simpa using hx)
  obtain⟨fu0,hf0⟩:=id h0;obtain⟨fu1,hf1⟩:=id h1;obtain⟨fu2,hf2⟩:=id h2;obtain⟨fu3,hf3⟩:=id h3;obtain⟨fu4,hf4⟩:=id h4
  clear hA0 hval0
  obtain⟨e0,m0,w0,a_0,le0,sv0,lay0,cr0,rep0,ok0⟩:=zB2 H enc W true _ _ _ hf0 _ _ (Lay.nil W);obtain⟨i1,hc1,_,hw1⟩:=DataW.trod_int Try.underlying5 hf1;obtain⟨i2,hc2,_,hw2⟩:=DataW.trod_int Try.underlying5 hf2;obtain⟨i3,hc3,_,hw3⟩:=DataW.trod_int Try.underlying5 hf3;obtain⟨i4,hc4,_,hw4⟩:=DataW.trod_int Try.underlying5 hf4;subst hv0;obtain⟨c0,rfl,rep0⟩:=rep0
  have cv0:CR e0 c0 (.slice a0 len0 cap0):=by
    cases cr0 with
    | cons h _=>exact h
  subst hv1
  have hi1:i1=n1:=by
    have h:[Value.int .u8 n1]=[.int .u8 i1]:=hc1
    cases h; rfl
  subst hi1;subst hv2
  have hi2:i2=n2:=by
    have h:[Value.int .u8 n2]=[.int .u8 i2]:=hc2
    cases h; rfl
  subst hi2;subst hv3
  have hi3:i3=n3:=by
    have h:[Value.int .u8 n3]=[.int .u8 i3]:=hc3
    cases h; rfl
  subst hi3;subst hv4
  have hi4:i4=n4:=by
    have h:[Value.int .u8 n4]=[.int .u8 i4]:=hc4
    cases h; rfl
  subst hi4;have hargs:zeq (VR e0) [.c c0,.c (.int .u8 i1),.c (.int .u8 i2),.c (.int .u8 i3),.c (.int .u8 i4)] [.slice a0 len0 cap0,.int .u8 i1,.int .u8 i2,.int .u8 i3,.int .u8 i4]:=.cons cv0 (.cons rfl (.cons rfl (.cons rfl (.cons rfl .nil))));refine(callsIn_wide.1 (zrO fits htab (zxY (l:=a_0) (crop:=i1) (day:=i2) (count:=i3) (more:=i4) lay0.pre rep0 (zAF ok0 (zrM hw1) (zrM hw2) (zrM hw3) (zrM hw4)) (Q:=fun v _=>v=.c (.bool true)) fun _ _=>rfl) lay0.hr (args':=#[.slice a0 len0 cap0,.int .u8 i1,.int .u8 i2,.int .u8 i3,.int .u8 i4]) hargs 0)).mono fun en W' hp=>?_;obtain⟨v,v',e',m',rfl,hst,hvr,rfl⟩:=hp;have hv':v'=.bool true:=hvr;subst hv';have hbelow:=lay0.below hst
  refine⟨_,rfl,[d0,d1,d2,d3,d4],[],p0++p1++p2++p3++p4,[],p0++(p1++(p2++(p3++p4))),[],by simpa using hW',trodAll_mk1 (shut_bool Try.underlying4 _),
    zsN (Below.trod zB3 (by kernel_rfl) (of_decide_eq_true (by kernel_rfl)) h0 hbelow fun x hx=>hlt x (by simp[hx])) (Below.trod zB3 (by kernel_rfl) (of_decide_eq_true (by kernel_rfl)) h1 hbelow fun x hx=>hlt x (by simp[hx])) (Below.trod zB3 (by kernel_rfl) (of_decide_eq_true (by kernel_rfl)) h2 hbelow fun x hx=>hlt x (by simp[hx])) (Below.trod zB3 (by kernel_rfl) (of_decide_eq_true (by kernel_rfl)) h3 hbelow fun x hx=>hlt x (by simp[hx])) (Below.trod zB3 (by kernel_rfl) (of_decide_eq_true (by kernel_rfl)) h4 hbelow fun x hx=>hlt x (by simp[hx])),rfl,lay0.kept hst _,fun hc=>by cases hc⟩
theorem TariffMore_holds:Rows.TariffMoreSaid:=
 OpenClaim.holds_of_wide 10 Try.f10 rfl rfl rfl rfl rfl rfl rfl ⟨rfl,rfl,rfl,rfl,rfl⟩ rfl rfl rfl rfl rfl (by kernel_rfl) Try.func10 (by kernel_rfl)
  (of_decide_eq_true (by kernel_rfl)) (by unfold Func.isWrapper; first | (rw[if_pos (by decide +kernel)]; kernel_rfl) | (rw[if_neg (by decide +kernel)]; exact⟨rfl,rfl⟩))
  (fun os started H enc _=>zB5 os started H enc)
end Go.Proofs.Ytdedachmfbiekaa

