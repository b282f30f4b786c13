/- UmpireNear, for all that it can be called with, returns true. Condition: none. -/
import Derived.Test.YteojndcmgpiklaaGreatUdJ
import GoSem.Step
import GoSem.ClaimKeys
import Derived.DeepKeys2
import Derived.RangeFuncLeaves
import Derived.OrdersIn
import Derived.Laws.World
import Derived.Laws.Sem
import Derived.RangeFuncRecord
import Derived.Laws.CopyRow
import Derived.Laws.Append
import Derived.Laws.Rows
import Derived.Laws.Slices
import Derived.Laws.Entries
import Derived.ChangeKeysEq
import Derived.IntWalk
import Derived.DeepKeys
import Derived.DeepKeys3
import Derived.Laws.StructEq
import Derived.MapKept
import Derived.Laws.AppendOwn
import Derived.ChangeArms
import Derived.ChangeOld
import Derived.Carry
import Derived.ChangeShapes
import Derived.KernelRfl
import Derived.ProofKit
import Derived.Test.YteojndcmgpiklaaGreatRows

namespace Go.Proofs.YteojndcmgpiklaaGreat
open _root_.Go.Proofs.Tryz
open Go.Abs
set_option maxRecDepth 100000
noncomputable section
def zDD(c:Cse)(k:Nat)(f:Fld):Cse:=⟨c.Tariffs,c.Day,c.Fee,c.Fields.set k f⟩
theorem zDE{c:Cse}(hc:zBa c){k:Nat}{f:Fld}(hf:zA9 c.Tariffs f):zBa (zDD c k f):=
 ⟨hc.tar,by show(c.Fields.set k f).length≤3; rw[List.length_set]; exact hc.len,hc.day,hc.fee,fun x hx=>(List.mem_or_eq_of_mem_set hx).elim (hc.fld x) fun h=>h ▸ hf⟩
theorem zDF{c:Cse}{k:Nat}(hk:k < c.Fields.length){f:Fld}:(zDD c k f).Fields[k]? = some f:=by
 show(c.Fields.set k f)[k]? = _
 rw[List.getElem?_set_self hk]
theorem zDG{c:Cse}(hc:zBa c):zuY c=some ⟨c.Tariffs,c.Day,c.Fee,c.Fields⟩:=by
 have:=hc.len;unfold zuY;rw[zqf (by simp; omega)]; rfl
theorem zDH{c:Cse}(hc:zBa c)(hth:zzV c.Tariffs){k:Nat}{f:Fld}:zuw (zDD c k f)=some (zDD c k f):=zBx hth (by show(c.Fields.set k f).length≤6; rw[List.length_set]; have:=hc.len; omega)
theorem zDI{c:Cse}{which:Int}(_hw:0≤which∧which < 256)(h0:0 < c.Fields.length):∃(k:Nat) (f:Fld),which % (c.Fields.length:Int)=(k:Int)∧k < c.Fields.length∧c.Fields[k]? = some f:=by
 have h5:=Int.emod_nonneg which (show(c.Fields.length:Int) ≠ 0 by omega);have h6:=Int.emod_lt_of_pos which (show 0 < (c.Fields.length:Int) by omega);exact⟨(which % (c.Fields.length:Int)).toNat,_,by omega,by omega,List.getElem?_eq_getElem (by omega)⟩
theorem zDJ{l:List Tf}{f:Fld}(hf:zA9 l f):zC7 f=2↔∀t,zBy f t→¬ zBB f t:=by
 unfold zC7
 constructor
 ·intro h t ht hc;have hm:=(zBO hf).2 ht
  split at h
  ·omega
  ·rw[if_pos (List.any_eq_true.2 ⟨t,hm,decide_eq_true hc⟩)] at h
   omega
 ·intro h;have hn:=zBP hf;obtain⟨t,ht⟩:=List.exists_mem_of_length_pos hn.1;rw[if_neg fun ha=>h t ((zBO hf).1 ht) (of_decide_eq_true (List.all_eq_true.1 ha t ht)),if_neg];intro ha;obtain⟨u,hu,he⟩:=List.any_eq_true.1 ha;exact h u ((zBO hf).1 hu) (of_decide_eq_true he)
theorem zDK{l:List Tf}{f:Fld}(hf:zA9 l f):zC7 f=1↔∀t,zBy f t→zBB f t:=by
 unfold zC7
 constructor
 ·intro h t ht
  split at h
  ·rename_i ha; exact of_decide_eq_true (List.all_eq_true.1 ha t ((zBO hf).2 ht))
  ·split at h <;> omega
 ·intro h;rw[if_pos (List.all_eq_true.2 fun t ht=>decide_eq_true (h t ((zBO hf).1 ht)))]
def zDL(f:Fld)(n:Int):Fld:=⟨f.Crop,f.Value,n,f.First,f.Second,f.Umpire⟩
theorem zDM{l:List Tf}{f:Fld}(hf:zA9 l f){n:Int}(hn:0≤n∧n≤100):zA9 l (zDL f n):=⟨hf.crop,hf.val,hn,hf.fst,hf.snd,hf.ump⟩
theorem zDN{f:Fld}{n:Int}{t:Thr}:zBy (zDL f n) t↔zBy f t:=⟨fun h=>⟨h.a,h.b,h.u⟩,fun h=>⟨h.a,h.b,h.u⟩⟩
theorem zDO{l:List Tf}{f:Fld}(hf:zA9 l f){t:Thr}(ht:zBy f t):¬ zBB (zDL f 100) t:=by
 have hr:=ht.rng hf;have:=hr.a; have:=hr.b;unfold zBB zBA zDL
 dsimp only
 omega
theorem zDP{c:Cse}{more which:Int}(_:OkC c)(hm:zl0 .u8 more)(hw:zl0 .u8 which):zuZ c more which=some true:=by
 have hm:=fU8 hm;have hw:=fU8 hw;unfold zuZ
 refine Ev.pick zBv (fun hr=>?_) fun hr=>by rw[zqg rfl,zDC]; rfl
 obtain⟨⟨hth,hl⟩,hc⟩:=hr;have hlen:=hc.len;rw[if_pos rfl]
 by_cases h0:c.Fields.length=0
 ·rw[if_pos (by omega),zDC]; rfl
 obtain⟨k,f,hk,hkl,hat⟩:=zDI hw (show 0 < c.Fields.length by omega);have hf:=hc.fld f (List.mem_of_getElem? hat);have hnr:=hf.near;have h9:=Int.emod_nonneg more (show(9:Int) ≠ 0 by omega);have h9':=Int.emod_lt_of_pos more (show(0:Int) < 9 by omega)
 have hn:0≤min (100:Int) (f.Near+more % 9)∧min (100:Int) (f.Near+more % 9)≤100:=by omega
 have hfx:=zDM hf hn;have hfy:=zDM hf (n:=100) (by omega);rw[if_neg (by omega),wz (fI (by omega)),wz (fI (by omega)),zqf (by omega),zqf (by omega),hk,zqf (fI (by omega)),zDG hc,obs,obs,zq2 hat,obs,zqf (by omega),zqf (by omega),zqf (fI (by omega)),zqf (fI (by omega)),obs,obs,zBx hth hl,obs,zDa hc hat,obs]
 have tn:(k:Int).toNat=k:=by omega
 rw[tn]
 show(zuw (zDD c k (zDL f (min (100:Int) (f.Near+more % 9))))).bind _=_
 rw[zDH hc hth,obs,zDa (zDE hc hfx) (zDF hkl),obs]
 show(zuw (zDD c k (zDL f 100))).bind _=_
 rw[zDH hc hth,obs,zDa (zDE hc hfy) (zDF hkl),obs];have e1:zC7 (zDL f 100)=2:=(zDJ hfy).2 fun t ht=>zDO hf (zDN.1 ht)
 have e2:zC7 f=2→zC7 (zDL f (min (100:Int) (f.Near+more % 9)))=2:=fun h=>(zDJ hfx).2 fun t ht hcal=>(zDJ hf).1 h t (zDN.1 ht) (by
  unfold zBB zDL at hcal;unfold zBB
  dsimp only at hcal
  have hr:=(zDN.1 ht).rng hf;have h1:=hr.a; have h2:=hr.b
  unfold zBA at *
  omega)
 have e3:zC7 (zDL f (min (100:Int) (f.Near+more % 9)))=1→zC7 f=1:=fun h=>(zDK hf).2 fun t ht=>by
  have hcal:=(zDK hfx).1 h t (zDN.2 ht);unfold zBB zDL at hcal;unfold zBB
  dsimp only at hcal
  have hr:=ht.rng hf;have h1:=hr.a; have h2:=hr.b
  unfold zBA at *
  omega
 rw[if_pos rfl,if_pos rfl,if_pos rfl,if_pos e1]
 dsimp only
 by_cases u2:zC7 f=2
 ·rw[if_pos u2,if_pos (e2 u2),if_neg (by rw[e2 u2]; decide),zDC]; rfl
 ·rw[if_neg u2]
  by_cases v1:zC7 (zDL f (min (100:Int) (f.Near+more % 9)))=1
  ·rw[if_pos v1,if_pos (e3 v1),zDC]; rfl
  ·rw[if_neg v1,zDC]; rfl
end
end Go.Proofs.YteojndcmgpiklaaGreat

namespace Go.Proofs.YteojndcmgpiklaaGreat
open _root_.Go.Proofs.Tryz
open Go.ChangeShapes Go.WideShapes Go.ChangeAt Go.RowKit Go.Abs
set_option maxRecDepth 100000
theorem op3:zrs prog 3 Int (zl0 .i64):=zrt (by kernel_rfl)
theorem op4:zrs prog 4 Bool (fun _=>True):=zru (by kernel_rfl)
theorem zDQ:zrs prog 29 (List Int) (fun l=>l.length≤maxLen∧∀a0∈l,zl0 .i64 a0):=zrw (by kernel_rfl) (by kernel_rfl) op3
theorem zDR:zrs prog 140 (List (List Int)) (fun l=>l.length≤maxLen∧∀a0∈l,a0.length≤maxLen∧∀a1∈a0,zl0 .i64 a1):=zrw (by kernel_rfl) (by kernel_rfl) zDQ
theorem zDS:zrs prog 78 (List (List (List Int))) (fun l=>l.length≤maxLen∧∀a0∈l,a0.length≤maxLen∧∀a1∈a0,a1.length≤maxLen∧∀a2∈a1,zl0 .i64 a2):=zrw (by kernel_rfl) (by kernel_rfl) zDR
theorem zDT:zrs prog 151 Tf zrF:=zrB (fs:=[(3,0),(4,1),(3,2),(29,3),(29,4),(78,5)]) (by kernel_rfl) (by kernel_rfl) (zrA (α:=Int) (ok:=zl0 .i64) (k:=1) op3 (by kernel_rfl) rfl (zrA (α:=Bool) (ok:=(fun _=>True)) (k:=1) op4 (by kernel_rfl) rfl (zrA (α:=Int) (ok:=zl0 .i64) (k:=1) op3 (by kernel_rfl) rfl (zrA (α:=List Int) (ok:=(fun l=>l.length≤maxLen∧∀a0∈l,zl0 .i64 a0)) (k:=1) zDQ (by kernel_rfl) rfl (zrA (α:=List Int) (ok:=(fun l=>l.length≤maxLen∧∀a0∈l,zl0 .i64 a0)) (k:=1) zDQ (by kernel_rfl) rfl (zrA (α:=List (List (List Int))) (ok:=(fun l=>l.length≤maxLen∧∀a0∈l,a0.length≤maxLen∧∀a1∈a0,a1.length≤maxLen∧∀a2∈a1,zl0 .i64 a2)) (k:=1) zDS (by kernel_rfl) rfl zrz)))))) (by kernel_rfl) fun m vs h=>by
 obtain⟨a0,c0,r0,m0,h0,p0,k0,s0,⟨a1,c1,r1,m1,h1,p1,k1,s1,⟨a2,c2,r2,m2,h2,p2,k2,s2,⟨a3,c3,r3,m3,h3,p3,k3,s3,⟨a4,c4,r4,m4,h4,p4,k4,s4,⟨a5,c5,r5,m5,h5,p5,k5,s5,rfl⟩⟩⟩⟩⟩⟩:=h;have p0:c0=[.int .i64 a0]:=p0; subst p0;have p1:c1=[.bool a1]:=p1; subst p1;have p2:c2=[.int .i64 a2]:=p2; subst p2;obtain⟨d3,rfl,p3⟩:=p3;obtain⟨d4,rfl,p4⟩:=p4;obtain⟨d5,rfl,p5⟩:=p5;subst h5 h4 h3 h2 h1 h0;exact⟨⟨a0,a1,a2,a3,a4,a5⟩,⟨_,_,_,rfl,p3,p4,p5⟩,⟨k0,k1,k2,k3,k4,k5⟩⟩
theorem zDU:zrs prog 22 (List Tf) (fun l=>l.length≤maxLen∧∀a0∈l,zrF a0):=zrw (by kernel_rfl) (by kernel_rfl) zDT
theorem zDV:zrs prog 58 Rg zrD:=zrB (fs:=[(3,0),(3,1)]) (by kernel_rfl) (by kernel_rfl) (zrA (α:=Int) (ok:=zl0 .i64) (k:=1) op3 (by kernel_rfl) rfl (zrA (α:=Int) (ok:=zl0 .i64) (k:=1) op3 (by kernel_rfl) rfl zrz)) (by kernel_rfl) fun m vs h=>by
 obtain⟨a0,c0,r0,m0,h0,p0,k0,s0,⟨a1,c1,r1,m1,h1,p1,k1,s1,rfl⟩⟩:=h;have p0:c0=[.int .i64 a0]:=p0; subst p0;have p1:c1=[.int .i64 a1]:=p1; subst p1;subst h1 h0;exact⟨⟨a0,a1⟩,rfl,⟨k0,k1⟩⟩
theorem zDW:zrs prog 60 Fld zrI:=zrB (fs:=[(3,0),(3,1),(3,2),(58,3),(58,5),(58,7)]) (by kernel_rfl) (by kernel_rfl) (zrA (α:=Int) (ok:=zl0 .i64) (k:=1) op3 (by kernel_rfl) rfl (zrA (α:=Int) (ok:=zl0 .i64) (k:=1) op3 (by kernel_rfl) rfl (zrA (α:=Int) (ok:=zl0 .i64) (k:=1) op3 (by kernel_rfl) rfl (zrA (α:=Rg) (ok:=zrD) (k:=2) zDV (by kernel_rfl) rfl (zrA (α:=Rg) (ok:=zrD) (k:=2) zDV (by kernel_rfl) rfl (zrA (α:=Rg) (ok:=zrD) (k:=2) zDV (by kernel_rfl) rfl zrz)))))) (by kernel_rfl) fun m vs h=>by
 obtain⟨a0,c0,r0,m0,h0,p0,k0,s0,⟨a1,c1,r1,m1,h1,p1,k1,s1,⟨a2,c2,r2,m2,h2,p2,k2,s2,⟨a3,c3,r3,m3,h3,p3,k3,s3,⟨a4,c4,r4,m4,h4,p4,k4,s4,⟨a5,c5,r5,m5,h5,p5,k5,s5,rfl⟩⟩⟩⟩⟩⟩:=h;have p0:c0=[.int .i64 a0]:=p0; subst p0;have p1:c1=[.int .i64 a1]:=p1; subst p1;have p2:c2=[.int .i64 a2]:=p2; subst p2;have p3:c3=[.int .i64 a3.Lo,.int .i64 a3.Hi]:=p3; subst p3;have p4:c4=[.int .i64 a4.Lo,.int .i64 a4.Hi]:=p4; subst p4;have p5:c5=[.int .i64 a5.Lo,.int .i64 a5.Hi]:=p5; subst p5;subst h5 h4 h3 h2 h1 h0;exact⟨⟨a0,a1,a2,a3,a4,a5⟩,rfl,⟨k0,k1,k2,k3,k4,k5⟩⟩
theorem zDX:zrs prog 23 (List Fld) (fun l=>l.length≤maxLen∧∀a0∈l,zrI a0):=zrw (by kernel_rfl) (by kernel_rfl) zDW
theorem zDY:zrs prog 25 Cse zrK:=zrB (fs:=[(22,0),(3,1),(3,2),(23,3)]) (by kernel_rfl) (by kernel_rfl) (zrA (α:=List Tf) (ok:=(fun l=>l.length≤maxLen∧∀a0∈l,zrF a0)) (k:=1) zDU (by kernel_rfl) rfl (zrA (α:=Int) (ok:=zl0 .i64) (k:=1) op3 (by kernel_rfl) rfl (zrA (α:=Int) (ok:=zl0 .i64) (k:=1) op3 (by kernel_rfl) rfl (zrA (α:=List Fld) (ok:=(fun l=>l.length≤maxLen∧∀a0∈l,zrI a0)) (k:=1) zDX (by kernel_rfl) rfl zrz)))) (by kernel_rfl) fun m vs h=>by
 obtain⟨a0,c0,r0,m0,h0,p0,k0,s0,⟨a1,c1,r1,m1,h1,p1,k1,s1,⟨a2,c2,r2,m2,h2,p2,k2,s2,⟨a3,c3,r3,m3,h3,p3,k3,s3,rfl⟩⟩⟩⟩:=h;obtain⟨d0,rfl,p0⟩:=p0;have p1:c1=[.int .i64 a1]:=p1; subst p1;have p2:c2=[.int .i64 a2]:=p2; subst p2;obtain⟨d3,rfl,p3⟩:=p3;subst h3 h2 h1 h0;exact⟨⟨a0,a1,a2,a3⟩,⟨_,_,rfl,p0,p3⟩,⟨k0,k1,k2,k3⟩⟩
theorem zDZ:laidOutB prog=true:=by kernel_rfl
theorem zD0:ownKnob prog.godebug=none:=by kernel_rfl
theorem zD1(os:Os)(started:os.Started)(H:Type)(enc:TypeId × Value→H) :
    ReturnsInHanded {} Tryz.checked os 10 .any (Rows.umpireNearSpec.pre6 enc Tryz.prog Tryz.f10 Rows.umpireNearRow.domain false) (Rows.umpireNearSpec.post enc Tryz.prog Tryz.f10 false true false false):=by
  refine returnsInHanded_of_change (C:=Tryz.checked) zD0 started (by kernel_rfl) Tryz.func10
    (ChangeSpec.witness6 (enc:=enc) (C:=Tryz.checked) false ⟨#[],#[.agg #[.slice none 0 0,.int .i64 0,.int .i64 0,.slice none 0 0],.int .u8 0,.int .u8 0],[]⟩ 8 (by kernel_rfl) (by kernel_rfl) (by kernel_rfl) (by kernel_rfl)) ?_
  intro W base args ds gs before hval0 hW hcnd _;have hval:∀(j:Nat) t v,Tryz.f10.params[j]? = some t→args[j]? = some v→Value.okWide Tryz.prog W .any base t v:=hval0;have hW':=hW;obtain⟨p,q,hA0,hV,rfl,hfz,hnd⟩:=hW;have hA:DataW.TrodAll enc Tryz.prog W 0 (fun _=>true) true Tryz.f10.params.toList args.toList ds p:=hA0;rw[Tryz.params10] at hA hval;obtain⟨v0,v1,v2,d0,d1,d2,p0,p1,p2,rfl,rfl,rfl,h0,h1,h2⟩:=trodAll_three hA;obtain⟨rfl,rfl⟩:=trodVars_none hV;obtain⟨n1,hv1⟩:=okWide_int Tryz.underlying5 (hval 1 5 v1 rfl rfl);obtain⟨n2,hv2⟩:=okWide_int Tryz.underlying5 (hval 2 5 v2 rfl rfl)
  have hlt:∀x∈p0++p1++p2,x.block < W.heap.size:=fun x hx=>by simpa using hW'.lt x (by simpa using hx)
  obtain⟨fu0,hf0⟩:=id h0;obtain⟨fu1,hf1⟩:=id h1;obtain⟨fu2,hf2⟩:=id h2
  clear hA0 hval0
  obtain⟨e0,m0,w0,a_0,le0,sv0,lay0,cr0,rep0,ok0⟩:=zDY H enc W true _ _ _ hf0 _ _ (Lay.nil W);obtain⟨i1,hc1,_,hw1⟩:=DataW.trod_int Tryz.underlying5 hf1;obtain⟨i2,hc2,_,hw2⟩:=DataW.trod_int Tryz.underlying5 hf2;obtain⟨c0_0,c0_3,rfl,g0_0,g0_3⟩:=rep0
  obtain⟨cs0,hv0,cl0⟩:∃cs,v0=.agg cs∧v0.cells.toList=cs.toList:=by
    have hl:=cr0.length
    cases v0 with
    | agg cs=>exact⟨cs,rfl,rfl⟩
    | _=>exact absurd hl (by simp[Value.cells])
  subst hv0;subst hv1
  have hi1:i1=n1:=by
    have h:[Value.int .u8 n1]=[.int .u8 i1]:=hc1
    cases h; rfl
  subst hi1;subst hv2
  have hi2:i2=n2:=by
    have h:[Value.int .u8 n2]=[.int .u8 i2]:=hc2
    cases h; rfl
  subst hi2;have hargs:zen (VR e0) [.agg 4 [c0_0,.int .i64 a_0.Day,.int .i64 a_0.Fee,c0_3],.c (.int .u8 i1),.c (.int .u8 i2)] [.agg cs0,.int .u8 i1,.int .u8 i2]:=.cons ⟨cs0,rfl,cr0,rfl⟩ (.cons rfl (.cons rfl .nil));refine(callsIn_wide.1 (zqs fits htab (zAS (c:=a_0) (more:=i1) (which:=i2) lay0.pre g0_0 g0_3 (zDP ok0 (zqq hw1) (zqq hw2)) (Q:=fun v _=>v=.c (.bool true)) fun _ _=>rfl) lay0.hr (args':=#[.agg cs0,.int .u8 i1,.int .u8 i2]) hargs 0)).mono fun en W' hp=>?_;obtain⟨v,v',e',m',rfl,hst,hvr,rfl⟩:=hp;have hv':v'=.bool true:=hvr;subst hv';have hbelow:=lay0.below hst
  refine⟨_,rfl,[d0,d1,d2],[],p0++p1++p2,[],p0++(p1++p2),[],by simpa using hW',trodAll_mk1 (shut_bool Tryz.underlying4 _),
    trodAll_mk3 (Below.trod zDZ (by kernel_rfl) (of_decide_eq_true (by kernel_rfl)) h0 hbelow fun x hx=>hlt x (by simp[hx])) (Below.trod zDZ (by kernel_rfl) (of_decide_eq_true (by kernel_rfl)) h1 hbelow fun x hx=>hlt x (by simp[hx])) (Below.trod zDZ (by kernel_rfl) (of_decide_eq_true (by kernel_rfl)) h2 hbelow fun x hx=>hlt x (by simp[hx])),rfl,lay0.kept hst _,fun hc=>by cases hc⟩
theorem UmpireNear_holds:Rows.UmpireNearSaid:=
 OpenClaim.holds_of_wide 10 Tryz.f10 rfl rfl rfl rfl rfl rfl rfl ⟨rfl,rfl,rfl,rfl,rfl⟩ rfl rfl rfl rfl rfl (by kernel_rfl) Tryz.func10 (by kernel_rfl)
  (of_decide_eq_true (by kernel_rfl)) (by unfold Func.isWrapper; first | (rw[if_pos (by decide +kernel)]; kernel_rfl) | (rw[if_neg (by decide +kernel)]; exact⟨rfl,rfl⟩))
  (fun os started H enc _=>zD1 os started H enc)
end Go.Proofs.YteojndcmgpiklaaGreat

