/- GrowthDecided, for all that it can be called with, returns true. Condition: none. -/
import Derived.Test.YtmlaphekbnanjaaGtH
import GoSem.Step
import GoSem.ClaimKeys
import Derived.DeepKeys2
import Derived.RangeFuncLeaves
import Derived.OrdersIn
import Derived.Laws.World
import Derived.Laws.Sem
import Derived.RangeFuncRecord
import Derived.Laws.CopyRow
import Derived.Laws.Append
import Derived.Laws.Rows
import Derived.Laws.Slices
import Derived.Laws.Entries
import Derived.ChangeKeysEq
import Derived.IntWalk
import Derived.DeepKeys
import Derived.DeepKeys3
import Derived.Laws.StructEq
import Derived.MapKept
import Derived.Laws.AppendOwn
import Derived.ChangeArms
import Derived.ChangeOld
import Derived.Carry
import Derived.ChangeShapes
import Derived.KernelRfl
import Derived.ProofKit
import Derived.Test.YtmlaphekbnanjaaRows

namespace Go.Proofs.Ytmlaphekbnanjaa
open _root_.Go.Proofs.Try
open Go.Abs
set_option maxRecDepth 100000
noncomputable section
set_option maxHeartbeats 4000000 in
theorem s_GrowthDecided {s : Ssn} {which : Int} {limit : Int} {sn : Int} {ca101 ca102 ca103 : C} {m f : M} {Q : V → M → Prop} {rz : Bool} (hS : Pre f m) (ha101 : Sl f ca101 s.Rules) (ha102 : Sl f ca102 s.Fields) (ha103 : Sl f ca103 s.Visits) (hp : pGrowthDecided s which limit sn = some rz) (hq : ∀ m', Ext m m' → Q (.c (.bool rz)) m') : Wc prog tbl 5 [.agg 4 [(Il s.Last), ca101, ca102, ca103], .c (.int .u8 which), .c (.int .u8 limit), .c (.int .u8 sn)] m Q := by
 have S0 := hS.st
 obtain ⟨τ0, _⟩ : ∃ τ : Nat → Nat, True := ⟨fun _ => 0, trivial⟩
 refine w5 ?_
 unfold pGrowthDecided at hp
 intro m0 hj
 obtain ⟨z, kd, cp, ld⟩ := S0.blk hj τ0 1
 refine ⟨_, _, _, _, ld.bk.ra, ?_⟩
 obtain ⟨dp, ij, hp⟩ := bsome hp
 refine s_lReady (s := s) kd.pre ha101 ha102 ha103 ij fun m6 jj => ?_
 obtain ⟨ja, kj⟩ := kd.call jj z
 have Ha := ld.k kj
 refine ⟨_, rfl, ?_⟩
 refine ifnb hp (fun lj hp => ?_) fun lj hp => ?_
 ·obtain ⟨ep, mj, hp⟩ := bsome hp
  refine s_awake ja.pre  mj fun m9 nj => ?_
  obtain ⟨oj, fp⟩ := ja.call nj z
  refine ⟨_, rfl, ?_⟩
  obtain rfl := Option.some.inj hp
  exact hq _ oj.ext'
 refine ⟨trivial, _, Ha.bk.rc rfl, ha103.isSl, ?_⟩
 try rw [ha103.slLen]
 refine ifd hp (fun pj hp => ?_) fun pj hp => ?_
 ·obtain ⟨gp, qj, hp⟩ := bsome hp
  refine s_awake ja.pre  qj fun Nq rj => ?_
  obtain ⟨sj, ip⟩ := ja.call rj z
  refine ⟨_, rfl, ?_⟩
  obtain rfl := Option.some.inj hp
  exact hq _ sj.ext'
 refine ⟨trivial, _, Ha.bk.rc rfl, ha102.isSl, ?_⟩
 refine gdi hp fun tj hp => ?_
 obtain ⟨md, hp⟩ := gd_some hp
 refine ⟨(by first | exact md | (rw [ha102.slLen]; exact md)), ?_⟩
 obtain ⟨nd, hp⟩ := gd_some hp
 refine ⟨(by first | exact nd | (rw [ha102.slLen]; exact nd)), ?_⟩
 refine gdi hp fun uj hp => ?_
 refine gdi hp fun vj hp => ?_
 obtain ⟨wj, hp⟩ := gd_some hp
 refine ⟨wj, _, _, _, _, Ha.bk.ra, ?_⟩
 obtain ⟨xj, yj, hp⟩ := bsome hp
 refine s_lSeason (s := s) ja.pre ha101 ha102 ha103 yj fun Oq jp kp lp np zj Aj Bj Cj => ?_
 obtain ⟨od, h⟩ := ja.callG zj z
 have Dj := Ha.k h
 refine ⟨_, _, _, _, rfl, ?_⟩
 try rw [ha102.slLen]
 obtain ⟨op, Ej, hp⟩ := bsome hp
 refine s_Verdict (s := xj) (field := ((wrapZ .i64 which) % (s.Fields.length : Int))) (limit := ((wrapZ .i64 limit) % (101 : Int))) od.pre Aj Bj Cj Ej fun Pq Fj => ?_
 obtain ⟨pd, Gj⟩ := od.call Fj z
 have qd := Dj.k Gj
 refine ⟨_, _, rfl, _, _, _, _, qd.bk.ra, ?_⟩
 obtain ⟨Hj, Ij, hp⟩ := bsome hp
 refine s_lSeason (s := s) pd.pre (ha101.sub h.fs) (ha102.sub h.fs) (ha103.sub h.fs) Ij fun Qq pp qp sp tp Jj Kj Lj Mj => ?_
 obtain ⟨sd, n⟩ := pd.callG Jj z
 have Nj := qd.k n
 refine ⟨_, _, _, _, rfl, ?_⟩
 try rw [ha102.slLen]
 obtain ⟨td, Oj, hp⟩ := bsome hp
 refine s_Decides (s := Hj) (field := ((wrapZ .i64 which) % (s.Fields.length : Int))) (limit := ((wrapZ .i64 limit) % (101 : Int))) sd.pre Kj Lj Mj Oj fun Rq Ia vp Pj a => ?_
 obtain ⟨I, o⟩ := sd.callG Pj z
 have t := Nj.k o
 refine ⟨_, _, rfl, ?_⟩
 refine ifnd hp (fun Qj hp => ?_) fun Qj hp => ?_
 ·obtain rfl := Option.some.inj hp
  exact hq _ I.ext'
 refine ifnd hp (fun Eb hp => ?_) fun Eb hp => ?_
 ·refine ifnd hp (fun Rj hp => ?_) fun Rj hp => ?_
  ·obtain rfl := Option.some.inj hp
   exact hq _ I.ext'
  refine ifnkf Eb ?_
  obtain ⟨wp, Sj, hp⟩ := bsome hp
  refine s_awake I.pre  Sj fun Sq Tj => ?_
  obtain ⟨Uj, xp⟩ := I.call Tj z
  refine ⟨_, rfl, ?_⟩
  obtain rfl := Option.some.inj hp
  exact hq _ Uj.ext'
 refine ifnkt Eb ?_
 refine ifnd hp (fun Vj hp => ?_) fun Vj hp => ?_; rotate_left
 ·intro Wj ve
  have hgo : ∀ (la : Nat) (Ja : Bool) (Fb : Bool) (Gb : Bool) (Ka : Int) (ua : M) (S : M) (G : Nat → Nat), St (Fm.of m) f S ua → Sub Ia S → Lb (Fm.of m) S G ua 1 m.nxt 4 [(Il s.Last), ca101, ca102, ca103] → pGrowthDecided_L1 s which limit sn td la Ja Ka = some rz → Wj [.c (.bool Ja), .c (.bool Fb), .c (.bool Gb), .c (Il Ka)] ua := by
   intro la
   induction la with
   | zero => intro Ja Fb Gb Ka ua S G p b t hp; cases hp
   | succ la T =>
    intro Ja Fb Gb Ka ua S G p b t hp
    refine ve _ _ _ _ _ ?_
    rw [pGrowthDecided_L1] at hp
    refine ⟨a.isSl, ?_⟩
    try rw [a.slLen]
    refine ifd hp (fun we hp => ?_) fun we hp => ?_; rotate_left
    ·obtain ⟨oo, xe, hp⟩ := bsome hp
     refine s_awake p.pre  xe fun yp ye => ?_
     obtain ⟨ze, po⟩ := p.call ye G
     refine ⟨_, rfl, ?_⟩
     obtain rfl := Option.some.inj hp
     exact hq _ ze.ext'
    obtain ⟨qo, La, hp⟩ := bsome hp
    obtain ⟨Xj, ud, wb, La⟩ := idx_some La
    refine ⟨Xj, ud, (by first | exact wb | (rw [a.slLen]; exact wb)), _, (a.rdI La (Sub.trans b p.sub)), ?_⟩
    refine ifd hp (fun Ae hp => ?_) fun Ae hp => ?_
    ·obtain rfl := Option.some.inj hp
     exact hq _ p.ext'
    obtain ⟨ro, Ma, hp⟩ := bsome hp
    obtain ⟨Yj, vd, xb, Ma⟩ := idx_some Ma
    refine ⟨Yj, vd, (by first | exact xb | (rw [a.slLen]; exact xb)), _, (a.rdI Ma (Sub.trans b p.sub)), trivial, _, t.bk.rc rfl, ?_⟩
    refine ifd hp (fun Be hp => ?_) fun Be hp => ?_
    ·obtain rfl := Option.some.inj hp
     exact hq _ p.ext'
    refine ifd hp (fun Ce hp => ?_) fun Ce hp => ?_; rotate_left
    ·intro zp De
     obtain ⟨Na, Oa, Ee, wd⟩ := p.growK De G 14
     have ic := t.k Ee
     have Fe := wd 0 (by decide)
     refine ⟨_, _, _, _, ic.bk.ra, ?_⟩
     obtain ⟨Ge, He, hp⟩ := bsome hp
     refine s_lSeason (s := s) Oa.pre (ha101.sub (Sub.trans (Sub.trans (Sub.trans h.fs n.fs) o.fs) b)) (ha102.sub (Sub.trans (Sub.trans (Sub.trans h.fs n.fs) o.fs) b)) (ha103.sub (Sub.trans (Sub.trans (Sub.trans h.fs n.fs) o.fs) b)) He fun Ap so uo wo xo Ie Je Ke Me => ?_
     obtain ⟨Pa, q⟩ := Oa.callG Ie Na
     have Ne := ic.k q
     have Oe := Fe.k q
     refine ⟨_, _, _, _, rfl, ?_⟩
     obtain ⟨Pe, Y, hp⟩ := bsome hp
     obtain ⟨Zj, xd, yb, Y⟩ := idx_some Y
     refine ⟨Zj, xd, (by first | exact yb | (rw [a.slLen]; exact yb)), _, (a.rdI Y (Sub.trans (Sub.trans b q.fs) Pa.sub)), (a.rdI Y (Sub.trans b Oa.sub)), ?_⟩
     try rw [ha102.slLen]
     obtain ⟨e, Qe, hp⟩ := bsome hp
     refine s_Seen (s := Ge) (field := ((wrapZ .i64 which) % (s.Fields.length : Int))) (week := Pe) Pa.pre Je Ke Me Qe fun Bp Re => ?_
     obtain ⟨Se, jc⟩ := Pa.call Re Na
     have Te := Ne.k jc
     have Ue := Oe.k jc
     refine ⟨_, _, _, rfl, ?_⟩
     intro Cp Ve
     obtain ⟨kc, We, Xe⟩ := Ue.set Se Ve
     have lc := Te.k We
     refine ⟨(a.rdI Y (Sub.trans (Sub.trans b q.fs) kc.sub)), (by rw [show allS cmC _ = true from cmL_of (nf_cons rfl (nf_cons ha101.noFn (nf_cons ha102.noFn (nf_cons ha103.noFn nf_nil))))]; exact (lc.bk.ra)), ?_⟩
     obtain ⟨Ye, Ze, Z, af, A⟩ := Xe.sto kc [(Il e.1.Lo), (Il e.1.Hi)]
     have nc := lc.k af
     refine ⟨Ye, Ze, ?_⟩
     refine ifnd hp (fun bf hp => ?_) fun bf hp => ?_
     ·obtain rfl := Option.some.inj hp
      exact hq _ Z.ext'
     refine ⟨trivial, _, A.bk.rc rfl, trivial, _, A.bk.rc rfl, ?_⟩
     refine ifd hp (fun cf hp => ?_) fun cf hp => ?_
     ·obtain rfl := Option.some.inj hp
      exact hq _ Z.ext'
     refine ⟨trivial, _, A.bk.rc rfl, ?_⟩
     refine ifd hp (fun df hp => ?_) fun df hp => ?_
     ·obtain rfl := Option.some.inj hp
      exact hq _ Z.ext'
     refine ⟨trivial, _, A.bk.rc rfl, ?_⟩
     refine ifd hp (fun ef hp => ?_) fun ef hp => ?_
     ·obtain rfl := Option.some.inj hp
      exact hq _ Z.ext'
     refine ⟨trivial, _, A.bk.rc rfl, trivial, _, A.bk.rc rfl, trivial, _, A.bk.rc rfl, ?_⟩
     refine gdi hp fun gf hp => ?_
     refine gdi hp fun hf hp => ?_
     refine gdi hp fun jf hp => ?_
     refine gdi hp fun kf hp => ?_
     refine gdi hp fun lf hp => ?_
     obtain ⟨mf, hp⟩ := gd_some hp
     refine ⟨mf, _, _, _, _, nc.bk.ra, ?_⟩
     intro Dp nf
     obtain ⟨pf, qf, rf, sf⟩ := Z.blk nf Na 15
     have tf := nc.k rf
     obtain ⟨oc, uf, wf, xf, yf⟩ := sf.sto qf [(Il s.Last), ca101, ca102, ca103]
     have zf := tf.k xf
     refine ⟨oc, uf, ?_⟩
     intro Ep Af
     obtain ⟨Bf, pc, qc, yd⟩ := wf.growK Af pf 16
     have sc := zf.k qc
     have Cf := yf.k qc
     have Df := yd 0 (by decide)
     intro Fp Ef
     obtain ⟨yo, tc, Qa, Ff⟩ := pc.blk Ef Bf 17
     have uc := sc.k Qa
     have Gf := Cf.k Qa
     have Hf := Df.k Qa
     refine ⟨trivial, _, uc.bk.rc rfl, (by rw [show cmC _ = true from cmC_of (ha103.noFn)]; exact (sc.bk.rc rfl)), ?_⟩
     have If := Lb.ow0 (α := Vis) Ff
     obtain ⟨Jf, hp⟩ := gd_some hp
     obtain ⟨Kf, Lf, zo, Mf, vc, Ra, aa⟩ := If.appL ta57 tc (ha103.sub (Sub.trans (Sub.trans (Sub.trans (Sub.trans h.fs n.fs) o.fs) b) q.fs)) Jf
     have Nf := uc.k Ra
     have Pf := Gf.k Ra
     have Qf := Hf.k Ra
     refine ⟨Kf, Lf, Mf, ?_⟩
     obtain ⟨ma, ba, hp⟩ := bsome hp
     obtain ⟨ak, zd, zb, ba⟩ := idx_some ba
     refine ⟨ak, zd, (by first | exact zb | (rw [a.slLen]; exact zb)), _, (a.rdI ba (Sub.trans (Sub.trans b q.fs) vc.sub)), (a.rdI ba (Sub.trans (Sub.trans b q.fs) tc.sub)), (a.rdI ba (Sub.trans (Sub.trans b q.fs) pc.sub)), ?_⟩
     intro Gp Rf
     obtain ⟨Sf, Sa, Tf⟩ := Qf.set vc Rf
     have wc := Nf.k Sa
     have Uf := Pf.k Sa
     have aa := aa.k Sa
     refine ⟨(by rw [show cmC _ = true from cmC_of (ha103.noFn)]; exact (wc.bk.rc rfl)), ?_⟩
     obtain ⟨Vf, Wf, B, Ad⟩ := Tf.freeze Sf
     have Xf := wc.k B
     have Yf := Uf.k B
     have aa := aa.k B
     have Zf : Sl Vf (C.sl (oc.nxt + 0) 0 1 0 (Option.some 1)) ([({ Field := ((wrapZ .i64 which) % (s.Fields.length : Int)), Week := ma, Seen := ({ Lo := (e.1.Lo + ((wrapZ .i64 sn) % ((e.1.Hi - e.1.Lo) + (1 : Int)))), Hi := (e.1.Lo + ((wrapZ .i64 sn) % ((e.1.Hi - e.1.Lo) + (1 : Int)))) } : Rg) } : Vis)] : List Vis) := Bk.sl (l := ([({ Field := ((wrapZ .i64 which) % (s.Fields.length : Int)), Week := ma, Seen := ({ Lo := (e.1.Lo + ((wrapZ .i64 sn) % ((e.1.Hi - e.1.Lo) + (1 : Int)))), Hi := (e.1.Lo + ((wrapZ .i64 sn) % ((e.1.Hi - e.1.Lo) + (1 : Int)))) } : Rg) } : Vis)] : List Vis)) Ad (⟨[(Il ((wrapZ .i64 which) % (s.Fields.length : Int))), (Il ma), (Il (e.1.Lo + ((wrapZ .i64 sn) % ((e.1.Hi - e.1.Lo) + (1 : Int))))), (Il (e.1.Lo + ((wrapZ .i64 sn) % ((e.1.Hi - e.1.Lo) + (1 : Int)))))], _, rfl, rfl, rfl⟩) rfl rfl _
     obtain ⟨ag, hp⟩ := gd_some hp
     obtain ⟨Ta, bg, na, cg, dg, xc, Ua⟩ := aa.appL ta57 Wf Zf ag
     have eg := Xf.k xc
     have fg := Yf.k xc
     refine ⟨Ta, bg, cg, ?_⟩
     refine ⟨trivial, ?_⟩
     obtain ⟨gg, hg, ig, yc, Va⟩ := fg.sto1 dg 3 Ta (by simp) rfl
     replace Va : Lb _ _ _ _ _ _ _ [(Il s.Last), ca101, ca102, Ta] := Va
     have jg := eg.k yc
     have Ua := Ua.k yc
     refine ⟨gg, hg, ?_⟩
     refine ⟨_, _, _, _, Va.bk.ra, ?_⟩
     obtain ⟨Ao, zc, ca, kg⟩ := Ua.freeze ig
     have lg := jg.k ca
     obtain ⟨mg, ng, hp⟩ := bsome hp
     refine s_lSeason (s := ({ Last := s.Last, Rules := s.Rules, Fields := s.Fields, Visits := (([] ++ s.Visits) ++ ([({ Field := ((wrapZ .i64 which) % (s.Fields.length : Int)), Week := ma, Seen := ({ Lo := (e.1.Lo + ((wrapZ .i64 sn) % ((e.1.Hi - e.1.Lo) + (1 : Int)))), Hi := (e.1.Lo + ((wrapZ .i64 sn) % ((e.1.Hi - e.1.Lo) + (1 : Int)))) } : Rg) } : Vis)] : List Vis)) } : Ssn)) zc.pre (ha101.sub (Sub.trans (Sub.trans (Sub.trans (Sub.trans (Sub.trans (Sub.trans h.fs n.fs) o.fs) b) q.fs) B.fs) ca.fs)) (ha102.sub (Sub.trans (Sub.trans (Sub.trans (Sub.trans (Sub.trans (Sub.trans h.fs n.fs) o.fs) b) q.fs) B.fs) ca.fs)) kg ng fun Hp Ac Bo Co Do og pg qg rg => ?_
     obtain ⟨Bc, Wa⟩ := zc.callG og na
     have sg := lg.k Wa
     refine ⟨_, _, _, _, rfl, ?_⟩
     try rw [ha102.slLen]
     obtain ⟨Eo, tg, hp⟩ := bsome hp
     refine s_Verdict (s := mg) (field := ((wrapZ .i64 which) % (s.Fields.length : Int))) (limit := ((wrapZ .i64 limit) % (101 : Int))) Bc.pre pg qg rg tg fun Ip ug => ?_
     obtain ⟨oa, vg⟩ := Bc.call ug na
     have Cc := sg.k vg
     refine ⟨_, _, rfl, ?_⟩
     refine ifnd hp (fun Xa hp => ?_) fun Xa hp => ?_
     ·refine ifnd hp (fun wg hp => ?_) fun wg hp => ?_
      ·obtain rfl := Option.some.inj hp
       exact hq _ oa.ext'
      refine ifdkf Xa ?_
      refine gdi hp fun xg hp => ?_
      exact T _ _ _ _ _ Ac na oa (Sub.trans (Sub.trans (Sub.trans (Sub.trans b q.fs) B.fs) ca.fs) Wa.fs) Cc hp
     refine ifdkt Xa ?_
     refine ifd hp (fun zg hp => ?_) fun zg hp => ?_
     ·obtain rfl := Option.some.inj hp
      exact hq _ oa.ext'
     refine gdi hp fun Ag hp => ?_
     exact T _ _ _ _ _ Ac na oa (Sub.trans (Sub.trans (Sub.trans (Sub.trans b q.fs) B.fs) ca.fs) Wa.fs) Cc hp
    obtain ⟨Fo, Ya, hp⟩ := bsome hp
    obtain ⟨ck, Bd, Ab, Ya⟩ := idx_some Ya
    refine ⟨ck, Bd, (by first | exact Ab | (rw [a.slLen]; exact Ab)), _, (a.rdI Ya (Sub.trans b p.sub)), ?_⟩
    refine gdi hp fun Bg hp => ?_
    obtain ⟨Go, Za, hp⟩ := bsome hp
    obtain ⟨dk, Cd, Bb, Za⟩ := idx_some Za
    refine ⟨dk, Cd, (by first | exact Bb | (rw [a.slLen]; exact Bb)), _, (a.rdI Za (Sub.trans b p.sub)), ?_⟩
    refine ifd hp (fun Cg hp => ?_) fun Cg hp => ?_
    ·obtain rfl := Option.some.inj hp
     exact hq _ p.ext'
    intro Jp Dg
    obtain ⟨ab, bb, Eg, Dd⟩ := p.growK Dg G 10
    have Dc := t.k Eg
    have Fg := Dd 0 (by decide)
    refine ⟨_, _, _, _, Dc.bk.ra, ?_⟩
    obtain ⟨Gg, Hg, hp⟩ := bsome hp
    refine s_lSeason (s := s) bb.pre (ha101.sub (Sub.trans (Sub.trans (Sub.trans h.fs n.fs) o.fs) b)) (ha102.sub (Sub.trans (Sub.trans (Sub.trans h.fs n.fs) o.fs) b)) (ha103.sub (Sub.trans (Sub.trans (Sub.trans h.fs n.fs) o.fs) b)) Hg fun Lp Ho Io Jo Ko Ig Jg Kg Lg => ?_
    obtain ⟨cb, r⟩ := bb.callG Ig ab
    have Mg := Dc.k r
    have Ng := Fg.k r
    refine ⟨_, _, _, _, rfl, ?_⟩
    obtain ⟨Og, da, hp⟩ := bsome hp
    obtain ⟨ek, Ed, Cb, da⟩ := idx_some da
    refine ⟨ek, Ed, (by first | exact Cb | (rw [a.slLen]; exact Cb)), _, (a.rdI da (Sub.trans (Sub.trans b r.fs) cb.sub)), (a.rdI da (Sub.trans b bb.sub)), ?_⟩
    try rw [ha102.slLen]
    obtain ⟨g, Pg, hp⟩ := bsome hp
    refine s_Seen (s := Gg) (field := ((wrapZ .i64 which) % (s.Fields.length : Int))) (week := Og) cb.pre Jg Kg Lg Pg fun Np Qg => ?_
    obtain ⟨Sg, Ec⟩ := cb.call Qg ab
    have Tg := Mg.k Ec
    have Ug := Ng.k Ec
    refine ⟨_, _, _, rfl, ?_⟩
    intro Op Vg
    obtain ⟨Fc, Wg, Xg⟩ := Ug.set Sg Vg
    have Gc := Tg.k Wg
    refine ⟨(a.rdI da (Sub.trans (Sub.trans b r.fs) Fc.sub)), (by rw [show allS cmC _ = true from cmL_of (nf_cons rfl (nf_cons ha101.noFn (nf_cons ha102.noFn (nf_cons ha103.noFn nf_nil))))]; exact (Gc.bk.ra)), ?_⟩
    obtain ⟨Zg, ah, ea, bh, D⟩ := Xg.sto Fc [(Il g.1.Lo), (Il g.1.Hi)]
    have Hc := Gc.k bh
    refine ⟨Zg, ah, ?_⟩
    refine ifnd hp (fun ch hp => ?_) fun ch hp => ?_
    ·obtain rfl := Option.some.inj hp
     exact hq _ ea.ext'
    refine ⟨trivial, _, D.bk.rc rfl, trivial, _, D.bk.rc rfl, ?_⟩
    refine ifd hp (fun dh hp => ?_) fun dh hp => ?_
    ·obtain rfl := Option.some.inj hp
     exact hq _ ea.ext'
    refine ⟨trivial, _, D.bk.rc rfl, ?_⟩
    refine ifd hp (fun eh hp => ?_) fun eh hp => ?_
    ·obtain rfl := Option.some.inj hp
     exact hq _ ea.ext'
    refine ⟨trivial, _, D.bk.rc rfl, ?_⟩
    refine ifd hp (fun fh hp => ?_) fun fh hp => ?_
    ·obtain rfl := Option.some.inj hp
     exact hq _ ea.ext'
    refine ⟨trivial, _, D.bk.rc rfl, trivial, _, D.bk.rc rfl, trivial, _, D.bk.rc rfl, ?_⟩
    refine gdi hp fun gh hp => ?_
    refine gdi hp fun hh hp => ?_
    refine gdi hp fun ih hp => ?_
    refine gdi hp fun jh hp => ?_
    refine gdi hp fun kh hp => ?_
    obtain ⟨lh, hp⟩ := gd_some hp
    refine ⟨lh, _, _, _, _, Hc.bk.ra, ?_⟩
    intro Pp mh
    obtain ⟨nh, oh, ph, qh⟩ := ea.blk mh ab 11
    have rh := Hc.k ph
    obtain ⟨Ic, th, uh, vh, wh⟩ := qh.sto oh [(Il s.Last), ca101, ca102, ca103]
    have xh := rh.k vh
    refine ⟨Ic, th, ?_⟩
    intro Qp yh
    obtain ⟨zh, Jc, Kc, Fd⟩ := uh.growK yh nh 12
    have Lc := xh.k Kc
    have Ah := wh.k Kc
    have Bh := Fd 0 (by decide)
    intro Rp Ch
    obtain ⟨No, Nc, db, Dh⟩ := Jc.blk Ch zh 13
    have Oc := Lc.k db
    have Eh := Ah.k db
    have Fh := Bh.k db
    refine ⟨trivial, _, Oc.bk.rc rfl, (by rw [show cmC _ = true from cmC_of (ha103.noFn)]; exact (Lc.bk.rc rfl)), ?_⟩
    have Gh := Lb.ow0 (α := Vis) Dh
    obtain ⟨Hh, hp⟩ := gd_some hp
    obtain ⟨Ih, Jh, Oo, Kh, Pc, eb, fa⟩ := Gh.appL ta57 Nc (ha103.sub (Sub.trans (Sub.trans (Sub.trans (Sub.trans h.fs n.fs) o.fs) b) r.fs)) Hh
    have Lh := Oc.k eb
    have Mh := Eh.k eb
    have Nh := Fh.k eb
    refine ⟨Ih, Jh, Kh, ?_⟩
    obtain ⟨pa, ga, hp⟩ := bsome hp
    obtain ⟨fk, Gd, Db, ga⟩ := idx_some ga
    refine ⟨fk, Gd, (by first | exact Db | (rw [a.slLen]; exact Db)), _, (a.rdI ga (Sub.trans (Sub.trans b r.fs) Pc.sub)), (a.rdI ga (Sub.trans (Sub.trans b r.fs) Nc.sub)), (a.rdI ga (Sub.trans (Sub.trans b r.fs) Jc.sub)), ?_⟩
    intro Sp Oh
    obtain ⟨Ph, fb, Qh⟩ := Nh.set Pc Oh
    have Qc := Lh.k fb
    have Rh := Mh.k fb
    have fa := fa.k fb
    refine ⟨(by rw [show cmC _ = true from cmC_of (ha103.noFn)]; exact (Qc.bk.rc rfl)), ?_⟩
    obtain ⟨Sh, Th, F, Hd⟩ := Qh.freeze Ph
    have Uh := Qc.k F
    have Vh := Rh.k F
    have fa := fa.k F
    have Wh : Sl Sh (C.sl (Ic.nxt + 0) 0 1 0 (Option.some 1)) ([({ Field := ((wrapZ .i64 which) % (s.Fields.length : Int)), Week := pa, Seen := ({ Lo := (g.1.Lo + ((wrapZ .i64 sn) % ((g.1.Hi - g.1.Lo) + (1 : Int)))), Hi := (g.1.Lo + ((wrapZ .i64 sn) % ((g.1.Hi - g.1.Lo) + (1 : Int)))) } : Rg) } : Vis)] : List Vis) := Bk.sl (l := ([({ Field := ((wrapZ .i64 which) % (s.Fields.length : Int)), Week := pa, Seen := ({ Lo := (g.1.Lo + ((wrapZ .i64 sn) % ((g.1.Hi - g.1.Lo) + (1 : Int)))), Hi := (g.1.Lo + ((wrapZ .i64 sn) % ((g.1.Hi - g.1.Lo) + (1 : Int)))) } : Rg) } : Vis)] : List Vis)) Hd (⟨[(Il ((wrapZ .i64 which) % (s.Fields.length : Int))), (Il pa), (Il (g.1.Lo + ((wrapZ .i64 sn) % ((g.1.Hi - g.1.Lo) + (1 : Int))))), (Il (g.1.Lo + ((wrapZ .i64 sn) % ((g.1.Hi - g.1.Lo) + (1 : Int)))))], _, rfl, rfl, rfl⟩) rfl rfl _
    obtain ⟨Xh, hp⟩ := gd_some hp
    obtain ⟨gb, Yh, qa, Zh, ai, Rc, hb⟩ := fa.appL ta57 Th Wh Xh
    have bi := Uh.k Rc
    have ci := Vh.k Rc
    refine ⟨gb, Yh, Zh, ?_⟩
    refine ⟨trivial, ?_⟩
    obtain ⟨di, ei, fi, Tc, ib⟩ := ci.sto1 ai 3 gb (by simp) rfl
    replace ib : Lb _ _ _ _ _ _ _ [(Il s.Last), ca101, ca102, gb] := ib
    have gi := bi.k Tc
    have hb := hb.k Tc
    refine ⟨di, ei, ?_⟩
    refine ⟨_, _, _, _, ib.bk.ra, ?_⟩
    obtain ⟨Po, Uc, ha, hi⟩ := hb.freeze fi
    have ii := gi.k ha
    obtain ⟨ji, ki, hp⟩ := bsome hp
    refine s_lSeason (s := ({ Last := s.Last, Rules := s.Rules, Fields := s.Fields, Visits := (([] ++ s.Visits) ++ ([({ Field := ((wrapZ .i64 which) % (s.Fields.length : Int)), Week := pa, Seen := ({ Lo := (g.1.Lo + ((wrapZ .i64 sn) % ((g.1.Hi - g.1.Lo) + (1 : Int)))), Hi := (g.1.Lo + ((wrapZ .i64 sn) % ((g.1.Hi - g.1.Lo) + (1 : Int)))) } : Rg) } : Vis)] : List Vis)) } : Ssn)) Uc.pre (ha101.sub (Sub.trans (Sub.trans (Sub.trans (Sub.trans (Sub.trans (Sub.trans h.fs n.fs) o.fs) b) r.fs) F.fs) ha.fs)) (ha102.sub (Sub.trans (Sub.trans (Sub.trans (Sub.trans (Sub.trans (Sub.trans h.fs n.fs) o.fs) b) r.fs) F.fs) ha.fs)) hi ki fun Tp Vc Qo Ro So ni oi pi qi => ?_
    obtain ⟨Xc, jb⟩ := Uc.callG ni qa
    have ri := ii.k jb
    refine ⟨_, _, _, _, rfl, ?_⟩
    try rw [ha102.slLen]
    obtain ⟨To, si, hp⟩ := bsome hp
    refine s_Verdict (s := ji) (field := ((wrapZ .i64 which) % (s.Fields.length : Int))) (limit := ((wrapZ .i64 limit) % (101 : Int))) Xc.pre oi pi qi si fun Up ti => ?_
    obtain ⟨sa, ui⟩ := Xc.call ti qa
    have Yc := ri.k ui
    refine ⟨_, _, rfl, ?_⟩
    refine ifnd hp (fun kb hp => ?_) fun kb hp => ?_
    ·refine ifnd hp (fun vi hp => ?_) fun vi hp => ?_
     ·obtain rfl := Option.some.inj hp
      exact hq _ sa.ext'
     refine ifdkf kb ?_
     refine gdi hp fun wi hp => ?_
     exact T _ _ _ _ _ Vc qa sa (Sub.trans (Sub.trans (Sub.trans (Sub.trans b r.fs) F.fs) ha.fs) jb.fs) Yc hp
    refine ifdkt kb ?_
    refine ifd hp (fun xi hp => ?_) fun xi hp => ?_
    ·obtain rfl := Option.some.inj hp
     exact hq _ sa.ext'
    refine gdi hp fun yi hp => ?_
    exact T _ _ _ _ _ Vc qa sa (Sub.trans (Sub.trans (Sub.trans (Sub.trans b r.fs) F.fs) ha.fs) jb.fs) Yc hp
  exact hgo _ _ _ _ _ _ Ia z I (Sub.refl _) t hp
 refine ⟨a.isSl, trivial, _, t.bk.rc rfl, ?_⟩
 refine gdi hp fun gk hp => ?_
 try rw [a.slLen]
 refine ifnd hp (fun hk hp => ?_) fun hk hp => ?_
 ·obtain rfl := Option.some.inj hp
  exact hq _ I.ext'
 intro ik zi
 have hgo : ∀ (mb : Nat) (nb : Bool) (Hb : Bool) (Ib : Bool) (ob : Int) (va : M) (wa : M) (ka : Nat → Nat), St (Fm.of m) f wa va → Sub Ia wa → Lb (Fm.of m) wa ka va 1 m.nxt 4 [(Il s.Last), ca101, ca102, ca103] → pGrowthDecided_L0 s which limit sn td mb nb ob = some rz → ik [.c (.bool nb), .c (.bool Hb), .c (.bool Ib), .c (Il ob)] va := by
  intro mb
  induction mb with
  | zero => intro nb Hb Ib ob va wa ka u d t hp; cases hp
  | succ mb ia =>
   intro nb Hb Ib ob va wa ka u d t hp
   refine zi _ _ _ _ _ ?_
   rw [pGrowthDecided_L0] at hp
   refine ⟨a.isSl, ?_⟩
   try rw [a.slLen]
   refine ifd hp (fun jk hp => ?_) fun jk hp => ?_; rotate_left
   ·obtain ⟨Uo, Ai, hp⟩ := bsome hp
    refine s_awake u.pre  Ai fun Vp Bi => ?_
    obtain ⟨Ci, Vo⟩ := u.call Bi ka
    refine ⟨_, rfl, ?_⟩
    obtain rfl := Option.some.inj hp
    exact hq _ Ci.ext'
   obtain ⟨Wp, Jb, hp⟩ := bsome hp
   obtain ⟨kk, Di, Zc, Jb⟩ := idx_some Jb
   refine ⟨kk, Di, (by first | exact Zc | (rw [a.slLen]; exact Zc)), _, (a.rdI Jb (Sub.trans d u.sub)), ?_⟩
   refine ifd hp (fun mk hp => ?_) fun mk hp => ?_
   ·obtain rfl := Option.some.inj hp
    exact hq _ u.ext'
   obtain ⟨Xp, Kb, hp⟩ := bsome hp
   obtain ⟨nk, Ei, ad, Kb⟩ := idx_some Kb
   refine ⟨nk, Ei, (by first | exact ad | (rw [a.slLen]; exact ad)), _, (a.rdI Kb (Sub.trans d u.sub)), trivial, _, t.bk.rc rfl, ?_⟩
   refine ifd hp (fun ok hp => ?_) fun ok hp => ?_
   ·obtain rfl := Option.some.inj hp
    exact hq _ u.ext'
   refine ifd hp (fun pk hp => ?_) fun pk hp => ?_; rotate_left
   ·intro Yp qk
    obtain ⟨Mb, Nb, sk, Fi⟩ := u.growK qk ka 6
    have Id := t.k sk
    have uk := Fi 0 (by decide)
    refine ⟨_, _, _, _, Id.bk.ra, ?_⟩
    obtain ⟨vk, wk, hp⟩ := bsome hp
    refine s_lSeason (s := s) Nb.pre (ha101.sub (Sub.trans (Sub.trans (Sub.trans h.fs n.fs) o.fs) d)) (ha102.sub (Sub.trans (Sub.trans (Sub.trans h.fs n.fs) o.fs) d)) (ha103.sub (Sub.trans (Sub.trans (Sub.trans h.fs n.fs) o.fs) d)) wk fun Zp aq bq cq dq xk yk zk Ak => ?_
    obtain ⟨Ob, x⟩ := Nb.callG xk Mb
    have Ck := Id.k x
    have Dk := uk.k x
    refine ⟨_, _, _, _, rfl, ?_⟩
    obtain ⟨Ek, xa, hp⟩ := bsome hp
    obtain ⟨Fk, Gi, bd, xa⟩ := idx_some xa
    refine ⟨Fk, Gi, (by first | exact bd | (rw [a.slLen]; exact bd)), _, (a.rdI xa (Sub.trans (Sub.trans d x.fs) Ob.sub)), (a.rdI xa (Sub.trans d Nb.sub)), ?_⟩
    try rw [ha102.slLen]
    obtain ⟨i, Gk, hp⟩ := bsome hp
    refine s_Seen (s := vk) (field := ((wrapZ .i64 which) % (s.Fields.length : Int))) (week := Ek) Ob.pre yk zk Ak Gk fun eq Hk => ?_
    obtain ⟨Ik, Jd⟩ := Ob.call Hk Mb
    have Jk := Ck.k Jd
    have Kk := Dk.k Jd
    refine ⟨_, _, _, rfl, ?_⟩
    intro fq Lk
    obtain ⟨Ld, Mk, Nk⟩ := Kk.set Ik Lk
    have Md := Jk.k Mk
    refine ⟨(a.rdI xa (Sub.trans (Sub.trans d x.fs) Ld.sub)), (by rw [show allS cmC _ = true from cmL_of (nf_cons rfl (nf_cons ha101.noFn (nf_cons ha102.noFn (nf_cons ha103.noFn nf_nil))))]; exact (Md.bk.ra)), ?_⟩
    obtain ⟨Ok, Qk, ya, Sk, J⟩ := Nk.sto Ld [(Il i.1.Lo), (Il i.1.Hi)]
    have Nd := Md.k Sk
    refine ⟨Ok, Qk, ?_⟩
    refine ifnd hp (fun Tk hp => ?_) fun Tk hp => ?_
    ·obtain rfl := Option.some.inj hp
     exact hq _ ya.ext'
    refine ⟨trivial, _, J.bk.rc rfl, trivial, _, J.bk.rc rfl, ?_⟩
    refine ifd hp (fun Uk hp => ?_) fun Uk hp => ?_
    ·obtain rfl := Option.some.inj hp
     exact hq _ ya.ext'
    refine ⟨trivial, _, J.bk.rc rfl, ?_⟩
    refine ifd hp (fun Vk hp => ?_) fun Vk hp => ?_
    ·obtain rfl := Option.some.inj hp
     exact hq _ ya.ext'
    refine ⟨trivial, _, J.bk.rc rfl, ?_⟩
    refine ifd hp (fun Xk hp => ?_) fun Xk hp => ?_
    ·obtain rfl := Option.some.inj hp
     exact hq _ ya.ext'
    refine ⟨trivial, _, J.bk.rc rfl, trivial, _, J.bk.rc rfl, trivial, _, J.bk.rc rfl, ?_⟩
    refine gdi hp fun Yk hp => ?_
    refine gdi hp fun Zk hp => ?_
    refine gdi hp fun al hp => ?_
    refine gdi hp fun bl hp => ?_
    refine gdi hp fun cl hp => ?_
    obtain ⟨dl, hp⟩ := gd_some hp
    refine ⟨dl, _, _, _, _, Nd.bk.ra, ?_⟩
    intro gq el
    obtain ⟨fl, gl, hl, il⟩ := ya.blk el Mb 7
    have jl := Nd.k hl
    obtain ⟨Od, kl, ll, ml, nl⟩ := il.sto gl [(Il s.Last), ca101, ca102, ca103]
    have ol := jl.k ml
    refine ⟨Od, kl, ?_⟩
    intro iq pl
    obtain ⟨ql, Pd, Qd, Ii⟩ := ll.growK pl fl 8
    have Rd := ol.k Qd
    have rl := nl.k Qd
    have tl := Ii 0 (by decide)
    intro jq ul
    obtain ⟨kq, Sd, Pb, vl⟩ := Pd.blk ul ql 9
    have Td := Rd.k Pb
    have wl := rl.k Pb
    have xl := tl.k Pb
    refine ⟨trivial, _, Td.bk.rc rfl, (by rw [show cmC _ = true from cmC_of (ha103.noFn)]; exact (Rd.bk.rc rfl)), ?_⟩
    have yl := Lb.ow0 (α := Vis) vl
    obtain ⟨zl, hp⟩ := gd_some hp
    obtain ⟨Al, Bl, lq, Cl, Ud, Qb, za⟩ := yl.appL ta57 Sd (ha103.sub (Sub.trans (Sub.trans (Sub.trans (Sub.trans h.fs n.fs) o.fs) d) x.fs)) zl
    have Dl := Td.k Qb
    have El := wl.k Qb
    have Fl := xl.k Qb
    refine ⟨Al, Bl, Cl, ?_⟩
    obtain ⟨pb, Aa, hp⟩ := bsome hp
    obtain ⟨Gl, Ji, cd, Aa⟩ := idx_some Aa
    refine ⟨Gl, Ji, (by first | exact cd | (rw [a.slLen]; exact cd)), _, (a.rdI Aa (Sub.trans (Sub.trans d x.fs) Ud.sub)), (a.rdI Aa (Sub.trans (Sub.trans d x.fs) Sd.sub)), (a.rdI Aa (Sub.trans (Sub.trans d x.fs) Pd.sub)), ?_⟩
    intro mq Hl
    obtain ⟨Jl, Rb, Kl⟩ := Fl.set Ud Hl
    have Vd := Dl.k Rb
    have Ll := El.k Rb
    have za := za.k Rb
    refine ⟨(by rw [show cmC _ = true from cmC_of (ha103.noFn)]; exact (Vd.bk.rc rfl)), ?_⟩
    obtain ⟨Ml, Nl, N, Ki⟩ := Kl.freeze Jl
    have Ol := Vd.k N
    have Pl := Ll.k N
    have za := za.k N
    have Ql : Sl Ml (C.sl (Od.nxt + 0) 0 1 0 (Option.some 1)) ([({ Field := ((wrapZ .i64 which) % (s.Fields.length : Int)), Week := pb, Seen := ({ Lo := (i.1.Lo + ((wrapZ .i64 sn) % ((i.1.Hi - i.1.Lo) + (1 : Int)))), Hi := (i.1.Lo + ((wrapZ .i64 sn) % ((i.1.Hi - i.1.Lo) + (1 : Int)))) } : Rg) } : Vis)] : List Vis) := Bk.sl (l := ([({ Field := ((wrapZ .i64 which) % (s.Fields.length : Int)), Week := pb, Seen := ({ Lo := (i.1.Lo + ((wrapZ .i64 sn) % ((i.1.Hi - i.1.Lo) + (1 : Int)))), Hi := (i.1.Lo + ((wrapZ .i64 sn) % ((i.1.Hi - i.1.Lo) + (1 : Int)))) } : Rg) } : Vis)] : List Vis)) Ki (⟨[(Il ((wrapZ .i64 which) % (s.Fields.length : Int))), (Il pb), (Il (i.1.Lo + ((wrapZ .i64 sn) % ((i.1.Hi - i.1.Lo) + (1 : Int))))), (Il (i.1.Lo + ((wrapZ .i64 sn) % ((i.1.Hi - i.1.Lo) + (1 : Int)))))], _, rfl, rfl, rfl⟩) rfl rfl _
    obtain ⟨Rl, hp⟩ := gd_some hp
    obtain ⟨Sb, Tl, qb, Ul, Vl, Wd, Tb⟩ := za.appL ta57 Nl Ql Rl
    have Wl := Ol.k Wd
    have Xl := Pl.k Wd
    refine ⟨Sb, Tl, Ul, ?_⟩
    refine ⟨trivial, ?_⟩
    obtain ⟨Yl, Zl, am, Xd, Ub⟩ := Xl.sto1 Vl 3 Sb (by simp) rfl
    replace Ub : Lb _ _ _ _ _ _ _ [(Il s.Last), ca101, ca102, Sb] := Ub
    have bm := Wl.k Xd
    have Tb := Tb.k Xd
    refine ⟨Yl, Zl, ?_⟩
    refine ⟨_, _, _, _, Ub.bk.ra, ?_⟩
    obtain ⟨nq, Yd, Ba, cm⟩ := Tb.freeze am
    have dm := bm.k Ba
    obtain ⟨em, fm, hp⟩ := bsome hp
    refine s_lSeason (s := ({ Last := s.Last, Rules := s.Rules, Fields := s.Fields, Visits := (([] ++ s.Visits) ++ ([({ Field := ((wrapZ .i64 which) % (s.Fields.length : Int)), Week := pb, Seen := ({ Lo := (i.1.Lo + ((wrapZ .i64 sn) % ((i.1.Hi - i.1.Lo) + (1 : Int)))), Hi := (i.1.Lo + ((wrapZ .i64 sn) % ((i.1.Hi - i.1.Lo) + (1 : Int)))) } : Rg) } : Vis)] : List Vis)) } : Ssn)) Yd.pre (ha101.sub (Sub.trans (Sub.trans (Sub.trans (Sub.trans (Sub.trans (Sub.trans h.fs n.fs) o.fs) d) x.fs) N.fs) Ba.fs)) (ha102.sub (Sub.trans (Sub.trans (Sub.trans (Sub.trans (Sub.trans (Sub.trans h.fs n.fs) o.fs) d) x.fs) N.fs) Ba.fs)) cm fm fun oq dd Wo Xo Yo Ni Oi Pi Qi => ?_
    obtain ⟨Zd, rb⟩ := Yd.callG Ni qb
    have Ri := dm.k rb
    refine ⟨_, _, _, _, rfl, ?_⟩
    try rw [ha102.slLen]
    obtain ⟨Zo, Si, hp⟩ := bsome hp
    refine s_Verdict (s := em) (field := ((wrapZ .i64 which) % (s.Fields.length : Int))) (limit := ((wrapZ .i64 limit) % (101 : Int))) Zd.pre Oi Pi Qi Si fun pq Ti => ?_
    obtain ⟨ta, Ui⟩ := Zd.call Ti qb
    have ed := Ri.k Ui
    refine ⟨_, _, rfl, ?_⟩
    refine ifnd hp (fun sb hp => ?_) fun sb hp => ?_
    ·refine ifnd hp (fun Vi hp => ?_) fun Vi hp => ?_
     ·obtain rfl := Option.some.inj hp
      exact hq _ ta.ext'
     refine ifdkf sb ?_
     refine gdi hp fun Xi hp => ?_
     exact ia _ _ _ _ _ dd qb ta (Sub.trans (Sub.trans (Sub.trans (Sub.trans d x.fs) N.fs) Ba.fs) rb.fs) ed hp
    refine ifdkt sb ?_
    refine ifd hp (fun Yi hp => ?_) fun Yi hp => ?_
    ·obtain rfl := Option.some.inj hp
     exact hq _ ta.ext'
    refine gdi hp fun Zi hp => ?_
    exact ia _ _ _ _ _ dd qb ta (Sub.trans (Sub.trans (Sub.trans (Sub.trans d x.fs) N.fs) Ba.fs) rb.fs) ed hp
   obtain ⟨qq, Vb, hp⟩ := bsome hp
   obtain ⟨gm, aj, fd, Vb⟩ := idx_some Vb
   refine ⟨gm, aj, (by first | exact fd | (rw [a.slLen]; exact fd)), _, (a.rdI Vb (Sub.trans d u.sub)), ?_⟩
   refine gdi hp fun hm hp => ?_
   obtain ⟨rq, Wb, hp⟩ := bsome hp
   obtain ⟨im, bj, hd, Wb⟩ := idx_some Wb
   refine ⟨im, bj, (by first | exact hd | (rw [a.slLen]; exact hd)), _, (a.rdI Wb (Sub.trans d u.sub)), ?_⟩
   refine ifd hp (fun jm hp => ?_) fun jm hp => ?_
   ·obtain rfl := Option.some.inj hp
    exact hq _ u.ext'
   intro sq km
   obtain ⟨Xb, Yb, lm, cj⟩ := u.growK km ka 2
   have ae := t.k lm
   have mm := cj 0 (by decide)
   refine ⟨_, _, _, _, ae.bk.ra, ?_⟩
   obtain ⟨nm, om, hp⟩ := bsome hp
   refine s_lSeason (s := s) Yb.pre (ha101.sub (Sub.trans (Sub.trans (Sub.trans h.fs n.fs) o.fs) d)) (ha102.sub (Sub.trans (Sub.trans (Sub.trans h.fs n.fs) o.fs) d)) (ha103.sub (Sub.trans (Sub.trans (Sub.trans h.fs n.fs) o.fs) d)) om fun tq uq vq wq xq pm qm rm sm => ?_
   obtain ⟨Zb, y⟩ := Yb.callG pm Xb
   have tm := ae.k y
   have um := mm.k y
   refine ⟨_, _, _, _, rfl, ?_⟩
   obtain ⟨vm, Ca, hp⟩ := bsome hp
   obtain ⟨wm, dj, id, Ca⟩ := idx_some Ca
   refine ⟨wm, dj, (by first | exact id | (rw [a.slLen]; exact id)), _, (a.rdI Ca (Sub.trans (Sub.trans d y.fs) Zb.sub)), (a.rdI Ca (Sub.trans d Yb.sub)), ?_⟩
   try rw [ha102.slLen]
   obtain ⟨j, xm, hp⟩ := bsome hp
   refine s_Seen (s := nm) (field := ((wrapZ .i64 which) % (s.Fields.length : Int))) (week := vm) Zb.pre qm rm sm xm fun yq ym => ?_
   obtain ⟨zm, be⟩ := Zb.call ym Xb
   have Am := tm.k be
   have Bm := um.k be
   refine ⟨_, _, _, rfl, ?_⟩
   intro zq Cm
   obtain ⟨ce, Em, Gm⟩ := Bm.set zm Cm
   have de := Am.k Em
   refine ⟨(a.rdI Ca (Sub.trans (Sub.trans d y.fs) ce.sub)), (by rw [show allS cmC _ = true from cmL_of (nf_cons rfl (nf_cons ha101.noFn (nf_cons ha102.noFn (nf_cons ha103.noFn nf_nil))))]; exact (de.bk.ra)), ?_⟩
   obtain ⟨Hm, Im, Da, Jm, O⟩ := Gm.sto ce [(Il j.1.Lo), (Il j.1.Hi)]
   have ee := de.k Jm
   refine ⟨Hm, Im, ?_⟩
   refine ifnd hp (fun Km hp => ?_) fun Km hp => ?_
   ·obtain rfl := Option.some.inj hp
    exact hq _ Da.ext'
   refine ⟨trivial, _, O.bk.rc rfl, trivial, _, O.bk.rc rfl, ?_⟩
   refine ifd hp (fun Lm hp => ?_) fun Lm hp => ?_
   ·obtain rfl := Option.some.inj hp
    exact hq _ Da.ext'
   refine ⟨trivial, _, O.bk.rc rfl, ?_⟩
   refine ifd hp (fun Mm hp => ?_) fun Mm hp => ?_
   ·obtain rfl := Option.some.inj hp
    exact hq _ Da.ext'
   refine ⟨trivial, _, O.bk.rc rfl, ?_⟩
   refine ifd hp (fun Nm hp => ?_) fun Nm hp => ?_
   ·obtain rfl := Option.some.inj hp
    exact hq _ Da.ext'
   refine ⟨trivial, _, O.bk.rc rfl, trivial, _, O.bk.rc rfl, trivial, _, O.bk.rc rfl, ?_⟩
   refine gdi hp fun Om hp => ?_
   refine gdi hp fun Pm hp => ?_
   refine gdi hp fun Qm hp => ?_
   refine gdi hp fun Rm hp => ?_
   refine gdi hp fun Sm hp => ?_
   obtain ⟨Tm, hp⟩ := gd_some hp
   refine ⟨Tm, _, _, _, _, ee.bk.ra, ?_⟩
   intro Aq Um
   obtain ⟨Vm, Wm, Xm, Ym⟩ := Da.blk Um Xb 3
   have Zm := ee.k Xm
   obtain ⟨fe, an, bn, cn, dn⟩ := Ym.sto Wm [(Il s.Last), ca101, ca102, ca103]
   have en := Zm.k cn
   refine ⟨fe, an, ?_⟩
   intro Bq fn
   obtain ⟨gn, ge, he, ej⟩ := bn.growK fn Vm 4
   have ie := en.k he
   have hn := dn.k he
   have jn := ej 0 (by decide)
   intro Cq kn
   obtain ⟨Dq, je, ac, ln⟩ := ge.blk kn gn 5
   have ke := ie.k ac
   have nn := hn.k ac
   have pn := jn.k ac
   refine ⟨trivial, _, ke.bk.rc rfl, (by rw [show cmC _ = true from cmC_of (ha103.noFn)]; exact (ie.bk.rc rfl)), ?_⟩
   have qn := Lb.ow0 (α := Vis) ln
   obtain ⟨rn, hp⟩ := gd_some hp
   obtain ⟨tn, un, Eq, vn, me, bc, Ea⟩ := qn.appL ta57 je (ha103.sub (Sub.trans (Sub.trans (Sub.trans (Sub.trans h.fs n.fs) o.fs) d) y.fs)) rn
   have wn := ke.k bc
   have xn := nn.k bc
   have yn := pn.k bc
   refine ⟨tn, un, vn, ?_⟩
   obtain ⟨tb, Fa, hp⟩ := bsome hp
   obtain ⟨zn, fj, jd, Fa⟩ := idx_some Fa
   refine ⟨zn, fj, (by first | exact jd | (rw [a.slLen]; exact jd)), _, (a.rdI Fa (Sub.trans (Sub.trans d y.fs) me.sub)), (a.rdI Fa (Sub.trans (Sub.trans d y.fs) je.sub)), (a.rdI Fa (Sub.trans (Sub.trans d y.fs) ge.sub)), ?_⟩
   intro Fq An
   obtain ⟨Bn, cc, Cn⟩ := yn.set me An
   have oe := wn.k cc
   have Dn := xn.k cc
   have Ea := Ea.k cc
   refine ⟨(by rw [show cmC _ = true from cmC_of (ha103.noFn)]; exact (oe.bk.rc rfl)), ?_⟩
   obtain ⟨En, Fn, P, gj⟩ := Cn.freeze Bn
   have Gn := oe.k P
   have Hn := Dn.k P
   have Ea := Ea.k P
   have In : Sl En (C.sl (fe.nxt + 0) 0 1 0 (Option.some 1)) ([({ Field := ((wrapZ .i64 which) % (s.Fields.length : Int)), Week := tb, Seen := ({ Lo := (j.1.Lo + ((wrapZ .i64 sn) % ((j.1.Hi - j.1.Lo) + (1 : Int)))), Hi := (j.1.Lo + ((wrapZ .i64 sn) % ((j.1.Hi - j.1.Lo) + (1 : Int)))) } : Rg) } : Vis)] : List Vis) := Bk.sl (l := ([({ Field := ((wrapZ .i64 which) % (s.Fields.length : Int)), Week := tb, Seen := ({ Lo := (j.1.Lo + ((wrapZ .i64 sn) % ((j.1.Hi - j.1.Lo) + (1 : Int)))), Hi := (j.1.Lo + ((wrapZ .i64 sn) % ((j.1.Hi - j.1.Lo) + (1 : Int)))) } : Rg) } : Vis)] : List Vis)) gj (⟨[(Il ((wrapZ .i64 which) % (s.Fields.length : Int))), (Il tb), (Il (j.1.Lo + ((wrapZ .i64 sn) % ((j.1.Hi - j.1.Lo) + (1 : Int))))), (Il (j.1.Lo + ((wrapZ .i64 sn) % ((j.1.Hi - j.1.Lo) + (1 : Int)))))], _, rfl, rfl, rfl⟩) rfl rfl _
   obtain ⟨Jn, hp⟩ := gd_some hp
   obtain ⟨dc, Kn, ub, Ln, Nn, pe, ec⟩ := Ea.appL ta57 Fn In Jn
   have On := Gn.k pe
   have Pn := Hn.k pe
   refine ⟨dc, Kn, Ln, ?_⟩
   refine ⟨trivial, ?_⟩
   obtain ⟨Rn, Sn, Tn, qe, fc⟩ := Pn.sto1 Nn 3 dc (by simp) rfl
   replace fc : Lb _ _ _ _ _ _ _ [(Il s.Last), ca101, ca102, dc] := fc
   have Un := On.k qe
   have ec := ec.k qe
   refine ⟨Rn, Sn, ?_⟩
   refine ⟨_, _, _, _, fc.bk.ra, ?_⟩
   obtain ⟨Gq, re, Ga, Vn⟩ := ec.freeze Tn
   have Wn := Un.k Ga
   obtain ⟨Xn, Yn, hp⟩ := bsome hp
   refine s_lSeason (s := ({ Last := s.Last, Rules := s.Rules, Fields := s.Fields, Visits := (([] ++ s.Visits) ++ ([({ Field := ((wrapZ .i64 which) % (s.Fields.length : Int)), Week := tb, Seen := ({ Lo := (j.1.Lo + ((wrapZ .i64 sn) % ((j.1.Hi - j.1.Lo) + (1 : Int)))), Hi := (j.1.Lo + ((wrapZ .i64 sn) % ((j.1.Hi - j.1.Lo) + (1 : Int)))) } : Rg) } : Vis)] : List Vis)) } : Ssn)) re.pre (ha101.sub (Sub.trans (Sub.trans (Sub.trans (Sub.trans (Sub.trans (Sub.trans h.fs n.fs) o.fs) d) y.fs) P.fs) Ga.fs)) (ha102.sub (Sub.trans (Sub.trans (Sub.trans (Sub.trans (Sub.trans (Sub.trans h.fs n.fs) o.fs) d) y.fs) P.fs) Ga.fs)) Vn Yn fun Hq se Iq Jq Kq Zn ao bo co => ?_
   obtain ⟨te, gc⟩ := re.callG Zn ub
   have eo := Wn.k gc
   refine ⟨_, _, _, _, rfl, ?_⟩
   try rw [ha102.slLen]
   obtain ⟨Lq, fo, hp⟩ := bsome hp
   refine s_Verdict (s := Xn) (field := ((wrapZ .i64 which) % (s.Fields.length : Int))) (limit := ((wrapZ .i64 limit) % (101 : Int))) te.pre ao bo co fo fun Mq go => ?_
   obtain ⟨vb, ho⟩ := te.call go ub
   have ue := eo.k ho
   refine ⟨_, _, rfl, ?_⟩
   refine ifnd hp (fun hc hp => ?_) fun hc hp => ?_
   ·refine ifnd hp (fun io hp => ?_) fun io hp => ?_
    ·obtain rfl := Option.some.inj hp
     exact hq _ vb.ext'
    refine ifdkf hc ?_
    refine gdi hp fun jo hp => ?_
    exact ia _ _ _ _ _ se ub vb (Sub.trans (Sub.trans (Sub.trans (Sub.trans d y.fs) P.fs) Ga.fs) gc.fs) ue hp
   refine ifdkt hc ?_
   refine ifd hp (fun ko hp => ?_) fun ko hp => ?_
   ·obtain rfl := Option.some.inj hp
    exact hq _ vb.ext'
   refine gdi hp fun lo hp => ?_
   exact ia _ _ _ _ _ se ub vb (Sub.trans (Sub.trans (Sub.trans (Sub.trans d y.fs) P.fs) Ga.fs) gc.fs) ue hp
 exact hgo _ _ _ _ _ _ Ia z I (Sub.refl _) t hp
end
end Go.Proofs.Ytmlaphekbnanjaa

namespace Go.Proofs.Ytmlaphekbnanjaa
open _root_.Go.Proofs.Try
open Go.Abs Go.Abs.Grow
set_option maxRecDepth 100000
noncomputable section
def Wi (r : Rg) (lo hi : Int) : Prop := lo ≤ r.Lo ∧ r.Lo ≤ r.Hi ∧ r.Hi ≤ hi
def inR (r : Rg) (n : Int) : Prop := r.Lo ≤ n ∧ n ≤ r.Hi
def cnt (r : Rg) : Int := r.Hi - r.Lo + 1
def manyN (f : Fld) : Int := cnt f.Week * cnt f.Damage * cnt f.Old
structure VF (s : Ssn) (f : Fld) : Prop where
 crp : 0 ≤ f.Crop ∧ f.Crop < s.Rules.length
 wk : Wi f.Week 0 s.Last
 dm : Wi f.Damage 0 100
 old : Wi f.Old 0 100
def VV (s : Ssn) (v : Vis) : Prop := (0 ≤ v.Field ∧ v.Field < s.Fields.length) ∧ (0 ≤ v.Week ∧ v.Week ≤ s.Last) ∧ Wi v.Seen 0 100
def VRu (s : Ssn) (l : List Int) : Prop := (l.length : Int) = s.Last + 1 ∧ ∀ x ∈ l, 0 ≤ x ∧ x ≤ 100
def ManyS (s : Ssn) : Prop := 12 < s.Last ∨ 3 < s.Rules.length ∨ 3 < s.Fields.length ∨ 6 < s.Visits.length
structure VS0 (s : Ssn) : Prop where
 last : 0 ≤ s.Last
 rne : 0 < s.Rules.length
 fne : 0 < s.Fields.length
 rules : ∀ l ∈ s.Rules, VRu s l
 flds : ∀ f ∈ s.Fields, VF s f
 vis : ∀ v ∈ s.Visits, VV s v
def FewS (s : Ssn) : Prop := ∀ f ∈ s.Fields, manyN f ≤ 3000
open Classical in
def faultN (s : Ssn) : Int := if ManyS s then 3 else if VS0 s then (if FewS s then 0 else 3) else 1
structure VS (s : Ssn) : Prop extends VS0 s where
 many : ¬ ManyS s
 few : FewS s
theorem fault_zero {s : Ssn} : faultN s = 0 ↔ VS s := by
 unfold faultN
 split
 ·rename_i h; exact ⟨fun h => by omega, fun h' => absurd h h'.many⟩
 ·rename_i h
  split
  ·rename_i h2
   split
   ·rename_i h3; exact ⟨fun _ => ⟨h2, h, h3⟩, fun _ => rfl⟩
   ·rename_i h3; exact ⟨fun h => by omega, fun h' => absurd h'.few h3⟩
  ·rename_i h2; exact ⟨fun h => by omega, fun h' => absurd h'.toVS0 h2⟩
theorem not_many {s : Ssn} (h : ¬ ManyS s) : s.Last ≤ 12 ∧ s.Rules.length ≤ 3 ∧ s.Fields.length ≤ 3 ∧ s.Visits.length ≤ 6 := by
 unfold ManyS at h; omega
theorem In_ev {n lo hi : Int} : Ev (prIn n lo hi) (lo ≤ n ∧ n ≤ hi) := Ev.ite fun _ => Ev.dec Iff.rfl
theorem has_ev {r : Rg} {n : Int} : Ev (phas r n) (inR r n) := Ev.ite fun _ => Ev.dec Iff.rfl
theorem rWithin_ev {r : Rg} {lo hi : Int} : Ev (prWithin r lo hi) (Wi r lo hi) := Ev.ite fun _ => Ev.ite fun _ => Ev.dec Iff.rfl
theorem within_ev {r : Rg} {lo hi : Int} : Ev (pwithin r lo hi) (Wi r lo hi) := Ev.ite fun _ => Ev.ite fun _ => Ev.dec Iff.rfl
theorem isH_ev {n : Int} : Ev (pisHundredths n) (0 ≤ n ∧ n ≤ 100) := has_ev.ret
theorem hasField_ev {s : Ssn} (h : s.Fields.length ≤ 1000000) {n : Int} : Ev (phasField s n) (0 ≤ n ∧ n < s.Fields.length) := Ev.gd (fI (by omega)) (has_ev.ret.imp (by show 0 ≤ n ∧ n ≤ _ - 1 ↔ _; omega))
theorem hasWeek_ev {s : Ssn} {n : Int} : Ev (phasWeek s n) (0 ≤ n ∧ n ≤ s.Last) := has_ev.ret
theorem tooMany_ev {s : Ssn} : Ev (ptooMany s) (ManyS s) := by
 unfold ptooMany ManyS
 by_cases h1 : (12 : Int) < s.Last
 ·rw [if_pos h1]; exact Ev.tt (.inl h1)
 rw [if_neg h1]
 by_cases h2 : (3 : Int) < (s.Rules.length : Int)
 ·rw [if_pos h2]; exact Ev.tt (.inr (.inl (by omega)))
 rw [if_neg h2]
 by_cases h3 : (3 : Int) < (s.Fields.length : Int)
 ·rw [if_pos h3]; exact Ev.tt (.inr (.inr (.inl (by omega))))
 rw [if_neg h3]; exact Ev.dec (by omega)
theorem gI {l : List Int} {p : Int → Option Bool} : ∀ {d : Nat} {x : Int}, pindexI_L0 l p d x = gIdx l p d x
 | 0, _ => rfl
 | d + 1, x => by unfold pindexI_L0 gIdx; simp only [gI (d := d)]
theorem gL {l : List (List Int)} {p : List Int → Option Bool} : ∀ {d : Nat} {x : Int}, pindexL_L0 l p d x = gIdx l p d x
 | 0, _ => rfl
 | d + 1, x => by unfold pindexL_L0 gIdx; simp only [gL (d := d)]
theorem gF {l : List Fld} {p : Fld → Option Bool} : ∀ {d : Nat} {x : Int}, pindexF_L0 l p d x = gIdx l p d x
 | 0, _ => rfl
 | d + 1, x => by unfold pindexF_L0 gIdx; simp only [gF (d := d)]
theorem gV {l : List Vis} {p : Vis → Option Bool} : ∀ {d : Nat} {x : Int}, pindexV_L0 l p d x = gIdx l p d x
 | 0, _ => rfl
 | d + 1, x => by unfold pindexV_L0 gIdx; simp only [gV (d := d)]
theorem gD {l : List Dm} {p : Dm → Option Bool} : ∀ {d : Nat} {x : Int}, pindexD_L0 l p d x = gIdx l p d x
 | 0, _ => rfl
 | d + 1, x => by unfold pindexD_L0 gIdx; simp only [gD (d := d)]
theorem eachI_ev {l : List Int} {p : Int → Option Bool} {q : Int → Prop} (hp : ∀ a ∈ l, Ev (p a) (q a)) (hl : shrt l) : Ev (peachI l p) (∀ a ∈ l, q a) := Ev.each hp hl.lt gI
theorem eachL_ev {l : List (List Int)} {p : List Int → Option Bool} {q : List Int → Prop} (hp : ∀ a ∈ l, Ev (p a) (q a)) (hl : shrt l) : Ev (peachL l p) (∀ a ∈ l, q a) := Ev.each hp hl.lt gL
theorem eachF_ev {l : List Fld} {p : Fld → Option Bool} {q : Fld → Prop} (hp : ∀ a ∈ l, Ev (p a) (q a)) (hl : shrt l) : Ev (peachF l p) (∀ a ∈ l, q a) := Ev.each hp hl.lt gF
theorem eachV_ev {l : List Vis} {p : Vis → Option Bool} {q : Vis → Prop} (hp : ∀ a ∈ l, Ev (p a) (q a)) (hl : shrt l) : Ev (peachV l p) (∀ a ∈ l, q a) := Ev.each hp hl.lt gV
theorem eachD_ev {l : List Dm} {p : Dm → Option Bool} {q : Dm → Prop} (hp : ∀ a ∈ l, Ev (p a) (q a)) (hl : shrt l) : Ev (peachD l p) (∀ a ∈ l, q a) := Ev.each hp hl.lt gD
theorem containsD_ev {l : List Dm} {p : Dm → Option Bool} {q : Dm → Prop} (hp : ∀ a ∈ l, Ev (p a) (q a)) (hl : shrt l) : Ev (pcontainsD l p) (∃ a ∈ l, q a) := Ev.contains hp hl.lt gD
theorem cnt_rng {r : Rg} {lo hi : Int} (h : Wi r lo hi) : 1 ≤ cnt r ∧ cnt r ≤ hi - lo + 1 := by unfold Wi at h; unfold cnt; omega
theorem count_eq {r : Rg} (h : Wi r (-1000) 1000) : pcount r = some (cnt r) := by
 unfold Wi at h
 unfold pcount
 rw [gd_pos (fI (by omega)), gd_pos (fI (by omega))]; rfl
theorem rCount_eq {r : Rg} (h : Wi r (-1000) 1000) : prCount r = some (cnt r) := by
 unfold Wi at h
 unfold prCount
 rw [gd_pos (fI (by omega)), gd_pos (fI (by omega))]; rfl
theorem Wi.w {r : Rg} {lo hi : Int} (h : Wi r lo hi) (h1 : -1000 ≤ lo) (h2 : hi ≤ 1000) : Wi r (-1000) 1000 := by unfold Wi at h ⊢; omega
theorem mul_rng {a b A B : Int} (ha : 1 ≤ a ∧ a ≤ A) (hb : 1 ≤ b ∧ b ≤ B) : 1 ≤ a * b ∧ a * b ≤ A * B := by
 have h1 : 1 * 1 ≤ a * b := Int.mul_le_mul ha.1 hb.1 (by omega) (by omega)
 have h2 : a * b ≤ A * B := Int.mul_le_mul ha.2 hb.2 (by omega) (by omega)
 omega
theorem many_rng {s : Ssn} {f : Fld} (h : VF s f) (hl : s.Last ≤ 12) : (1 ≤ cnt f.Week ∧ cnt f.Week ≤ 13) ∧ (1 ≤ cnt f.Damage ∧ cnt f.Damage ≤ 101) ∧ (1 ≤ cnt f.Old ∧ cnt f.Old ≤ 101) ∧ (1 ≤ cnt f.Week * cnt f.Damage ∧ cnt f.Week * cnt f.Damage ≤ 1313) ∧ 1 ≤ manyN f ∧ manyN f ≤ 132613 := by
 have h1 := cnt_rng h.wk
 have h2 := cnt_rng h.dm
 have h3 := cnt_rng h.old
 have h4 := mul_rng (A := 13) (B := 101) (a := cnt f.Week) (b := cnt f.Damage) (by omega) (by omega)
 have h5 := mul_rng (A := 1313) (B := 101) (a := cnt f.Week * cnt f.Damage) (b := cnt f.Old) (by omega) (by omega)
 exact ⟨by omega, by omega, by omega, by omega, by unfold manyN; omega⟩
theorem rMany_eq {s : Ssn} {f : Fld} (h : VF s f) (hl : s.Last ≤ 12) : prMany f = some (manyN f) := by
 obtain ⟨h1, h2, h3, h4, h5⟩ := many_rng h hl
 unfold prMany
 unfold manyN at h5 ⊢
 rw [rCount_eq (h.wk.w (by omega) (by omega)), Option.bind_some, rCount_eq (h.dm.w (by omega) (by omega)), Option.bind_some, gd_pos (by omega), gd_pos (by omega), gd_pos (fI (by omega)), rCount_eq (h.old.w (by omega) (by omega)), Option.bind_some, gd_pos (by omega), gd_pos (by omega), gd_pos (fI (by omega))]
theorem hasFew_ev {s : Ssn} {f : Fld} (h : VF s f) (hl : s.Last ≤ 12) : Ev (phasFew f) (manyN f ≤ 3000) := by
 obtain ⟨h1, h2, h3, h4, h5⟩ := many_rng h hl
 unfold phasFew
 unfold manyN at h5 ⊢
 rw [count_eq (h.wk.w (by omega) (by omega)), Option.bind_some, count_eq (h.dm.w (by omega) (by omega)), Option.bind_some, gd_pos (by omega), gd_pos (by omega), gd_pos (fI (by omega)), count_eq (h.old.w (by omega) (by omega)), Option.bind_some, gd_pos (by omega), gd_pos (by omega), gd_pos (fI (by omega))]
 exact Ev.dec Iff.rfl
theorem validRule_ev {s : Ssn} (h : ¬ ManyS s) (h0 : 0 ≤ s.Last) {l : List Int} : Ev (pvalidRule s l) (VRu s l) := by
 obtain ⟨h1, _⟩ := not_many h
 exact Ev.gd (fI (by omega)) (Ev.ite fun hl => (eachI_ev (q := fun r => 0 ≤ r ∧ r ≤ 100) (fun _ _ => isH_ev) (fewS (n := 13) (by omega) (by omega))).ret)
theorem validField_ev {s : Ssn} (h : ¬ ManyS s) {f : Fld} : Ev (pvalidField s f) (VF s f) := by
 obtain ⟨_, h1, _⟩ := not_many h
 refine Ev.gd (fI (by omega)) ((Ev.and has_ev fun _ => Ev.and within_ev fun _ => Ev.and within_ev fun _ => within_ev.ret).imp ?_)
 exact ⟨fun ⟨a, b, c, d⟩ => ⟨by unfold inR at a; dsimp only at a; omega, b, c, d⟩, fun q => ⟨by have := q.crp; show 0 ≤ _ ∧ _ ≤ _ - 1; omega, q.wk, q.dm, q.old⟩⟩
theorem validVisit_ev {s : Ssn} (h : ¬ ManyS s) {v : Vis} : Ev (pvalidVisit s v) (VV s v) := by
 obtain ⟨_, _, h1, _⟩ := not_many h
 exact Ev.and (hasField_ev (by omega)) fun _ => Ev.and hasWeek_ev fun _ => within_ev.ret
theorem valid_ev {s : Ssn} (h : ¬ ManyS s) : Ev (pvalid s) (VS0 s) := by
 obtain ⟨h1, h2, h3, h4⟩ := not_many h
 refine (Ev.ite fun q1 => Ev.ite fun q2 => Ev.ite fun q3 => Ev.and (eachL_ev (fun _ _ => validRule_ev h q1) (fewS h2 (by omega))) fun _ => Ev.and (eachF_ev (fun _ _ => validField_ev h) (fewS h3 (by omega))) fun _ => (eachV_ev (fun _ _ => validVisit_ev h) (fewS h4 (by omega))).ret).imp ?_
 exact ⟨fun ⟨a, b, c, d, e, g⟩ => ⟨a, by omega, by omega, d, e, g⟩, fun q => ⟨q.last, by have := q.rne; omega, by have := q.fne; omega, q.rules, q.flds, q.vis⟩⟩
theorem check_eq {s : Ssn} : pcheck s = some (faultN s) := by
 unfold pcheck faultN
 refine tooMany_ev.pick (fun h => ?_) fun h => ?_
 ·rw [if_pos rfl, if_pos h]
 ·rw [if_neg (by simp), if_neg h]
  obtain ⟨h1, h2, h3, h4⟩ := not_many h
  refine (valid_ev h).pick (fun hv => ?_) fun hv => ?_
  ·rw [if_pos rfl, if_pos hv]
   refine (eachF_ev (q := fun f => manyN f ≤ 3000) (fun f hf => hasFew_ev (hv.flds f hf) h1) (fewS h3 (by omega))).pick (fun hf => ?_) fun hf => ?_
   ·rw [if_pos rfl, if_pos (show FewS s from hf)]
   ·rw [if_neg (by simp), if_neg (show ¬ FewS s from hf)]
  ·rw [if_neg (by simp), if_neg hv]
theorem rIsRule_ev {s : Ssn} (h : ¬ ManyS s) (h0 : 0 ≤ s.Last) {l : List Int} (hl : l.length ≤ 9223372036854775807) : Ev (prIsRule s l) (VRu s l) := by
 obtain ⟨h1, _⟩ := not_many h
 refine (Ev.loopE (l := l) (F := prIsRule_L0 s l) (ok := fun x => 0 ≤ x ∧ x ≤ 100) (fin := some (decide ((l.length : Int) = s.Last + 1))) (P := (l.length : Int) = s.Last + 1) (fun d k a ha => ?_) (fun d => ?_) (Nat.lt_succ_self _) fun _ => Ev.dec Iff.rfl).imp ⟨fun h => ⟨h.2, h.1⟩, fun h => ⟨h.2, h.1⟩⟩
 ·have hk := (List.getElem?_eq_some_iff.1 ha).1
  rw [prIsRule_L0, if_pos (by omega), idx_at ha, Option.bind_some]
  exact In_ev.step (by rw [if_pos rfl, gd_pos (fI (by omega))]) (by rw [if_neg (by simp)])
 ·rw [prIsRule_L0, if_neg (Int.lt_irrefl _), gd_pos (fI (by omega))]
open Classical in
theorem fault_L3 {s : Ssn} (h : ¬ ManyS s) (hv : VS0 s) : prFault_L3 s 1000000 0 = some (if FewS s then 0 else 3) := by
 obtain ⟨h1, h2, h3, h4⟩ := not_many h
 have key := loop_each (l := s.Fields) (F := prFault_L3 s) (ok := fun f => manyN f ≤ 3000) (bad := some 3) (fin := some 0) (fun d k f hf => by
  have hk := (List.getElem?_eq_some_iff.1 hf).1
  have hvf := hv.flds f (List.mem_of_getElem? hf)
  rw [prFault_L3, if_pos (by omega), idx_at hf, Option.bind_some, rMany_eq hvf h1, Option.bind_some]
  constructor
  ·intro hm; rw [if_neg (by omega), gd_pos (fI (by omega))]
  ·intro hm; rw [if_pos (by omega)]) (fun d => by rw [prFault_L3, if_neg (Int.lt_irrefl _)]) (d := 1000000) (by omega)
 by_cases hf : FewS s
 ·rw [if_pos hf]; exact key.1 hf
 ·rw [if_neg hf]; exact key.2 hf
theorem fault_L2 {s : Ssn} (h : ¬ ManyS s) {x : Int} : ((∀ v ∈ s.Visits, VV s v) → prFault_L2 s 1000000 x 0 = prFault_L3 s 1000000 0) ∧ (¬ (∀ v ∈ s.Visits, VV s v) → prFault_L2 s 1000000 x 0 = some 1) := by
 obtain ⟨h1, h2, h3, h4⟩ := not_many h
 refine loop_each (l := s.Visits) (F := fun d y => prFault_L2 s d x y) (fun d k v hg => ?_) (fun d => by rw [prFault_L2, if_neg (Int.lt_irrefl _)]) (by omega)
 have hk := (List.getElem?_eq_some_iff.1 hg).1
 rw [prFault_L2, if_pos (by omega), idx_at hg, Option.bind_some, gd_pos (fI (by omega))]
 have e : VV s v ↔ ((0 ≤ v.Field ∧ v.Field ≤ (s.Fields.length : Int) - 1) ∧ (0 ≤ v.Week ∧ v.Week ≤ s.Last) ∧ Wi v.Seen 0 100) := by unfold VV; rw [show (v.Field < (s.Fields.length : Int) ↔ v.Field ≤ (s.Fields.length : Int) - 1) by omega]
 rw [e]
 obtain ⟨b1, g1, g2⟩ := In_ev (n := v.Field) (lo := 0) (hi := (s.Fields.length : Int) - 1)
 obtain ⟨b2, g3, g4⟩ := In_ev (n := v.Week) (lo := 0) (hi := s.Last)
 obtain ⟨b3, g5, g6⟩ := rWithin_ev (r := v.Seen) (lo := 0) (hi := 100)
 rw [g1, g3, g5, ← g2, ← g4, ← g6]
 simp only [Option.bind_some]
 cases b1 <;> cases b2 <;> cases b3 <;> simp only [if_true, Bool.false_eq_true, if_false, false_and, and_false, true_and, and_true, not_true_eq_false, not_false_eq_true, false_implies, true_implies, and_self] <;> first | exact trivial | (rw [gd_pos (fI (by omega))])
theorem fault_L1 {s : Ssn} (h : ¬ ManyS s) {x : Int} : ((∀ f ∈ s.Fields, VF s f) → prFault_L1 s 1000000 x 0 = prFault_L2 s 1000000 x 0) ∧ (¬ (∀ f ∈ s.Fields, VF s f) → prFault_L1 s 1000000 x 0 = some 1) := by
 obtain ⟨h1, h2, h3, h4⟩ := not_many h
 refine loop_each (l := s.Fields) (F := fun d y => prFault_L1 s d x y) (fun d k f hg => ?_) (fun d => by rw [prFault_L1, if_neg (Int.lt_irrefl _)]) (by omega)
 have hk := (List.getElem?_eq_some_iff.1 hg).1
 rw [prFault_L1, if_pos (by omega), idx_at hg, Option.bind_some, gd_pos (fI (by omega))]
 have e : VF s f ↔ ((0 ≤ f.Crop ∧ f.Crop ≤ (s.Rules.length : Int) - 1) ∧ Wi f.Week 0 s.Last ∧ Wi f.Damage 0 100 ∧ Wi f.Old 0 100) := ⟨fun q => ⟨by have := q.crp; omega, q.wk, q.dm, q.old⟩, fun q => ⟨by have := q.1; omega, q.2.1, q.2.2.1, q.2.2.2⟩⟩
 rw [e]
 obtain ⟨b1, g1, g2⟩ := In_ev (n := f.Crop) (lo := 0) (hi := (s.Rules.length : Int) - 1)
 obtain ⟨b2, g3, g4⟩ := rWithin_ev (r := f.Week) (lo := 0) (hi := s.Last)
 obtain ⟨b3, g5, g6⟩ := rWithin_ev (r := f.Damage) (lo := 0) (hi := 100)
 obtain ⟨b4, g7, g8⟩ := rWithin_ev (r := f.Old) (lo := 0) (hi := 100)
 rw [g1, g3, g5, g7, ← g2, ← g4, ← g6, ← g8]
 simp only [Option.bind_some]
 cases b1 <;> cases b2 <;> cases b3 <;> cases b4 <;> simp only [if_true, Bool.false_eq_true, if_false, false_and, and_false, true_and, and_true, not_true_eq_false, not_false_eq_true, false_implies, true_implies, and_self] <;> first | exact trivial | (rw [gd_pos (fI (by omega))])
theorem rFault_eq {s : Ssn} (hR : ∀ l ∈ s.Rules, l.length ≤ maxLen) : prFault s = some (faultN s) := by
 unfold prFault faultN
 by_cases hm : ManyS s
 ·rw [if_pos hm]
  unfold ManyS at hm
  by_cases h1 : (12 : Int) < s.Last
  ·rw [if_pos h1]
  rw [if_neg h1]
  by_cases h2 : (3 : Int) < (s.Rules.length : Int)
  ·rw [if_pos h2]
  rw [if_neg h2]
  by_cases h3 : (3 : Int) < (s.Fields.length : Int)
  ·rw [if_pos h3]
  rw [if_neg h3, if_pos (by omega)]
 obtain ⟨h1, h2, h3, h4⟩ := not_many hm
 rw [if_neg hm, if_neg (by omega), if_neg (by omega), if_neg (by omega), if_neg (by omega)]
 by_cases q1 : s.Last < 0
 ·rw [if_pos q1, if_neg fun hv => by have := hv.last; omega]
 rw [if_neg q1]
 by_cases q2 : (s.Rules.length : Int) = 0
 ·rw [if_pos q2, if_neg fun hv => by have := hv.rne; omega]
 rw [if_neg q2]
 by_cases q3 : (s.Fields.length : Int) = 0
 ·rw [if_pos q3, if_neg fun hv => by have := hv.fne; omega]
 rw [if_neg q3]
 have key := loop_each (l := s.Rules) (F := fun d y => prFault_L0 s d 0 y) (ok := VRu s) (bad := some 1) (fin := prFault_L1 s 1000000 0 0) (fun d k l hg => by
  have hk := (List.getElem?_eq_some_iff.1 hg).1
  rw [prFault_L0, if_pos (by omega), idx_at hg, Option.bind_some]
  exact (rIsRule_ev hm (by omega) (l := l) (by have := hR l (List.mem_of_getElem? hg); unfold maxLen at this; omega)).step (by rw [if_pos rfl, gd_pos (fI (by omega))]) (by rw [if_neg (by simp)])) (fun d => by rw [prFault_L0, if_neg (Int.lt_irrefl _)]) (d := 1000000) (by omega)
 by_cases r1 : ∀ l ∈ s.Rules, VRu s l
 ·rw [key.1 r1]
  by_cases r2 : ∀ f ∈ s.Fields, VF s f
  ·rw [(fault_L1 hm).1 r2]
   by_cases r3 : ∀ v ∈ s.Visits, VV s v
   ·have hv : VS0 s := ⟨by omega, by omega, by omega, r1, r2, r3⟩
    rw [(fault_L2 hm).1 r3, fault_L3 hm hv, if_pos hv]
   ·rw [(fault_L2 hm).2 r3, if_neg fun hv => r3 hv.vis]
  ·rw [(fault_L1 hm).2 r2, if_neg fun hv => r2 hv.flds]
 ·rw [key.2 r1, if_neg fun hv => r1 hv.rules]
end
end Go.Proofs.Ytmlaphekbnanjaa

namespace Go.Proofs.Ytmlaphekbnanjaa
open _root_.Go.Proofs.Try
open Go.Abs Go.Abs.Grow
set_option maxRecDepth 100000
noncomputable section
def fldAt (s : Ssn) (k : Int) : Fld := (s.Fields[k.toNat]?).getD ⟨0, ⟨0, 0⟩, ⟨0, 0⟩, ⟨0, 0⟩⟩
def ruleOf (s : Ssn) (crop : Int) : List Int := (s.Rules[crop.toNat]?).getD []
def FieldOk (s : Ssn) (k : Int) : Prop := 0 ≤ k ∧ k < s.Fields.length
theorem fld_at {s : Ssn} {k : Int} (h : FieldOk s k) : idx s.Fields k = some (fldAt s k) ∧ fldAt s k ∈ s.Fields := by
 unfold FieldOk at h
 have hk : k.toNat < s.Fields.length := by omega
 have e := List.getElem?_eq_getElem hk
 have e2 : fldAt s k = s.Fields[k.toNat] := by unfold fldAt; rw [e]; rfl
 refine ⟨?_, by rw [e2]; exact List.getElem_mem hk⟩
 rw [show k = ((k.toNat : Nat) : Int) by omega, idx_nat]
 rw [show ((k.toNat : Nat) : Int) = k by omega, e2, e]
theorem VS0.vf {s : Ssn} (h : VS0 s) {k : Int} (hk : FieldOk s k) : VF s (fldAt s k) := h.flds _ (fld_at hk).2
theorem rule_at {s : Ssn} (h : VS0 s) {c : Int} (h0 : 0 ≤ c) (h1 : c < s.Rules.length) : idx s.Rules c = some (ruleOf s c) ∧ VRu s (ruleOf s c) := by
 have hk : c.toNat < s.Rules.length := by omega
 have e := List.getElem?_eq_getElem hk
 have e2 : ruleOf s c = s.Rules[c.toNat] := by unfold ruleOf; rw [e]; rfl
 refine ⟨?_, by rw [e2]; exact h.rules _ (List.getElem_mem hk)⟩
 rw [show c = ((c.toNat : Nat) : Int) by omega, idx_nat]
 rw [show ((c.toNat : Nat) : Int) = c by omega, e2, e]
theorem VRu.okR {s : Ssn} {l : List Int} (h : VRu s l) : okR l := h.2
theorem rule_idx {l : List Int} {n : Nat} (h : n < l.length) : idx l (n : Int) = some (l.getD n 0) := by
 rw [idx_nat, List.getD_eq_getElem?_getD, List.getElem?_eq_getElem h]; rfl
def dmg (s : Ssn) (crop : Int) (t : Trh) (w : Int) : Int := dmgN (ruleOf s crop) t.Week t.Damage w.toNat
def IsT (f : Fld) (t : Trh) : Prop := inR f.Week t.Week ∧ inR f.Damage t.Damage ∧ inR f.Old t.Old
theorem IsT.rng {s : Ssn} {f : Fld} {t : Trh} (h : IsT f t) (hf : VF s f) : (0 ≤ t.Week ∧ t.Week ≤ s.Last) ∧ (0 ≤ t.Damage ∧ t.Damage ≤ 100) ∧ (0 ≤ t.Old ∧ t.Old ≤ 100) := by
 obtain ⟨h1, h2, h3⟩ := h
 have a := hf.wk; have b := hf.dm; have c := hf.old
 unfold Wi at a b c; unfold inR at h1 h2 h3
 omega
theorem dmg_rng' {s : Ssn} (h : VS0 s) {c : Int} (h0 : 0 ≤ c) (h1 : c < s.Rules.length) {t : Trh} (hd : 0 ≤ t.Damage) (w : Int) : 0 ≤ dmg s c t w ∧ dmg s c t w ≤ t.Damage := dmg_rng (rule_at h h0 h1).2.okR hd _
def mkDm (g : Nat → Int) : Dm := ⟨g 0, g 1, g 2, g 3, g 4, g 5, g 6, g 7, g 8, g 9, g 10, g 11, g 12⟩
def dmL (d : Dm) : List Int := [d.d0, d.d1, d.d2, d.d3, d.d4, d.d5, d.d6, d.d7, d.d8, d.d9, d.d10, d.d11, d.d12]
theorem dmL_get (g : Nat → Int) {k : Nat} (h : k < 13) : (dmL (mkDm g))[k]? = some (g k) := by
 unfold dmL mkDm
 match k, h with
 | 0, _ => rfl
 | 1, _ => rfl
 | 2, _ => rfl
 | 3, _ => rfl
 | 4, _ => rfl
 | 5, _ => rfl
 | 6, _ => rfl
 | 7, _ => rfl
 | 8, _ => rfl
 | 9, _ => rfl
 | 10, _ => rfl
 | 11, _ => rfl
 | 12, _ => rfl
theorem sti_at {g : Nat → Int} {n j : Nat} {v : Int} (hv : v = g n) : sti (n : Int) j v (if j < n then g j else 0) = if j < n + 1 then g j else 0 := by
 unfold sti
 by_cases h : n = j
 ·subst h; rw [if_pos rfl, if_pos (by omega), hv]
 ·rw [if_neg (by omega)]
  by_cases h2 : j < n
  ·rw [if_pos h2, if_pos (by omega)]
  ·rw [if_neg h2, if_neg (by omega)]
theorem grow_go {s : Ssn} (h : VS0 s) (hl : s.Last ≤ 12) {p : Plt} (h0 : 0 ≤ p.crop) (h1 : p.crop < s.Rules.length) (ht : 0 ≤ p.t.Week) (hd : 0 ≤ p.t.Damage ∧ p.t.Damage ≤ 100) (g : Nat → Int) (hg : ∀ n, g n = dmgN (ruleOf s p.crop) p.t.Week p.t.Damage n) :
  ∀ (d n : Nat) (x : Int), n ≤ 13 → 13 - n < d → (x = if n = 0 then 0 else g (n - 1)) → pgrow_L0 s p d (if 0 < n then g 0 else 0) (if 1 < n then g 1 else 0) (if 2 < n then g 2 else 0) (if 3 < n then g 3 else 0) (if 4 < n then g 4 else 0) (if 5 < n then g 5 else 0) (if 6 < n then g 6 else 0) (if 7 < n then g 7 else 0) (if 8 < n then g 8 else 0) (if 9 < n then g 9 else 0) (if 10 < n then g 10 else 0) (if 11 < n then g 11 else 0) (if 12 < n then g 12 else 0) x (n : Int) = some (mkDm g)
 | 0, n, _, _, hn, _ => by omega
 | d + 1, n, x, hn, hd', hx => by
  obtain ⟨e1, e2⟩ := rule_at h h0 h1
  unfold pgrow_L0
  by_cases h13 : n = 13
  ·subst h13
   rw [if_neg (by omega)]
   rfl
  have hlt : n < 13 := by omega
  rw [if_pos (by omega)]
  have ih := fun y hy => grow_go h hl h0 h1 ht hd g hg d (n + 1) y (by omega) (by omega) hy
  have hgo : ∀ v, v = g n → pgrow_L0 s p d (sti (n : Int) 0 v (if 0 < n then g 0 else 0)) (sti (n : Int) 1 v (if 1 < n then g 1 else 0)) (sti (n : Int) 2 v (if 2 < n then g 2 else 0)) (sti (n : Int) 3 v (if 3 < n then g 3 else 0)) (sti (n : Int) 4 v (if 4 < n then g 4 else 0)) (sti (n : Int) 5 v (if 5 < n then g 5 else 0)) (sti (n : Int) 6 v (if 6 < n then g 6 else 0)) (sti (n : Int) 7 v (if 7 < n then g 7 else 0)) (sti (n : Int) 8 v (if 8 < n then g 8 else 0)) (sti (n : Int) 9 v (if 9 < n then g 9 else 0)) (sti (n : Int) 10 v (if 10 < n then g 10 else 0)) (sti (n : Int) 11 v (if 11 < n then g 11 else 0)) (sti (n : Int) 12 v (if 12 < n then g 12 else 0)) v ((n : Int) + 1) = some (mkDm g) := fun v hv => by
   simp only [sti_at hv]
   exact ih v (by rw [if_neg (by omega)]; exact hv)
  by_cases hw : (n : Int) = p.t.Week
  ·rw [if_pos hw, gd_pos (by omega), gd_pos (fI (by omega))]
   exact hgo _ (by rw [hg, dmg_at hw.symm])
  rw [if_neg hw]
  have hgn : g n = x - x * (ruleOf s p.crop).getD n 0 / 100 := by
   cases n with
   | zero =>
    rw [hg, hx, if_pos rfl]
    unfold dmgN
    rw [if_neg (fun hh => hw hh.symm)]; simp
   | succ n =>
    rw [hg, hx, if_neg (by omega), show n + 1 - 1 = n by omega, hg]
    show (if _ then _ else _) = _
    rw [if_neg (fun hh => hw hh.symm)]
  have hxr : 0 ≤ x ∧ x ≤ p.t.Damage := by
   rw [hx]
   split
   ·omega
   ·rw [hg]; exact dmg_rng e2.okR hd.1 _
  by_cases hlast : (n : Int) ≤ s.Last
  ·have hr := e2.okR.at n
   have hlen := e2.1
   have hm := Int.mul_nonneg hxr.1 hr.1
   have hm2 := Int.mul_le_mul hxr.2 hr.2 hr.1 hd.1
   have hs := step_rng hxr.1 hr.1 hr.2
   rw [if_pos hlast, e1, Option.bind_some, rule_idx (by omega), Option.bind_some, gd_pos hxr.1, gd_pos hr.1]
   generalize hy : (ruleOf s p.crop).getD n 0 = r at *
   generalize hz : x * r = z at *
   rw [gd_pos (fI (by omega)), gd_pos hm, gd_pos (by omega), gd_pos (fI (by omega)), gd_pos (fI (by omega)), gd_pos (by omega), gd_pos (fI (by omega))]
   exact hgo _ hgn.symm
  ·have hlen := e2.1
   rw [if_neg hlast, gd_pos (by omega), gd_pos (fI (by omega))]
   refine hgo _ ?_
   rw [hgn, List.getD_eq_getElem?_getD, List.getElem?_eq_none (by omega)]
   simp
def dmOf (s : Ssn) (crop : Int) (t : Trh) : Dm := mkDm (dmgN (ruleOf s crop) t.Week t.Damage)
theorem grow_eq {s : Ssn} (h : VS0 s) (hl : s.Last ≤ 12) {p : Plt} (h0 : 0 ≤ p.crop) (h1 : p.crop < s.Rules.length) (ht : 0 ≤ p.t.Week) (hd : 0 ≤ p.t.Damage ∧ p.t.Damage ≤ 100) : pgrow s p = some (dmOf s p.crop p.t) :=
 grow_go h hl h0 h1 ht hd _ (fun _ => rfl) 14 0 0 (by omega) (by omega) rfl
theorem dm_at {s : Ssn} {c : Int} {t : Trh} {w : Int} (hw : 0 ≤ w ∧ w ≤ 12) : idx (dmL (dmOf s c t)) w = some (dmg s c t w) := by
 rw [show w = ((w.toNat : Nat) : Int) by omega, idx_nat]
 exact dmL_get _ (by omega)
def harv (s : Ssn) (crop : Int) (t : Trh) : Int := dmg s crop t s.Last
theorem dm_12 {s : Ssn} (h : VS0 s) (hl : s.Last ≤ 12) {c : Int} (h0 : 0 ≤ c) (h1 : c < s.Rules.length) {t : Trh} (ht : t.Week ≤ s.Last) : dmg s c t 12 = harv s c t := by
 have hv := (rule_at h h0 h1).2.1
 have hla := h.last
 have := dmg_after (r := ruleOf s c) (w := t.Week) (d := t.Damage) (n := s.Last.toNat) (by omega) (by omega) (12 - s.Last.toNat)
 unfold harv dmg
 rw [← this]
 congr 1
 show (12 : Int).toNat = _
 have : (12 : Int).toNat = 12 := rfl
 omega
theorem harvestD_eq {s : Ssn} (h : VS0 s) (hl : s.Last ≤ 12) {c : Int} (h0 : 0 ≤ c) (h1 : c < s.Rules.length) {t : Trh} (ht : t.Week ≤ s.Last) : pharvestD (dmOf s c t) = some (harv s c t) := by
 unfold pharvestD
 have e : idx (dmL (dmOf s c t)) 12 = some (harv s c t) := by rw [dm_at (by omega), dm_12 h hl h0 h1 ht]
 have e' : idx [(dmOf s c t).d0, (dmOf s c t).d1, (dmOf s c t).d2, (dmOf s c t).d3, (dmOf s c t).d4, (dmOf s c t).d5, (dmOf s c t).d6, (dmOf s c t).d7, (dmOf s c t).d8, (dmOf s c t).d9, (dmOf s c t).d10, (dmOf s c t).d11, (dmOf s c t).d12] (12 : Int) = some (harv s c t) := e
 rw [e', Option.bind_some]
def seenN (s : Ssn) (crop : Int) (t : Trh) (w : Int) : Int := min (t.Old + dmg s crop t w) 100
theorem seen_eq {s : Ssn} (h : VS0 s) {c : Int} (h0 : 0 ≤ c) (h1 : c < s.Rules.length) {t : Trh} (hd : 0 ≤ t.Damage ∧ t.Damage ≤ 100) (ho : 0 ≤ t.Old ∧ t.Old ≤ 100) {w : Int} (hw : 0 ≤ w ∧ w ≤ 12) : pseen ⟨t, dmOf s c t⟩ w = some (seenN s c t w) := by
 have hr := dmg_rng' h h0 h1 (t := t) hd.1 w
 unfold pseen
 have e' : idx [(dmOf s c t).d0, (dmOf s c t).d1, (dmOf s c t).d2, (dmOf s c t).d3, (dmOf s c t).d4, (dmOf s c t).d5, (dmOf s c t).d6, (dmOf s c t).d7, (dmOf s c t).d8, (dmOf s c t).d9, (dmOf s c t).d10, (dmOf s c t).d11, (dmOf s c t).d12] w = some (dmg s c t w) := dm_at hw
 dsimp only
 rw [e', Option.bind_some, gd_pos (fI (by omega))]; rfl
end
end Go.Proofs.Ytmlaphekbnanjaa

namespace Go.Proofs.Ytmlaphekbnanjaa
open _root_.Go.Proofs.Try
open Go.Abs Go.Abs.Grow
set_option maxRecDepth 100000
noncomputable section
def nums (r : Rg) : List Int := segI r.Lo (cnt r).toNat
theorem mem_nums {r : Rg} (h : r.Lo ≤ r.Hi) {x : Int} : x ∈ nums r ↔ inR r x := by
 unfold nums inR cnt
 rw [mem_segI]; omega
theorem nums_len {r : Rg} {lo hi : Int} (h : Wi r lo hi) {n : Nat} (hn : hi - lo + 1 ≤ n) : (nums r).length ≤ n := by
 have := cnt_rng h
 unfold nums; rw [segI_len]; omega
theorem numbers_go {r : Rg} {n : Int} (h : Wi r (-1000) 1000) (hn : n = cnt r) : ∀ (d k m : Nat), (k : Int) + m = n → m < d → pnumbersI_L0 r n d (k : Int) = some (segI (r.Lo + k) m)
 | 0, _, _, _, h => by omega
 | d + 1, k, 0, hk, _ => by
  unfold pnumbersI_L0
  rw [if_neg (by omega)]; rfl
 | d + 1, k, m + 1, hk, hd => by
  have hc := h
  unfold Wi at hc
  unfold cnt at hn
  unfold pnumbersI_L0
  rw [if_pos (by omega), gd_pos (fI (by omega)), gd_pos (fI (by omega)), show (k : Int) + 1 = ((k + 1 : Nat) : Int) by omega, numbers_go h (by unfold cnt; exact hn) d (k + 1) m (by omega) (by omega), Option.bind_some, show r.Lo + ((k + 1 : Nat) : Int) = r.Lo + k + 1 by omega]
  rfl
theorem numbers_eq {r : Rg} (h : Wi r (-1000) 1000) : pnumbers r = some (nums r) := by
 have hc := h
 unfold Wi at hc
 have hcn : 0 < cnt r := by unfold cnt; omega
 unfold pnumbers pnumbersI
 rw [count_eq h, Option.bind_some]
 have := numbers_go h rfl ((cnt r).toNat + 1) 0 (cnt r).toNat (by omega) (by omega)
 rw [show ((0 : Nat) : Int) = 0 by rfl] at this
 rw [this, Option.bind_some]
 unfold nums
 rw [Int.add_zero]
def chL (f : Fld) : List Trh := (nums f.Week).flatMap fun w => (nums f.Damage).flatMap fun d => (nums f.Old).map fun o => ⟨w, d, o⟩
theorem mem_chL {s : Ssn} {f : Fld} (h : VF s f) {t : Trh} : t ∈ chL f ↔ IsT f t := by
 have h1 := h.wk; have h2 := h.dm; have h3 := h.old
 unfold Wi at h1 h2 h3
 unfold chL IsT
 rw [List.mem_flatMap]
 constructor
 ·rintro ⟨w, hw, ht⟩
  obtain ⟨d, hd, ht⟩ := List.mem_flatMap.1 ht
  obtain ⟨o, ho, rfl⟩ := List.mem_map.1 ht
  exact ⟨(mem_nums (by omega)).1 hw, (mem_nums (by omega)).1 hd, (mem_nums (by omega)).1 ho⟩
 ·rintro ⟨a, b, c⟩
  exact ⟨t.Week, (mem_nums (by omega)).2 a, List.mem_flatMap.2 ⟨t.Damage, (mem_nums (by omega)).2 b, List.mem_map.2 ⟨t.Old, (mem_nums (by omega)).2 c, rfl⟩⟩⟩
theorem flatMap_len {α β : Type} {f : α → List β} {B : Nat} : ∀ {l : List α}, (∀ x ∈ l, (f x).length ≤ B) → (l.flatMap f).length ≤ l.length * B
 | [], _ => by simp
 | a :: l, h => by
  rw [List.flatMap_cons, List.length_append, List.length_cons, Nat.add_mul, Nat.one_mul, Nat.add_comm]
  exact Nat.add_le_add (flatMap_len fun x hx => h x (List.mem_cons_of_mem _ hx)) (h a (List.mem_cons_self ..))
theorem chL_len {s : Ssn} {f : Fld} (h : VF s f) (hl : s.Last ≤ 12) : (chL f).length ≤ 132613 := by
 have h1 := nums_len h.wk (n := 13) (by omega)
 have h2 := nums_len h.dm (n := 101) (by omega)
 have h3 := nums_len h.old (n := 101) (by omega)
 have q1 : ∀ w : Int, ((nums f.Damage).flatMap fun d => (nums f.Old).map fun o => (⟨w, d, o⟩ : Trh)).length ≤ 10201 := fun w => by
  have := flatMap_len (l := nums f.Damage) (f := fun d => (nums f.Old).map fun o => (⟨w, d, o⟩ : Trh)) (B := 101) fun d _ => by rw [List.length_map]; exact h3
  have h4 : (nums f.Damage).length * 101 ≤ 101 * 101 := Nat.mul_le_mul_right _ h2
  omega
 have q2 := flatMap_len (l := nums f.Week) (f := fun w => (nums f.Damage).flatMap fun d => (nums f.Old).map fun o => (⟨w, d, o⟩ : Trh)) (B := 10201) fun w _ => q1 w
 have h4 : (nums f.Week).length * 10201 ≤ 13 * 10201 := Nat.mul_le_mul_right _ h1
 unfold chL; omega
def Good (s : Ssn) (D : Plt → Prop) (m : Option (Plt → Option Dm)) : Prop := ∃ g, m = some g ∧ ∀ p, D p → g p = some (dmOf s p.crop p.t)
theorem Good.mono {s : Ssn} {D D' : Plt → Prop} {m : Option (Plt → Option Dm)} (h : Good s D m) (hD : ∀ p, D' p → D p) : Good s D' m := by
 obtain ⟨g, h1, h2⟩ := h
 exact ⟨g, h1, fun p hp => h2 p (hD p hp)⟩
theorem Good.set {s : Ssn} {D : Plt → Prop} {m : Option (Plt → Option Dm)} (h : Good s D m) (p : Plt) : ∃ m', mset m p (dmOf s p.crop p.t) = some m' ∧ Good s (fun q => D q ∨ q = p) m' := by
 obtain ⟨g, rfl, h2⟩ := h
 refine ⟨_, rfl, _, rfl, fun q hq => ?_⟩
 by_cases hqp : q = p
 ·rw [if_pos hqp, hqp]
 ·rw [if_neg hqp]
  exact h2 q (hq.elim id fun h => absurd h hqp)
theorem open_L2 {s : Ssn} (h : VS0 s) (hl : s.Last ≤ 12) (hr3 : s.Rules.length ≤ 3) {f : Fld} (hf : VF s f) {w : Int} (hw : 0 ≤ w ∧ w ≤ s.Last) {K : Option (Plt → Option Dm) → Option Wk} {R : Option Wk → Prop} : ∀ (ds : List Int) (D : Plt → Prop) (m : Option (Plt → Option Dm)), (∀ d ∈ ds, 0 ≤ d ∧ d ≤ 100) → Good s D m →
  (∀ m', Good s (fun q => D q ∨ ∃ d ∈ ds, q = ⟨⟨w, d, 0⟩, f.Crop⟩) m' → R (K m')) → R (popen_L2 s f w K ds m)
 | [], D, m, _, hm, hK => hK m (hm.mono fun p hp => hp.elim id fun ⟨d, hd, _⟩ => by cases hd)
 | d :: ds, D, m, hd, hm, hK => by
  have hc := hf.crp
  have h1 := hd d (List.mem_cons_self ..)
  unfold popen_L2
  obtain ⟨m', h2, h3⟩ := hm.set ⟨⟨w, d, 0⟩, f.Crop⟩
  rw [show pplant f w d = some ⟨⟨w, d, 0⟩, f.Crop⟩ from rfl, Option.bind_some, grow_eq h hl hc.1 hc.2 hw.1 h1, Option.bind_some, gd_pos ⟨fI (by dsimp only; omega), fI (by dsimp only; omega), fI (by dsimp only; omega), fI (by dsimp only; omega), trivial⟩, h2, Option.bind_some]
  refine open_L2 h hl hr3 hf hw ds _ m' (fun x hx => hd x (List.mem_cons_of_mem _ hx)) h3 fun m'' hm'' => hK m'' (hm''.mono fun p hp => ?_)
  rcases hp with hp | ⟨x, hx, hp⟩
  ·exact .inl (.inl hp)
  ·rcases List.mem_cons.1 hx with rfl | hx
   ·exact .inl (.inr hp)
   ·exact .inr ⟨x, hx, hp⟩
theorem open_L1 {s : Ssn} (h : VS0 s) (hl : s.Last ≤ 12) (hr3 : s.Rules.length ≤ 3) {f : Fld} (hf : VF s f) {x : Int} (hx : fitsP .i64 (x + 1)) {K : Option (Plt → Option Dm) → Int → Option Wk} {R : Option Wk → Prop} : ∀ (ws : List Int) (D : Plt → Prop) (m : Option (Plt → Option Dm)), (∀ w ∈ ws, 0 ≤ w ∧ w ≤ s.Last) → Good s D m →
  (∀ m', Good s (fun q => D q ∨ ∃ w ∈ ws, ∃ d, inR f.Damage d ∧ q = ⟨⟨w, d, 0⟩, f.Crop⟩) m' → R (K m' (x + 1))) → R (popen_L1 s x f K ws m)
 | [], D, m, _, hm, hK => by
  unfold popen_L1
  rw [gd_pos hx]
  exact hK m (hm.mono fun p hp => hp.elim id fun ⟨d, hd, _⟩ => by cases hd)
 | w :: ws, D, m, hw, hm, hK => by
  have hd := hf.dm
  have hdw := hd.w (by omega) (by omega)
  unfold popen_L1
  rw [numbers_eq hdw, Option.bind_some]
  unfold Wi at hd
  refine open_L2 h hl hr3 hf (hw w (List.mem_cons_self ..)) (nums f.Damage) D m (fun d hd' => ?_) hm fun m' hm' => ?_
  ·have := (mem_nums (by omega)).1 hd'
   unfold inR at this; omega
  ·refine open_L1 h hl hr3 hf hx ws _ m' (fun y hy => hw y (List.mem_cons_of_mem _ hy)) hm' fun m'' hm'' => hK m'' (hm''.mono fun p hp => ?_)
   rcases hp with hp | ⟨y, hy, d, hdd, hp⟩
   ·exact .inl (.inl hp)
   ·rcases List.mem_cons.1 hy with rfl | hy
    ·exact .inl (.inr ⟨d, (mem_nums (by omega)).2 hdd, hp⟩)
    ·exact .inr ⟨y, hy, d, hdd, hp⟩
def DomF (l : List Fld) (q : Plt) : Prop := ∃ f ∈ l, ∃ w, inR f.Week w ∧ ∃ d, inR f.Damage d ∧ q = ⟨⟨w, d, 0⟩, f.Crop⟩
theorem open_L0 {s : Ssn} (h : VS0 s) (hl : s.Last ≤ 12) (hr3 : s.Rules.length ≤ 3) (h3 : s.Fields.length ≤ 3) : ∀ (d k : Nat) (m : Option (Plt → Option Dm)), k ≤ s.Fields.length → s.Fields.length - k < d → Good s (DomF (s.Fields.take k)) m →
  ∃ m', popen_L0 s d m (k : Int) = some ⟨s, m'⟩ ∧ Good s (DomF s.Fields) m'
 | 0, k, m, _, hd, _ => by omega
 | d + 1, k, m, hk, hd, hm => by
  unfold popen_L0
  by_cases hkn : k = s.Fields.length
  ·subst hkn
   rw [if_neg (Int.lt_irrefl _)]
   exact ⟨m, rfl, by rw [List.take_length] at hm; exact hm⟩
  have hlt : k < s.Fields.length := by omega
  have hg := List.getElem?_eq_getElem hlt
  have hf := h.flds _ (List.getElem_mem hlt)
  generalize hfe : s.Fields[k] = f at hg hf
  have hwk := hf.wk
  rw [if_pos (by omega), idx_at hg, Option.bind_some, numbers_eq (hwk.w (by omega) (by omega)), Option.bind_some]
  unfold Wi at hwk
  refine open_L1 (R := fun o => ∃ m', o = some ⟨s, m'⟩ ∧ Good s (DomF s.Fields) m') h hl hr3 hf (fI (by omega)) (nums f.Week) _ m (fun w hw => ?_) hm fun m' hm' => ?_
  ·have := (mem_nums (by omega)).1 hw
   unfold inR at this; omega
  ·rw [show (k : Int) + 1 = ((k + 1 : Nat) : Int) by omega]
   refine open_L0 h hl hr3 h3 d (k + 1) m' (by omega) (by omega) (hm'.mono fun p hp => ?_)
   obtain ⟨f', hf', w, hw, x, hx, hp⟩ := hp
   rw [List.take_add_one, hg] at hf'
   rcases List.mem_append.1 hf' with hf' | hf'
   ·exact .inl ⟨f', hf', w, hw, x, hx, hp⟩
   ·have : f' = f := by simpa using hf'
    subst this
    exact .inr ⟨w, (mem_nums (by omega)).2 hw, x, hx, hp⟩
theorem open_eq {s : Ssn} (h : VS s) : ∃ m, popen s = some ⟨s, m⟩ ∧ Good s (DomF s.Fields) m := by
 obtain ⟨h1, h2, h3, h4⟩ := not_many h.many
 exact open_L0 h.toVS0 h1 h2 h3 (s.Fields.length + 1) 0 _ (Nat.zero_le _) (by omega) ⟨_, rfl, fun p hp => by obtain ⟨f, hf, _⟩ := hp; cases hf⟩
def crs (s : Ssn) (c : Int) (t : Trh) : Crs := ⟨t, dmOf s c t⟩
theorem ch_L3 {w d : Int} {dm : Dm} {r : List Crs} : ∀ os : List Int, pchoicesI_L3 w d dm (some r) os = some (os.map (fun o => ⟨⟨w, d, o⟩, dm⟩) ++ r)
 | [] => rfl
 | o :: os => by unfold pchoicesI_L3; rw [ch_L3 os, Option.bind_some]; rfl
theorem ch_L1 {s : Ssn} {W : Wk} {f : Fld} (hm : Good s (DomF s.Fields) W.damages) (hf : f ∈ s.Fields) (hv : VF s f) (hl : s.Last ≤ 12) (h3 : s.Rules.length ≤ 3) {w : Int} (hw : inR f.Week w) {r : List Crs} : ∀ ds : List Int, (∀ d ∈ ds, inR f.Damage d) →
  pchoicesI_L1 f W w (some r) ds = some ((ds.flatMap fun d => (nums f.Old).map fun o => crs s f.Crop ⟨w, d, o⟩) ++ r)
 | [], _ => rfl
 | d :: ds, hd => by
  have h1 := hd d (List.mem_cons_self ..)
  have hwk := hv.wk; have hdm := hv.dm; have hcr := hv.crp
  unfold Wi at hwk hdm
  have hw' := hw
  have h1' := h1
  unfold inR at hw' h1'
  obtain ⟨g, hg1, hg2⟩ := id hm
  have hget : mget W.damages ⟨⟨w, d, 0⟩, f.Crop⟩ = some (dmOf s f.Crop ⟨w, d, 0⟩) := by rw [hg1]; exact hg2 _ ⟨f, hf, w, hw, d, h1, rfl⟩
  unfold pchoicesI_L1
  rw [show pplant f w d = some ⟨⟨w, d, 0⟩, f.Crop⟩ from rfl, Option.bind_some, gd_pos ⟨fI (by dsimp only; omega), fI (by dsimp only; omega), fI (by dsimp only; omega), fI (by dsimp only; omega), trivial⟩, mcase_some hget, numbers_eq (hv.old.w (by omega) (by omega)), Option.bind_some, ch_L1 hm hf hv hl h3 hw ds fun x hx => hd x (List.mem_cons_of_mem _ hx), ch_L3, List.flatMap_cons, List.append_assoc]
  rfl
theorem ch_L0 {s : Ssn} {W : Wk} {f : Fld} (hm : Good s (DomF s.Fields) W.damages) (hf : f ∈ s.Fields) (hv : VF s f) (hl : s.Last ≤ 12) (h3 : s.Rules.length ≤ 3) : ∀ ws : List Int, (∀ w ∈ ws, inR f.Week w) →
  pchoicesI_L0 f W ws = some ((ws.flatMap fun w => (nums f.Damage).flatMap fun d => (nums f.Old).map fun o => crs s f.Crop ⟨w, d, o⟩))
 | [], _ => rfl
 | w :: ws, hw => by
  have hdm := hv.dm
  unfold Wi at hdm
  unfold pchoicesI_L0
  rw [numbers_eq (hv.dm.w (by omega) (by omega)), Option.bind_some, ch_L0 hm hf hv hl h3 ws fun x hx => hw x (List.mem_cons_of_mem _ hx), ch_L1 hm hf hv hl h3 (hw w (List.mem_cons_self ..)) _ fun d hd => (mem_nums (by omega)).1 hd]
  rfl
theorem choices_eq {s : Ssn} {W : Wk} {f : Fld} (hm : Good s (DomF s.Fields) W.damages) (hf : f ∈ s.Fields) (hv : VF s f) (hl : s.Last ≤ 12) (h3 : s.Rules.length ≤ 3) : pchoices W f = some ((chL f).map (crs s f.Crop)) := by
 have hwk := hv.wk
 unfold Wi at hwk
 unfold pchoices pchoicesI
 rw [numbers_eq (hv.wk.w (by omega) (by omega)), Option.bind_some, ch_L0 hm hf hv hl h3 _ fun w hw => (mem_nums (by omega)).1 hw, Option.bind_some]
 congr 1
 unfold chL
 rw [List.map_flatMap]
 congr 1
 funext w
 rw [List.map_flatMap]
 congr 1
 funext d
 rw [List.map_map]; rfl
def okV (s : Ssn) (V : List Vis) (k : Int) (t : Trh) : Prop := ∀ v ∈ V, v.Field = k → inR v.Seen (seenN s (fldAt s k).Crop t v.Week)
def TR (s : Ssn) (V : List Vis) (k : Int) (t : Trh) : Prop := IsT (fldAt s k) t ∧ okV s V k t
open Classical in
def TL (s : Ssn) (V : List Vis) (k : Int) : List Trh := (chL (fldAt s k)).filter fun t => decide (okV s V k t)
structure WOk (s : Ssn) (V : List Vis) (W : Wk) : Prop where
 vs : VS s
 ss : W.s = { s with Visits := V }
 m : Good s (DomF s.Fields) W.damages
 v : ∀ v ∈ V, VV s v
 len : V.length ≤ 6
open Classical in
theorem mem_TL {s : Ssn} (h : VS s) {V : List Vis} {k : Int} (hk : FieldOk s k) {t : Trh} : t ∈ TL s V k ↔ TR s V k t := by
 unfold TL TR
 rw [List.mem_filter, mem_chL (h.vf hk), decide_eq_true_eq]
theorem TL_len {s : Ssn} (h : VS s) {V : List Vis} {k : Int} (hk : FieldOk s k) : (TL s V k).length ≤ 132613 := by
 unfold TL
 exact Nat.le_trans (List.length_filter_le _ _) (chL_len (h.vf hk) (not_many h.many).1)
theorem allows_ev {s : Ssn} (h : VS s) {V : List Vis} (hV : ∀ v ∈ V, VV s v) (hn : V.length ≤ 6) {k : Int} (hk : FieldOk s k) {t : Trh} (ht : IsT (fldAt s k) t) : Ev (pallows { s with Visits := V } k (crs s (fldAt s k).Crop t)) (okV s V k t) := by
 obtain ⟨h1, _⟩ := not_many h.many
 have hf := h.vf hk
 obtain ⟨q1, q2, q3⟩ := ht.rng hf
 refine (eachV_ev (q := fun v => v.Field = k → inR v.Seen (seenN s (fldAt s k).Crop t v.Week)) (fun v hv => ?_) (fewS hn (by omega))).ret
 unfold pallows1
 by_cases hvk : v.Field = k
 ·rw [if_pos hvk, show pseen (crs s (fldAt s k).Crop t) v.Week = _ from seen_eq h.toVS0 hf.crp.1 hf.crp.2 q2 q3 (by have := (hV v hv).2.1; omega), Option.bind_some]
  exact has_ev.ret.imp ⟨fun h _ => h, fun h => h hvk⟩
 ·rw [if_neg hvk]; exact Ev.tt fun h => absurd h hvk
open Classical in
theorem truths_L0 {s : Ssn} {V : List Vis} {W : Wk} (h : WOk s V W) {k : Int} (hk : FieldOk s k) : ∀ l : List Trh, (∀ t ∈ l, IsT (fldAt s k) t) → ptruthsI_L0 W k (l.map (crs s (fldAt s k).Crop)) = some ((l.filter fun t => decide (okV s V k t)).map (crs s (fldAt s k).Crop))
 | [], _ => rfl
 | t :: l, ht => by
  have ih := truths_L0 h hk l fun x hx => ht x (List.mem_cons_of_mem _ hx)
  rw [List.map_cons]
  unfold ptruthsI_L0
  rw [h.ss, (allows_ev h.vs h.v h.len hk (ht t (List.mem_cons_self ..))).eqd, Option.bind_some, ih]
  by_cases ho : okV s V k t
  ·rw [decide_eq_true ho, if_pos rfl, List.filter_cons_of_pos (by simpa using ho)]; rfl
  ·rw [decide_eq_false ho, if_neg (by simp), List.filter_cons_of_neg (by simpa using ho)]
theorem truths_eq {s : Ssn} {V : List Vis} {W : Wk} (h : WOk s V W) {k : Int} (hk : FieldOk s k) : ptruths W k = some ((TL s V k).map (crs s (fldAt s k).Crop)) := by
 obtain ⟨h1, h2, _⟩ := not_many h.vs.many
 have hf := h.vs.vf hk
 unfold ptruths ptruthsI
 rw [h.ss]
 rw [show idx ({ s with Visits := V } : Ssn).Fields k = some (fldAt s k) from (fld_at hk).1, Option.bind_some, choices_eq h.m (fld_at hk).2 hf h1 h2, Option.bind_some, truths_L0 h hk _ fun t ht => (mem_chL hf).1 ht, Option.bind_some]; rfl
def HTf (s : Ssn) (V : List Vis) (k : Int) : Prop := ∃ t, TR s V k t
def HT (s : Ssn) (V : List Vis) : Prop := ∀ k, FieldOk s k → HTf s V k
theorem TL_ne {s : Ssn} (h : VS s) {V : List Vis} {k : Int} (hk : FieldOk s k) : TL s V k ≠ [] ↔ HTf s V k := by
 constructor
 ·intro hn
  obtain ⟨t, ht⟩ := List.exists_mem_of_ne_nil _ hn
  exact ⟨t, (mem_TL h hk).1 ht⟩
 ·rintro ⟨t, ht⟩ hn
  have := (mem_TL h hk).2 ht
  rw [hn] at this; cases this
theorem hasTruthOf_ev {s : Ssn} {V : List Vis} {W : Wk} (h : WOk s V W) {k : Int} (hk : FieldOk s k) : Ev (phasTruthOf W k) (HTf s V k) := by
 unfold phasTruthOf
 rw [truths_eq h hk, Option.bind_some]
 have hn := TL_ne h.vs (V := V) hk
 cases hl : TL s V k with
 | nil => rw [hl] at hn; exact Ev.ff fun hh => (hn.2 hh) rfl
 | cons t l => rw [hl] at hn; exact Ev.tt (hn.1 (by simp))
theorem hasTruth_ev {s : Ssn} {V : List Vis} {W : Wk} (h : WOk s V W) : Ev (phasTruth W) (HT s V) := by
 obtain ⟨h1, h2, h3, h4⟩ := not_many h.vs.many
 have e : W.s.Fields = s.Fields := by rw [h.ss]
 unfold phasTruth
 rw [e]
 have key := loopAll_tt (n := s.Fields.length) (F := phasTruth_L0 W) (ok := fun j => HTf s V (j : Int)) (bad := some false) (fin := some true) (fun d k hk => by
  rw [phasTruth_L0, e, if_pos (by omega)]
  exact (hasTruthOf_ev h (k := (k : Int)) ⟨by omega, by omega⟩).step (by rw [if_pos rfl, gd_pos (fI (by omega))]) (by rw [if_neg (by simp)])) (fun d => by rw [phasTruth_L0, e, if_neg (Int.lt_irrefl _)]) (d := s.Fields.length + 1) (by omega)
 have hiff : (∀ j, j < s.Fields.length → HTf s V (j : Int)) ↔ HT s V := ⟨fun q k hk => by
  unfold FieldOk at hk
  have := q k.toNat (by omega)
  rwa [show ((k.toNat : Nat) : Int) = k by omega] at this, fun q j hj => q j ⟨by omega, by omega⟩⟩
 rw [hiff] at key
 by_cases hh : HT s V
 ·rw [key.1 hh]; exact Ev.tt hh
 ·rw [key.2 hh]; exact Ev.ff hh
theorem WOk.of {s : Ssn} (h : VS s) {m : Option (Plt → Option Dm)} (hm : Good s (DomF s.Fields) m) : WOk s s.Visits ⟨s, m⟩ := ⟨h, rfl, hm, h.vis, (not_many h.many).2.2.2⟩
def wk0 : Wk := { s := ({ Last := (0 : Int), Rules := [], Fields := [], Visits := [] } : Ssn), damages := none }
theorem openTrue_ok {s : Ssn} (h : VS s) (ht : HT s s.Visits) : ∃ W, popenTrue s = some (W, 0) ∧ WOk s s.Visits W := by
 obtain ⟨m, h1, h2⟩ := open_eq h
 have hw := WOk.of h h2
 refine ⟨_, ?_, hw⟩
 unfold popenTrue
 rw [check_eq, fault_zero.2 h, Option.bind_some, if_pos rfl, h1, Option.bind_some, (hasTruth_ev hw).some_of ht, Option.bind_some, if_pos rfl]
theorem openTrue_no {s : Ssn} (h : VS s) (ht : ¬ HT s s.Visits) : popenTrue s = some (wk0, 11) := by
 obtain ⟨m, h1, h2⟩ := open_eq h
 have hw := WOk.of h h2
 unfold popenTrue
 rw [check_eq, fault_zero.2 h, Option.bind_some, if_pos rfl, h1, Option.bind_some, (hasTruth_ev hw).some_not ht, Option.bind_some, if_neg (by simp)]; rfl
end
end Go.Proofs.Ytmlaphekbnanjaa

namespace Go.Proofs.Ytmlaphekbnanjaa
open _root_.Go.Proofs.Try
open Go.Abs Go.Abs.Grow
set_option maxRecDepth 100000
noncomputable section
theorem minimum_eq {l : List Int} (h : l ≠ []) (hl : shrt l) : pminimum l = some (minL l) := by
 have hl := hl.lt
 cases l with
 | nil => exact absurd rfl h
 | cons x l =>
  unfold pminimum
  rw [if_neg (by simp; omega), idx_zero rfl, Option.bind_some]
  have key := loopFold (l := x :: l) (fun s a => min s a) (fun d s k => pminimum_L0 (x :: l) d s k) some (fun d k s a ha => by
   have hk := (List.getElem?_eq_some_iff.1 ha).1
   rw [pminimum_L0, if_pos (by omega), idx_at ha, Option.bind_some]
   by_cases hc : a < s
   ·rw [if_pos hc, gd_pos (fI (by omega)), Int.min_eq_right (by omega)]
   ·rw [if_neg hc, gd_pos (fI (by omega)), Int.min_eq_left (by omega)]) (fun d s => by rw [pminimum_L0, if_neg (Int.lt_irrefl _)]) ((x :: l).length + 1) 0 x (Nat.zero_le _) (by omega)
  refine key.trans ?_
  rw [List.drop_zero]
  show some (l.foldl min (min x x)) = _
  rw [Int.min_self]; rfl
theorem max_eq {l : List Int} (h : l ≠ []) (hl : shrt l) : psMax l = some (maxL l) := by
 have hl := hl.lt
 cases l with
 | nil => exact absurd rfl h
 | cons x l =>
  unfold psMax
  rw [if_neg (by simp; omega), idx_zero rfl, Option.bind_some]
  have key := loopFold (l := x :: l) (fun s a => max s a) (fun d s k => psMax_L0 (x :: l) d s k) some (fun d k s a ha => by
   have hk := (List.getElem?_eq_some_iff.1 ha).1
   rw [psMax_L0, if_pos (by omega), idx_at ha, Option.bind_some, gd_pos (fI (by omega))]) (fun d s => by rw [psMax_L0, if_neg (Int.lt_irrefl _)]) ((((x :: l).length : Int) - 1).toNat + 1) 1 x (by simp) (by simp only [List.length_cons]; omega)
  exact key
def Of (s : Ssn) (V : List Vis) (k : Int) (h : Trh → Int) : Int → Prop := fun x => ∃ t, TR s V k t ∧ h t = x
theorem span_L0 {q : Qn} {g : Crs → Trh} {h : Trh → Int} : ∀ (l : List Crs) (acc : List Int), (∀ c ∈ l, q.number c = some (h (g c))) → acc.length + l.length < 1048576 → acc ++ l.map (fun c => h (g c)) ≠ [] →
  pspan_L0 q l acc = some ⟨minL (acc ++ l.map (fun c => h (g c))), maxL (acc ++ l.map (fun c => h (g c)))⟩
 | [], acc, _, hl, hne => by
  unfold pspan_L0
  rw [List.map_nil, List.append_nil] at hne ⊢
  simp only [List.length_nil] at hl
  rw [minimum_eq hne (by unfold shrt; omega), Option.bind_some, max_eq hne (by unfold shrt; omega), Option.bind_some]
 | c :: l, acc, hq, hl, hne => by
  simp only [List.length_cons] at hl
  unfold pspan_L0
  rw [hq c (List.mem_cons_self ..), Option.bind_some, gd_pos (by omega), span_L0 l (acc ++ [h (g c)]) (fun x hx => hq x (List.mem_cons_of_mem _ hx)) (by rw [List.length_append]; simp only [List.length_cons, List.length_nil]; omega) (by simp), List.append_assoc]
  rfl
theorem span_eq {s : Ssn} {V : List Vis} {W : Wk} (hw : WOk s V W) {k : Int} (hk : FieldOk s k) (ht : HTf s V k) {q : Qn} {h : Trh → Int} (hq : ∀ t, TR s V k t → q.number (crs s (fldAt s k).Crop t) = some (h t)) :
  ∃ lo hi, pspan W k q = some ⟨lo, hi⟩ ∧ Spn (Of s V k h) lo hi := by
 have hne := (TL_ne hw.vs (V := V) hk).2 ht
 have hlen := TL_len hw.vs (V := V) hk
 have hne2 : [] ++ ((TL s V k).map (crs s (fldAt s k).Crop)).map (fun c => h c.t) ≠ [] := by simpa using hne
 have hmem : ∀ x, x ∈ ([] : List Int) ++ ((TL s V k).map (crs s (fldAt s k).Crop)).map (fun c => h c.t) ↔ Of s V k h x := fun x => by
  rw [List.nil_append, List.map_map, List.mem_map]
  exact ⟨fun ⟨t, h1, h2⟩ => ⟨t, (mem_TL hw.vs hk).1 h1, h2⟩, fun ⟨t, h1, h2⟩ => ⟨t, (mem_TL hw.vs hk).2 h1, h2⟩⟩
 refine ⟨_, _, ?_, (hmem _).1 (minL_mem hne2).1, (hmem _).1 (maxL_mem hne2).1, fun x hx => ⟨(minL_mem hne2).2 x ((hmem x).2 hx), (maxL_mem hne2).2 x ((hmem x).2 hx)⟩⟩
 unfold pspan
 rw [truths_eq hw hk, Option.bind_some, span_L0 (g := fun c => c.t) (h := h) _ [] (fun c hc => by
  obtain ⟨t, h1, rfl⟩ := List.mem_map.1 hc
  exact hq t ((mem_TL hw.vs hk).1 h1)) (by rw [List.length_map]; simp only [List.length_nil]; omega) hne2]
theorem TR.rng {s : Ssn} (h : VS s) {V : List Vis} {k : Int} (hk : FieldOk s k) {t : Trh} (ht : TR s V k t) : (0 ≤ t.Week ∧ t.Week ≤ s.Last) ∧ (0 ≤ t.Damage ∧ t.Damage ≤ 100) ∧ (0 ≤ t.Old ∧ t.Old ≤ 100) := ht.1.rng (h.vf hk)
theorem openAsked_out {s : Ssn} {k : Int} {b : Bool} (h : VS s) (hk : ¬ (FieldOk s k ∧ b = true)) : popenAsked s k b = some (wk0, 2) := by
 obtain ⟨_, _, h3, _⟩ := not_many h.many
 unfold popenAsked
 rw [check_eq, fault_zero.2 h, Option.bind_some, if_pos rfl]
 refine (hasField_ev (by omega)).pick (fun hf => ?_) fun hf => by rw [if_neg (by simp)]; rfl
 rw [if_pos rfl, if_neg fun hb => hk ⟨hf, hb⟩]; rfl
theorem openAsked_in {s : Ssn} {k : Int} {b : Bool} (h : VS s) (hk : FieldOk s k) (hb : b = true) {r : Wk × Int} (ho : popenTrue s = some r) : popenAsked s k b = some r := by
 obtain ⟨_, _, h3, _⟩ := not_many h.many
 unfold popenAsked
 rw [check_eq, fault_zero.2 h, Option.bind_some, if_pos rfl, (hasField_ev (by omega)).some_of hk, Option.bind_some, if_pos rfl, if_pos hb, ho, Option.bind_some]
theorem Seen_ok {s : Ssn} (h : VS s) (ht : HT s s.Visits) {k w : Int} (hk : FieldOk s k) (hw : 0 ≤ w ∧ w ≤ s.Last) : ∃ lo hi, pSeen s k w = some (⟨lo, hi⟩, 0) ∧ Spn (Of s s.Visits k fun t => seenN s (fldAt s k).Crop t w) lo hi := by
 obtain ⟨W, h1, hW⟩ := openTrue_ok h ht
 have hf := h.vf hk
 have hl := (not_many h.many).1
 unfold pSeen
 rw [hasWeek_ev.some_of hw, Option.bind_some, openAsked_in h hk rfl h1, Option.bind_some, if_pos rfl]
 obtain ⟨a1, a2, a3, a4⟩ := span_eq hW hk (ht k hk) (q := ⟨fun a => pseen1 a w⟩) (h := fun t => seenN s (fldAt s k).Crop t w) (fun t h' => by
  obtain ⟨q1, q2, q3⟩ := h'.rng h hk
  show (pseen _ w).bind _ = _
  rw [show pseen (crs s (fldAt s k).Crop t) w = _ from seen_eq h.toVS0 hf.crp.1 hf.crp.2 q2 q3 (by omega), Option.bind_some])
 dsimp only
 rw [a3, Option.bind_some]
 exact ⟨_, _, rfl, a4⟩
end
end Go.Proofs.Ytmlaphekbnanjaa

namespace Go.Proofs.Ytmlaphekbnanjaa
open _root_.Go.Proofs.Try
open Go.Abs Go.Abs.Grow
set_option maxRecDepth 100000
noncomputable section
theorem aw : pawake = some true := rfl
def ThinN (s : Ssn) : Prop := s.Rules.length ≤ 5 ∧ s.Fields.length ≤ 5 ∧ s.Visits.length ≤ 9 ∧ (∀ l ∈ s.Rules, l.length ≤ 20) ∧ (faultN s = 0 → ∀ f ∈ s.Fields, manyN f ≤ 200)
def OkS (s : Ssn) : Prop := ∀ l ∈ s.Rules, l.length ≤ maxLen
theorem okS {s : Ssn} (h : ok_Ssn s) : OkS s := fun l hl => (h.2.1.2 l hl).1
theorem thin_ev {s : Ssn} (hR : OkS s) : Ev (plThin s) (ThinN s) := by
 unfold plThin ThinN
 refine Ev.imp (P := ¬ (5 : Int) < (s.Rules.length : Int) ∧ ¬ (5 : Int) < (s.Fields.length : Int) ∧ ¬ (9 : Int) < (s.Visits.length : Int) ∧ (∀ l ∈ s.Rules, l.length ≤ 20) ∧ (faultN s = 0 → ∀ f ∈ s.Fields, manyN f ≤ 200)) (Ev.itn fun h1 => Ev.itn fun h2 => Ev.itn fun h3 => ?_) ⟨fun ⟨a, b, c, d⟩ => ⟨by omega, by omega, by omega, d⟩, fun ⟨a, b, c, d⟩ => ⟨by omega, by omega, by omega, d⟩⟩
 refine Ev.loopE (l := s.Rules) (F := fun d x => plThin_L0 s d false x) (ok := fun l => l.length ≤ 20) (fin := plThin_L1 s (faultN s) 1000000 0) (fun d k l hl => ?_) (fun d => by rw [plThin_L0, if_neg (Int.lt_irrefl _), rFault_eq hR, Option.bind_some]) (by omega) fun _ => ?_
 ·have hk := (List.getElem?_eq_some_iff.1 hl).1
  rw [plThin_L0, if_pos (by omega), idx_at hl, Option.bind_some]
  constructor
  ·intro h; rw [if_neg (by omega), gd_pos (fI (by omega))]
  ·intro h; rw [if_pos (by omega)]
 ·by_cases hf : faultN s = 0
  ·have hv := fault_zero.1 hf
   refine (Ev.loopE (l := s.Fields) (F := plThin_L1 s (faultN s)) (ok := fun f => manyN f ≤ 200) (fin := some true) (P := True) (fun d k f hg => ?_) (fun d => by rw [plThin_L1, if_neg (Int.lt_irrefl _)]) (by omega) fun _ => Ev.tt trivial).imp ⟨fun h _ => h.1, fun h => ⟨h hf, trivial⟩⟩
   have hk := (List.getElem?_eq_some_iff.1 hg).1
   rw [plThin_L1, if_pos (by omega), if_neg (by rw [hf]; simp), idx_at hg, Option.bind_some, rMany_eq (hv.flds f (List.mem_of_getElem? hg)) (not_many hv.many).1, Option.bind_some]
   constructor
   ·intro h; rw [if_neg (by omega), gd_pos (fI (by omega))]
   ·intro h; rw [if_pos (by omega)]
  ·refine (Ev.loopE (l := s.Fields) (F := plThin_L1 s (faultN s)) (ok := fun _ => True) (fin := some true) (P := True) (fun d k f hg => ?_) (fun d => by rw [plThin_L1, if_neg (Int.lt_irrefl _)]) (by omega) fun _ => Ev.tt trivial).imp ⟨fun _ h => absurd h hf, fun _ => ⟨fun _ _ => trivial, trivial⟩⟩
   have hk := (List.getElem?_eq_some_iff.1 hg).1
   rw [plThin_L1, if_pos (by omega), if_pos (by rw [decide_eq_false hf]; rfl), gd_pos (fI (by omega))]
   exact ⟨fun _ => rfl, fun h => absurd trivial h⟩
theorem lSeason_eq {s : Ssn} (h : ThinN s) : plSeason s = some s := by
 obtain ⟨h1, h2, h3, h4, _⟩ := h
 have k1 := loopApp0 (l := s.Rules) (F := fun d acc x => plSeason_L0 s d s.Last acc [] [] x) (fun l : List Int => l) (fun acc => plSeason_L1 s acc 1000000 s.Last [] [] 0) (fun d k acc a ha hac => by
  have hk := (List.getElem?_eq_some_iff.1 ha).1
  have := h4 a (List.mem_of_getElem? ha)
  show plSeason_L0 s (d + 1) _ _ _ _ _ = _
  rw [plSeason_L0, if_pos (by omega), idx_at ha, Option.bind_some]
  unfold plList
  rw [gd_pos (by simp only [List.length_nil]; omega), Option.bind_some, gd_pos (by omega), gd_pos (fI (by omega))]
  rfl) (fun d acc => by show plSeason_L0 s (d + 1) _ _ _ _ _ = _; rw [plSeason_L0, if_neg (Int.lt_irrefl _)]) (d := 1000000) (by omega)
 have k2 := loopApp0 (l := s.Fields) (F := fun d acc x => plSeason_L1 s s.Rules d s.Last acc [] x) (fun f : Fld => f) (fun acc => plSeason_L2 s s.Rules acc 1000000 s.Last [] 0) (fun d k acc a ha hac => by
  have hk := (List.getElem?_eq_some_iff.1 ha).1
  show plSeason_L1 s _ (d + 1) _ _ _ _ = _
  rw [plSeason_L1, if_pos (by omega), idx_at ha, Option.bind_some]
  unfold plTo
  rw [Option.bind_some, Option.bind_some, Option.bind_some, gd_pos (by omega), gd_pos (fI (by omega))]) (fun d acc => by show plSeason_L1 s _ (d + 1) _ _ _ _ = _; rw [plSeason_L1, if_neg (Int.lt_irrefl _)]) (d := 1000000) (by omega)
 have k3 := loopApp0 (l := s.Visits) (F := fun d acc x => plSeason_L2 s s.Rules s.Fields d s.Last acc x) (fun f : Vis => f) (fun acc => some ({ s with Visits := acc } : Ssn)) (fun d k acc a ha hac => by
  have hk := (List.getElem?_eq_some_iff.1 ha).1
  show plSeason_L2 s _ _ (d + 1) _ _ _ = _
  rw [plSeason_L2, if_pos (by omega), idx_at ha, Option.bind_some]
  unfold plTo
  rw [Option.bind_some, gd_pos (by omega), gd_pos (fI (by omega))]) (fun d acc => by show plSeason_L2 s _ _ (d + 1) _ _ _ = _; rw [plSeason_L2, if_neg (Int.lt_irrefl _)]) (d := 1000000) (by omega)
 unfold plSeason
 refine k1.trans ?_
 rw [List.map_id']
 refine k2.trans ?_
 rw [List.map_id']
 refine k3.trans ?_
 rw [List.map_id']
theorem _root_.Go.Abs.Grow.Spn.rng {P : Int → Prop} {lo hi a b : Int} (h : Spn P lo hi) (hb : ∀ x, P x → a ≤ x ∧ x ≤ b) : (a ≤ lo ∧ lo ≤ b) ∧ a ≤ hi ∧ hi ≤ b := ⟨hb _ h.pl, hb _ h.ph⟩
end
end Go.Proofs.Ytmlaphekbnanjaa

namespace Go.Proofs.Ytmlaphekbnanjaa
open _root_.Go.Proofs.Try
open Go.Abs Go.Abs.Grow
set_option maxRecDepth 100000
noncomputable section
theorem collect_go : ∀ (l acc : List Crs), acc.length + l.length < 1048576 → pappendSeq_L0 l acc = some (acc ++ l)
 | [], acc, _ => by rw [List.append_nil]; rfl
 | a :: l, acc, h => by
  simp only [List.length_cons] at h
  unfold pappendSeq_L0
  rw [gd_pos (by omega), collect_go l _ (by rw [List.length_append]; simp only [List.length_cons, List.length_nil]; omega), List.append_assoc]; rfl
theorem collect_eq {l : List Crs} (h : l.length < 1048576) : pcollect l = some l := by
 unfold pcollect pappendSeq
 rw [collect_go l [] (by simpa using h), Option.bind_some]; rfl
end
end Go.Proofs.Ytmlaphekbnanjaa

namespace Go.Proofs.Ytmlaphekbnanjaa
open _root_.Go.Proofs.Try
open Go.Abs
set_option maxRecDepth 100000
noncomputable section
def Inc (n fr : Nat) (T : List Int) : Prop := T.Pairwise (· < ·) ∧ ∀ v ∈ T, (fr : Int) ≤ v ∧ v < n
theorem Inc.cons {n fr : Nat} {x : Int} {T : List Int} : Inc n fr (x :: T) ↔ ((fr : Int) ≤ x ∧ x < n) ∧ Inc n (x + 1).toNat T := by
 unfold Inc
 rw [List.pairwise_cons]
 constructor
 ·rintro ⟨⟨h1, h2⟩, h3⟩
  have hx := h3 x (List.mem_cons_self ..)
  exact ⟨hx, h2, fun v hv => by have := h1 v hv; have := h3 v (List.mem_cons_of_mem _ hv); omega⟩
 ·rintro ⟨hx, h2, h3⟩
  refine ⟨⟨fun v hv => by have := h3 v hv; omega, h2⟩, fun v hv => ?_⟩
  rcases List.mem_cons.1 hv with rfl | hv
  ·exact hx
  ·have := h3 v hv; omega
end
end Go.Proofs.Ytmlaphekbnanjaa

namespace Go.Proofs.Ytmlaphekbnanjaa
open _root_.Go.Proofs.Try
open Go.Abs Go.Abs.Grow
set_option maxRecDepth 100000
noncomputable section
theorem ready_ev {s : Ssn} (hR : OkS s) : Ev (plReady s) (ThinN s ∧ VS s) := by
 unfold plReady
 refine Ev.and (thin_ev hR) fun _ => ?_
 rw [rFault_eq hR, Option.bind_some]
 exact Ev.dec fault_zero
def wV (s : Ssn) (V : List Vis) : Ssn := { s with Visits := V }
theorem wV_vs {s : Ssn} (h : VS s) {V : List Vis} (hv : ∀ v ∈ V, VV s v) (hn : V.length ≤ 6) : VS (wV s V) := by
 refine ⟨⟨h.last, h.rne, h.fne, h.rules, fun f hf => ?_, hv⟩, ?_, h.few⟩
 ·have := h.flds f hf
  exact ⟨this.crp, this.wk, this.dm, this.old⟩
 ·have := not_many h.many
  unfold ManyS wV
  dsimp only
  omega
theorem wV_thin {s : Ssn} (h : VS s) (ht : ThinN s) {V : List Vis} (hn : V.length ≤ 6) : ThinN (wV s V) :=
 ⟨ht.1, ht.2.1, by show V.length ≤ 9; omega, ht.2.2.2.1, fun _ => ht.2.2.2.2 (fault_zero.2 h)⟩
end
end Go.Proofs.Ytmlaphekbnanjaa

namespace Go.Proofs.Ytmlaphekbnanjaa
open _root_.Go.Proofs.Try
open Go.Abs Go.Abs.Grow
set_option maxRecDepth 100000
noncomputable section
open Classical in
theorem out_go : ∀ (l : List Crs) (acc : List Dm) (g : Dm → Option Bool), (∀ d, g d = if d ∈ acc then some true else none) → acc.length + l.length < 1048576 → (∀ c ∈ l, MK.fit c.d) →
  ∃ r, poutcomes_L0 l acc (some g) = some r ∧ (∀ d, d ∈ r ↔ d ∈ acc ∨ ∃ c ∈ l, c.d = d) ∧ r.length ≤ acc.length + l.length
 | [], acc, g, _, _, _ => ⟨acc, rfl, fun d => by simp, by simp⟩
 | c :: l, acc, g, hg, hl, hf => by
  simp only [List.length_cons] at hl
  have hfc := hf c (List.mem_cons_self ..)
  have hfl := fun x hx => hf x (List.mem_cons_of_mem _ hx)
  unfold poutcomes_L0
  rw [gd_pos hfc]
  by_cases hm : c.d ∈ acc
  ·have hget : mget (some g) c.d = some true := by show g c.d = _; rw [hg, if_pos hm]
   rw [mcase_some hget, if_pos rfl, gd_pos hfc]
   show ∃ r, (some (some _)).bind _ = _ ∧ _
   rw [Option.bind_some]
   obtain ⟨r, q1, q2, q3⟩ := out_go l acc (fun j => if j = c.d then some true else g j) (fun d => by
    by_cases hd : d = c.d
    ·rw [if_pos hd, hd, if_pos hm]
    ·rw [if_neg hd, hg]) (by omega) hfl
   refine ⟨r, q1, fun d => (q2 d).trans ⟨fun h => h.elim .inl fun ⟨x, hx, he⟩ => .inr ⟨x, List.mem_cons_of_mem _ hx, he⟩, fun h => h.elim .inl fun ⟨x, hx, he⟩ => ?_⟩, by simp only [List.length_cons]; omega⟩
   rcases List.mem_cons.1 hx with rfl | hx
   ·exact .inl (he ▸ hm)
   ·exact .inr ⟨x, hx, he⟩
  ·have hget : mget (some g) c.d = none := by show g c.d = _; rw [hg, if_neg hm]
   rw [mcase_none hget, gd_pos (by omega), gd_pos hfc]
   show ∃ r, (some (some _)).bind _ = _ ∧ _
   rw [Option.bind_some]
   obtain ⟨r, q1, q2, q3⟩ := out_go l (acc ++ [c.d]) (fun j => if j = c.d then some true else g j) (fun d => by
    by_cases hd : d = c.d
    ·rw [if_pos hd, if_pos (by rw [hd]; simp)]
    ·rw [if_neg hd, hg]
     by_cases h2 : d ∈ acc
     ·rw [if_pos h2, if_pos (List.mem_append_left _ h2)]
     ·rw [if_neg h2, if_neg fun h3 => (List.mem_append.1 h3).elim h2 fun h4 => hd (List.mem_singleton.1 h4)]) (by rw [List.length_append]; simp only [List.length_cons, List.length_nil]; omega) hfl
   refine ⟨r, q1, fun d => (q2 d).trans ⟨fun h => h.elim (fun h => (List.mem_append.1 h).elim .inl fun h => .inr ⟨c, List.mem_cons_self .., (List.mem_singleton.1 h).symm⟩) fun ⟨x, hx, he⟩ => .inr ⟨x, List.mem_cons_of_mem _ hx, he⟩, fun h => h.elim (fun h => .inl (List.mem_append_left _ h)) fun ⟨x, hx, he⟩ => ?_⟩, by
    rw [List.length_append] at q3; simp only [List.length_cons, List.length_nil] at q3 ⊢; omega⟩
   rcases List.mem_cons.1 hx with rfl | hx
   ·exact .inl (by rw [← he]; simp)
   ·exact .inr ⟨x, hx, he⟩
theorem dm_fit {s : Ssn} (h : VS s) {k : Int} (hk : FieldOk s k) {t : Trh} (ht : IsT (fldAt s k) t) : MK.fit (dmOf s (fldAt s k).Crop t) := by
 have hf := h.vf hk
 have hr := ht.rng hf
 have hg : ∀ n, fitsP .i64 (dmgN (ruleOf s (fldAt s k).Crop) t.Week t.Damage n) := fun n => by
  have := dmg_rng (w := t.Week) (rule_at h.toVS0 hf.crp.1 hf.crp.2).2.okR hr.2.1.1 n
  exact fI (by omega)
 exact ⟨hg 0, hg 1, hg 2, hg 3, hg 4, hg 5, hg 6, hg 7, hg 8, hg 9, hg 10, hg 11, hg 12, trivial⟩
theorem outcomes_eq {s : Ssn} {V : List Vis} {W : Wk} (h : WOk s V W) {k : Int} (hk : FieldOk s k) : ∃ r, poutcomes W k = some r ∧ (∀ d, d ∈ r ↔ ∃ t, TR s V k t ∧ dmOf s (fldAt s k).Crop t = d) ∧ shrt r := by
 have hlen := TL_len h.vs (V := V) hk
 obtain ⟨r, q1, q2, q3⟩ := out_go ((TL s V k).map (crs s (fldAt s k).Crop)) [] (fun _ => none) (fun d => by rw [if_neg (by simp)]) (by rw [List.length_map]; simp only [List.length_nil]; omega) (fun c hc => by
  obtain ⟨t, ht, rfl⟩ := List.mem_map.1 hc
  exact dm_fit h.vs hk ((mem_TL h.vs hk).1 ht).1)
 refine ⟨r, ?_, fun d => (q2 d).trans ⟨fun h' => h'.elim (fun h' => by cases h') fun ⟨c, hc, he⟩ => ?_, fun ⟨t, ht, he⟩ => .inr ⟨_, List.mem_map.2 ⟨t, (mem_TL h.vs hk).2 ht, rfl⟩, he⟩⟩, ?_⟩
 ·unfold poutcomes
  rw [truths_eq h hk, Option.bind_some]
  exact q1
 ·obtain ⟨t, ht, rfl⟩ := List.mem_map.1 hc
  exact ⟨t, (mem_TL h.vs hk).1 ht, he⟩
 ·rw [List.length_map] at q3
  simp only [List.length_nil] at q3
  unfold shrt; omega
open Classical in
def verdN (s : Ssn) (V : List Vis) (k limit : Int) : Int := if ∀ t, TR s V k t → limit < harv s (fldAt s k).Crop t then 1 else if ∃ t, TR s V k t ∧ limit < harv s (fldAt s k).Crop t then 3 else 2
theorem Verdict_ok {s : Ssn} (h : VS s) (ht : HT s s.Visits) {k l : Int} (hk : FieldOk s k) (hl : 0 ≤ l ∧ l ≤ 100) : pVerdict s k l = some (verdN s s.Visits k l, 0) := by
 obtain ⟨W, h1, hW⟩ := openTrue_ok h ht
 have hf := h.vf hk
 have hla := (not_many h.many).1
 obtain ⟨r, q1, q2, q3⟩ := outcomes_eq hW hk
 have hev : ∀ d ∈ r, Ev (pverdict1 d l) (∃ t, TR s s.Visits k t ∧ dmOf s (fldAt s k).Crop t = d ∧ l < harv s (fldAt s k).Crop t) := fun d hd => by
  obtain ⟨t, ht', rfl⟩ := (q2 d).1 hd
  unfold pverdict1
  have e : ∀ u, TR s s.Visits k u → pharvestD (dmOf s (fldAt s k).Crop u) = some (harv s (fldAt s k).Crop u) := fun u hu => harvestD_eq h.toVS0 hla hf.crp.1 hf.crp.2 (hu.rng h hk).1.2
  rw [e t ht', Option.bind_some]
  refine Ev.dec ⟨fun q => ⟨t, ht', rfl, q⟩, fun ⟨u, hu, he, hq⟩ => ?_⟩
  have h5 := e u hu
  rw [he, e t ht'] at h5
  rw [Option.some.inj h5]; exact hq
 have same : ∀ t u, TR s s.Visits k t → TR s s.Visits k u → dmOf s (fldAt s k).Crop u = dmOf s (fldAt s k).Crop t → harv s (fldAt s k).Crop u = harv s (fldAt s k).Crop t := fun t u ht' hu he => by
  have e1 := harvestD_eq h.toVS0 hla hf.crp.1 hf.crp.2 (ht'.rng h hk).1.2
  have e2 := harvestD_eq h.toVS0 hla hf.crp.1 hf.crp.2 (hu.rng h hk).1.2
  rw [he, e1] at e2
  exact (Option.some.inj e2).symm
 unfold pVerdict verdN
 rw [isH_ev.some_of hl, Option.bind_some, openAsked_in h hk rfl h1, Option.bind_some, if_pos rfl]
 dsimp only
 rw [q1, Option.bind_some]
 refine (eachD_ev hev q3).pick (fun ha => ?_) fun ha => ?_
 ·rw [if_pos rfl, if_pos fun t ht' => by
   obtain ⟨u, hu, he, hq⟩ := ha _ ((q2 _).2 ⟨t, ht', rfl⟩)
   rw [← same t u ht' hu he]; exact hq]
 ·rw [if_neg (by simp), if_neg fun hh => ha fun d hd => by
   obtain ⟨t, ht', he⟩ := (q2 d).1 hd
   exact ⟨t, ht', he, hh t ht'⟩]
  refine (containsD_ev hev q3).pick (fun hc => ?_) fun hc => ?_
  ·obtain ⟨d, _, t, ht', _, hq⟩ := hc
   rw [if_pos rfl, if_pos ⟨t, ht', hq⟩]
  ·rw [if_neg (by simp), if_neg fun hh => by
    obtain ⟨t, ht', hq⟩ := hh
    exact hc ⟨_, (q2 _).2 ⟨t, ht', rfl⟩, t, ht', rfl, hq⟩]
theorem Verdict_no {s : Ssn} (h : VS s) (ht : ¬ HT s s.Visits) {k l : Int} (hk : FieldOk s k) (hl : 0 ≤ l ∧ l ≤ 100) : pVerdict s k l = some (0, 11) := by
 unfold pVerdict
 rw [isH_ev.some_of hl, Option.bind_some, openAsked_in h hk rfl (openTrue_no h ht), Option.bind_some, if_neg (by decide)]
end
end Go.Proofs.Ytmlaphekbnanjaa

namespace Go.Proofs.Ytmlaphekbnanjaa
open _root_.Go.Proofs.Try
open Go.Abs Go.Abs.Grow
set_option maxRecDepth 100000
noncomputable section
theorem fitK {n : Int} (h : fitsP .i64 n) : MK.fit n := h
theorem decides_go {all : List Crs} {week limit : Int} {H S : Crs → Int} (hH : ∀ c ∈ all, pharvestD c.d = some (H c)) (hS : ∀ c ∈ all, pseen c week = some (S c)) (hf : ∀ c ∈ all, fitsP .i64 (S c)) (hl : all.length ≤ 1048576) :
  ∀ (d i : Nat) (g : Int → Option Bool), i ≤ all.length → all.length - i < d → (∀ c ∈ all.take i, g (S c) = some (decide (limit < H c))) → (∀ n v, g n = some v → ∃ c ∈ all.take i, S c = n) →
  Ev (pdecides_L0 all week limit d (some g) (i : Int)) (∀ c ∈ all, ∀ c' ∈ all, S c = S c' → (limit < H c ↔ limit < H c'))
 | 0, i, _, _, h, _, _ => by omega
 | d + 1, i, g, hi, hd, h1, h2 => by
  unfold pdecides_L0
  by_cases hin : i = all.length
  ·subst hin
   rw [if_neg (by omega)]
   rw [List.take_length] at h1
   refine Ev.tt fun c hc c' hc' he => ?_
   have e1 := h1 c hc
   have e2 := h1 c' hc'
   rw [he, e2] at e1
   exact (decide_eq_decide.1 (Option.some.inj e1)).symm
  have hlt : i < all.length := by omega
  have he := List.getElem?_eq_getElem hlt
  have hm := List.getElem_mem hlt
  have htk : all.take (i + 1) = all.take i ++ [all[i]] := by rw [List.take_add_one, he]; rfl
  generalize all[i] = a at he hm htk
  rw [if_pos (by omega), idx_at he, Option.bind_some, hH a hm, Option.bind_some, hS a hm, Option.bind_some, gd_pos (fitK (hf a hm))]
  have sub : ∀ {c}, c ∈ all.take i → c ∈ all := fun h => List.mem_of_mem_take h
  have ih := fun (g' : Int → Option Bool) => decides_go (limit := limit) hH hS hf hl d (i + 1) g' (by omega) (by omega)
  have n1 : ((i + 1 : Nat) : Int) = (i : Int) + 1 := by omega
  rw [n1] at ih
  have step : (∀ c ∈ all.take i, S c = S a → decide (limit < H c) = decide (limit < H a)) → Ev (pdecides_L0 all week limit d (some fun j => @ite (Option Bool) (j = S a) (Classical.propDecidable _) (some (decide (limit < H a))) (g j)) ((i : Int) + 1)) (∀ c ∈ all, ∀ c' ∈ all, S c = S c' → (limit < H c ↔ limit < H c')) := fun hc => by
   refine ih _ (fun c hc' => ?_) fun n v hn => ?_
   ·rw [htk] at hc'
    rcases List.mem_append.1 hc' with h | h
    ·by_cases hs : S c = S a
     ·rw [if_pos hs, hc c h hs]
     ·rw [if_neg hs]; exact h1 c h
    ·rw [List.mem_singleton.1 h]; rw [if_pos rfl]
   ·by_cases hs : n = S a
    ·exact ⟨a, by rw [htk]; simp, hs.symm⟩
    ·rw [if_neg hs] at hn
     obtain ⟨c, q1, q2⟩ := h2 n v hn
     exact ⟨c, by rw [htk]; exact List.mem_append_left _ q1, q2⟩
  cases hg : g (S a) with
  | none =>
   have hget : mget (some g) (S a) = none := hg
   rw [mcase_none hget, Option.bind_some, gd_pos (fitK (hf a hm))]
   show Ev ((some (some _)).bind _) _
   rw [Option.bind_some, gd_pos (fI (by omega))]
   exact step fun c hc hs => by have := h1 c hc; rw [hs, hg] at this; cases this
  | some v =>
   have hget : mget (some g) (S a) = some v := hg
   rw [mcase_some hget]
   obtain ⟨c, q1, q2⟩ := h2 _ _ hg
   by_cases hv : v = decide (limit < H a)
   ·rw [if_pos (by rw [hv]; exact beq_self_eq_true _), Option.bind_some, gd_pos (fitK (hf a hm))]
    show Ev ((some (some _)).bind _) _
    rw [Option.bind_some, gd_pos (fI (by omega))]
    refine step fun c hc hs => ?_
    have := h1 c hc
    rw [hs, hg] at this
    rw [← hv]; exact (Option.some.inj this).symm
   ·rw [if_neg (fun hb => hv (eq_of_beq hb))]
    refine Ev.ff fun hP => hv ?_
    have := h1 c q1
    rw [q2, hg] at this
    rw [Option.some.inj this]
    exact decide_eq_decide.2 (hP c (sub q1) a hm q2)
theorem decides_ev {all : List Crs} {week limit : Int} {H S : Crs → Int} (hH : ∀ c ∈ all, pharvestD c.d = some (H c)) (hS : ∀ c ∈ all, pseen c week = some (S c)) (hf : ∀ c ∈ all, fitsP .i64 (S c)) (hl : all.length ≤ 1048576) : Ev (pdecides all week limit) (∀ c ∈ all, ∀ c' ∈ all, S c = S c' → (limit < H c ↔ limit < H c')) := by
 unfold pdecides
 exact decides_go hH hS hf hl _ 0 _ (Nat.zero_le _) (by omega) (fun c hc => by simp at hc) fun n v hn => by cases hn
def decW (s : Ssn) (V : List Vis) (k limit w : Int) : Prop := ∀ t, TR s V k t → ∀ u, TR s V k u → seenN s (fldAt s k).Crop t w = seenN s (fldAt s k).Crop u w → (limit < harv s (fldAt s k).Crop t ↔ limit < harv s (fldAt s k).Crop u)
open Classical in
def weeksL (P : Int → Prop) (lo : Int) (n : Nat) : List Int := (segI lo n).filter fun w => decide (P w)
open Classical in
theorem mem_weeksL {P : Int → Prop} {lo : Int} {n : Nat} {w : Int} : w ∈ weeksL P lo n ↔ (lo ≤ w ∧ w < lo + n) ∧ P w := by
 unfold weeksL
 rw [List.mem_filter, mem_segI, decide_eq_true_eq]
theorem segI_inc : ∀ (n : Nat) (lo : Int), (segI lo n).Pairwise (· < ·)
 | 0, _ => .nil
 | n + 1, lo => by
  unfold segI
  rw [List.pairwise_cons]
  exact ⟨fun x hx => by have := mem_segI.1 hx; omega, segI_inc n (lo + 1)⟩
theorem weeksL_inc {P : Int → Prop} {lo : Int} {n : Nat} : (weeksL P lo n).Pairwise (· < ·) := (segI_inc n lo).filter _
theorem weeksL_len {P : Int → Prop} {lo : Int} {n : Nat} : (weeksL P lo n).length ≤ n := by
 unfold weeksL
 exact Nat.le_trans (List.length_filter_le _ _) (by rw [segI_len]; exact Nat.le_refl _)
open Classical in
theorem weeksL_succ {P : Int → Prop} {lo : Int} {n : Nat} : weeksL P lo (n + 1) = (if P lo then [lo] else []) ++ weeksL P (lo + 1) n := by
 unfold weeksL
 show (lo :: segI (lo + 1) n).filter _ = _
 rw [List.filter_cons]
 by_cases h : P lo
 ·rw [if_pos (decide_eq_true h), if_pos h]; rfl
 ·rw [if_neg (by simpa using h), if_neg h]; rfl
theorem seen_rng {s : Ssn} (h : VS s) {k : Int} (hk : FieldOk s k) {t : Trh} (ht : IsT (fldAt s k) t) (w : Int) : 0 ≤ seenN s (fldAt s k).Crop t w ∧ seenN s (fldAt s k).Crop t w ≤ 100 := by
 have hff := h.vf hk
 have := ht.rng hff
 have := dmg_rng' h.toVS0 hff.crp.1 hff.crp.2 (t := t) this.2.1.1 w
 unfold seenN; omega
theorem dec_crs {s : Ssn} {V : List Vis} {W : Wk} (h : WOk s V W) {k : Int} (hk : FieldOk s k) {limit w : Int} (hw : 0 ≤ w ∧ w ≤ s.Last) : Ev (pdecides ((TL s V k).map (crs s (fldAt s k).Crop)) w limit) (decW s V k limit w) := by
 have hv := h.vs
 have hla := (not_many hv.many).1
 have hff := hv.vf hk
 have hlen := TL_len hv (V := V) hk
 refine (decides_ev (H := fun c => harv s (fldAt s k).Crop c.t) (S := fun c => seenN s (fldAt s k).Crop c.t w) (fun c hc => ?_) (fun c hc => ?_) (fun c hc => ?_) (by rw [List.length_map]; omega)).imp ⟨fun hP t ht u hu he => ?_, fun hP c hc c' hc' he => ?_⟩
 ·obtain ⟨t, ht, rfl⟩ := List.mem_map.1 hc
  have hr := ((mem_TL hv hk).1 ht).rng hv hk
  exact harvestD_eq hv.toVS0 hla hff.crp.1 hff.crp.2 hr.1.2
 ·obtain ⟨t, ht, rfl⟩ := List.mem_map.1 hc
  have hr := ((mem_TL hv hk).1 ht).rng hv hk
  exact seen_eq hv.toVS0 hff.crp.1 hff.crp.2 hr.2.1 hr.2.2 (by omega)
 ·obtain ⟨t, ht, rfl⟩ := List.mem_map.1 hc
  have := seen_rng hv hk ((mem_TL hv hk).1 ht).1 w
  exact fI (by dsimp only [crs]; omega)
 ·exact hP _ (List.mem_map.2 ⟨t, (mem_TL hv hk).2 ht, rfl⟩) _ (List.mem_map.2 ⟨u, (mem_TL hv hk).2 hu, rfl⟩) he
 ·obtain ⟨t, ht, rfl⟩ := List.mem_map.1 hc
  obtain ⟨u, hu, rfl⟩ := List.mem_map.1 hc'
  exact hP t ((mem_TL hv hk).1 ht) u ((mem_TL hv hk).1 hu) he
theorem Dec_go {s : Ssn} {V : List Vis} {W : Wk} (h : WOk s V W) (hl : s.Last ≤ 12) {k : Int} (hk : FieldOk s k) {limit : Int} : ∀ (d : Nat) (x : Int) (m : Nat) (acc : List Int), 0 ≤ x → x + m = s.Last + 1 → m < d → (acc.length : Int) ≤ x → pDecides_L0 s limit ((TL s V k).map (crs s (fldAt s k).Crop)) d acc x = some (acc ++ weeksL (decW s V k limit) x m, 0)
 | 0, _, m, _, _, _, h, _ => by omega
 | d + 1, x, m, acc, h0, hx, hd, ha => by
  unfold pDecides_L0
  cases m with
  | zero => rw [if_neg (by omega)]; simp [weeksL, segI]
  | succ m =>
   rw [if_pos (by omega), weeksL_succ]
   refine (dec_crs h hk (limit := limit) (w := x) (by omega)).pick (fun hP => ?_) fun hP => ?_
   ·rw [if_pos rfl, gd_pos (by omega), gd_pos (fI (by omega)), Dec_go h hl hk d (x + 1) m _ (by omega) (by omega) (by omega) (by rw [List.length_append]; simp only [List.length_cons, List.length_nil]; omega), if_pos hP, List.append_assoc]
   ·rw [if_neg (by simp), gd_pos (fI (by omega)), Dec_go h hl hk d (x + 1) m _ (by omega) (by omega) (by omega) (by omega), if_neg hP]; rfl
theorem Decides_ok {s : Ssn} (h : VS s) (ht : HT s s.Visits) {k l : Int} (hk : FieldOk s k) (hl : 0 ≤ l ∧ l ≤ 100) : pDecides s k l = some (weeksL (decW s s.Visits k l) 0 (s.Last + 1).toNat, 0) := by
 obtain ⟨W, h1, hW⟩ := openTrue_ok h ht
 have hla := (not_many h.many).1
 have hlast := h.last
 have hlen : ((TL s s.Visits k).map (crs s (fldAt s k).Crop)).length < 1048576 := by rw [List.length_map]; have := TL_len h (V := s.Visits) hk; omega
 unfold pDecides
 rw [isH_ev.some_of hl, Option.bind_some, openAsked_in h hk rfl h1, Option.bind_some, if_pos rfl]
 dsimp only
 rw [truths_eq hW hk, Option.bind_some, collect_eq hlen, Option.bind_some, gd_pos (fI (by omega)), Dec_go hW hla hk _ 0 (s.Last + 1).toNat [] (Int.le_refl _) (by omega) (by omega) (by simp)]
 rfl
theorem Decides_no {s : Ssn} (h : VS s) (ht : ¬ HT s s.Visits) {k l : Int} (hk : FieldOk s k) (hl : 0 ≤ l ∧ l ≤ 100) : pDecides s k l = some ([], 11) := by
 unfold pDecides
 rw [isH_ev.some_of hl, Option.bind_some, openAsked_in h hk rfl (openTrue_no h ht), Option.bind_some, if_neg (by decide)]
end
end Go.Proofs.Ytmlaphekbnanjaa

namespace Go.Proofs.Ytmlaphekbnanjaa
open _root_.Go.Proofs.Try
open Go.Abs Go.Abs.Grow
set_option maxRecDepth 100000
noncomputable section
theorem dec_all {s : Ssn} {V : List Vis} {k l : Int} (h : verdN s V k l ≠ 3) (w : Int) : decW s V k l w := by
 intro t ht u hu _
 unfold verdN at h
 by_cases p1 : ∀ t, TR s V k t → l < harv s (fldAt s k).Crop t
 ·exact ⟨fun _ => p1 u hu, fun _ => p1 t ht⟩
 ·rw [if_neg p1] at h
  by_cases p2 : ∃ t, TR s V k t ∧ l < harv s (fldAt s k).Crop t
  ·rw [if_pos p2] at h; exact absurd rfl h
  ·exact ⟨fun q => absurd ⟨t, ht, q⟩ p2, fun q => absurd ⟨u, hu, q⟩ p2⟩
open Classical in
theorem weeksL_all {P : Int → Prop} {lo : Int} {n : Nat} (h : ∀ w, P w) : (weeksL P lo n).length = n := by
 unfold weeksL
 rw [List.filter_eq_self.2 fun w _ => decide_eq_true (h w), segI_len]
theorem dec_seen {s : Ssn} {V : List Vis} {k l w m : Int} (hd : decW s V k l w) : verdN (wV s (V ++ [({ Field := k, Week := w, Seen := ⟨m, m⟩ } : Vis)])) (V ++ [({ Field := k, Week := w, Seen := ⟨m, m⟩ } : Vis)]) k l ≠ 3 := by
 have key : ∀ t, TR (wV s (V ++ [({ Field := k, Week := w, Seen := ⟨m, m⟩ } : Vis)])) (V ++ [({ Field := k, Week := w, Seen := ⟨m, m⟩ } : Vis)]) k t → TR s V k t ∧ seenN s (fldAt s k).Crop t w = m := fun t ht => by
  refine ⟨⟨ht.1, fun v hv hvk => ht.2 v (List.mem_append_left _ hv) hvk⟩, ?_⟩
  have h1 := ht.2 _ (List.mem_append_right _ (List.mem_singleton.2 rfl)) rfl
  have h2 : inR (⟨m, m⟩ : Rg) (seenN s (fldAt s k).Crop t w) := h1
  unfold inR at h2
  dsimp only at h2
  omega
 intro h
 unfold verdN at h
 by_cases p1 : ∀ t, TR (wV s (V ++ [({ Field := k, Week := w, Seen := ⟨m, m⟩ } : Vis)])) (V ++ [({ Field := k, Week := w, Seen := ⟨m, m⟩ } : Vis)]) k t → l < harv (wV s (V ++ [({ Field := k, Week := w, Seen := ⟨m, m⟩ } : Vis)])) (fldAt (wV s (V ++ [({ Field := k, Week := w, Seen := ⟨m, m⟩ } : Vis)])) k).Crop t
 ·rw [if_pos p1] at h; cases h
 ·rw [if_neg p1] at h
  by_cases p2 : ∃ t, TR (wV s (V ++ [({ Field := k, Week := w, Seen := ⟨m, m⟩ } : Vis)])) (V ++ [({ Field := k, Week := w, Seen := ⟨m, m⟩ } : Vis)]) k t ∧ l < harv (wV s (V ++ [({ Field := k, Week := w, Seen := ⟨m, m⟩ } : Vis)])) (fldAt (wV s (V ++ [({ Field := k, Week := w, Seen := ⟨m, m⟩ } : Vis)])) k).Crop t
  ·refine p1 fun u hu => ?_
   obtain ⟨t, ht, hl⟩ := p2
   obtain ⟨a1, a2⟩ := key t ht
   obtain ⟨b1, b2⟩ := key u hu
   exact (hd t a1 u b1 (a2.trans b2.symm)).1 hl
  ·rw [if_neg p2] at h; cases h
theorem dcd_go {s : Ssn} (h : VS s) (ht : ThinN s) (hT : HT s s.Visits) (hv5 : s.Visits.length ≤ 5) {which limit sn k l : Int} (hwh : wrapZ .i64 which % (s.Fields.length : Int) = k) (hlm : wrapZ .i64 limit % 101 = l) (hsn : wrapZ .i64 sn = sn ∧ 0 ≤ sn ∧ sn ≤ 255) (hk : FieldOk s k) (hl : 0 ≤ l ∧ l ≤ 100) {r : List Int × Int} (hr : r.1 = weeksL (decW s s.Visits k l) 0 (s.Last + 1).toNat) : ∀ (d i : Nat) (b : Bool), i ≤ r.1.length → r.1.length - i < d → pGrowthDecided_L0 s which limit sn r d b (i : Int) = some true
 | 0, i, _, _, h => by omega
 | d + 1, i, b, hi, hd => by
  obtain ⟨hla, _, h3, h4⟩ := not_many h.many
  have hlast := h.last
  have hlen : r.1.length ≤ 1000 := by
   have := weeksL_len (P := decW s s.Visits k l) (lo := 0) (n := (s.Last + 1).toNat)
   rw [hr]; omega
  unfold pGrowthDecided_L0
  by_cases hin : i = r.1.length
  ·rw [if_neg (by omega), aw, Option.bind_some]
  have hlt : i < r.1.length := by omega
  have he := List.getElem?_eq_getElem hlt
  have hm := List.getElem_mem hlt
  have hmono : ∀ j, j + 1 = i → ∀ y, r.1[j]? = some y → y < r.1[i] := fun j hj y hy => by
   have hp := weeksL_inc (P := decW s s.Visits k l) (lo := 0) (n := (s.Last + 1).toNat)
   rw [← hr, List.pairwise_iff_getElem] at hp
   obtain ⟨hj1, hj2⟩ := List.getElem?_eq_some_iff.1 hy
   rw [← hj2]
   exact hp j i hj1 hlt (by omega)
  generalize r.1[i] = w at he hm hmono
  rw [hr] at hm
  obtain ⟨hw, hdw⟩ := mem_weeksL.1 hm
  have hw2 : 0 ≤ w ∧ w ≤ s.Last := by omega
  obtain ⟨lo, hi', c1, c2⟩ := Seen_ok h hT hk hw2
  have hsr := c2.rng (a := 0) (b := 100) fun x hx => by
   obtain ⟨t, htt, rfl⟩ := hx
   exact seen_rng h hk htt.1 _
  have hle := (c2.all _ c2.ph).1
  have q1 := Int.emod_nonneg sn (show hi' - lo + 1 ≠ 0 by omega)
  have q2 := Int.emod_lt_of_pos sn (show 0 < hi' - lo + 1 by omega)
  obtain ⟨m, hme⟩ : ∃ m, lo + sn % (hi' - lo + 1) = m := ⟨_, rfl⟩
  have hm2 : lo ≤ m ∧ m ≤ hi' := by omega
  have hix := idx_at he
  have n1 : (i : Int) + 1 = ((i + 1 : Nat) : Int) := by omega
  have rec' := dcd_go h ht hT hv5 hwh hlm hsn hk hl hr d (i + 1) b (by omega) (by omega)
  obtain ⟨v, hve⟩ : ∃ v : Vis, v = { Field := k, Week := w, Seen := ⟨m, m⟩ } := ⟨_, rfl⟩
  have hvv : ∀ u ∈ s.Visits ++ [v], VV s u := fun u hu => by
   rcases List.mem_append.1 hu with h9 | h9
   ·exact h.vis u h9
   ·rw [List.mem_singleton.1 h9, hve]
    refine ⟨hk, hw2, ?_⟩
    unfold Wi
    dsimp only
    omega
  have hVl : (s.Visits ++ [v]).length ≤ 6 := by rw [List.length_append]; simp only [List.length_cons, List.length_nil]; omega
  have h' : VS (wV s (s.Visits ++ [v])) := wV_vs h hvv hVl
  have ht' : ThinN (wV s (s.Visits ++ [v])) := wV_thin h ht hVl
  have hk' : FieldOk (wV s (s.Visits ++ [v])) k := hk
  have hver : ∃ o, pVerdict (wV s (s.Visits ++ [v])) k l = some o ∧ ((o.2 = 0 ∧ o.1 ≠ 3) ∨ o.2 = 11) := by
   by_cases hT' : HT (wV s (s.Visits ++ [v])) (s.Visits ++ [v])
   ·refine ⟨_, Verdict_ok h' hT' hk' hl, .inl ⟨rfl, ?_⟩⟩
    have := dec_seen (m := m) hdw
    rw [← hve] at this
    exact this
   ·exact ⟨_, Verdict_no h' hT' hk' hl, .inr rfl⟩
  obtain ⟨o, ho1, ho2⟩ := hver
  have ex : ({ Last := s.Last, Rules := s.Rules, Fields := s.Fields, Visits := s.Visits ++ [v] } : Ssn) = wV s (s.Visits ++ [v]) := rfl
  rw [if_pos (by omega)]
  simp only [hix, Option.bind_some, hwh, hlm, hsn.1, List.nil_append, List.length_nil]
  rw [if_neg (by omega), if_neg (by omega)]
  by_cases h0 : (0 : Int) < (i : Int)
  ·have e1 := List.getElem?_eq_getElem (show i - 1 < r.1.length by omega)
   have e2 := hmono (i - 1) (by omega) _ e1
   rw [if_pos h0, gd_pos (fI (by omega)), show (i : Int) - 1 = ((i - 1 : Nat) : Int) by omega, idx_at e1, Option.bind_some, if_neg (by omega), lSeason_eq ht, Option.bind_some, c1, Option.bind_some]
   dsimp only
   rw [if_pos rfl, if_neg (by omega), if_neg (by omega), if_neg (by omega), gd_pos (fI (by omega)), gd_pos (fI (by omega)), gd_pos (by omega), gd_pos (by omega), gd_pos (fI (by omega)), gd_pos (fI (by omega)), gd_pos (by omega), hme, ← hve, gd_pos (by simp only [List.length_cons, List.length_nil]; omega), ex, lSeason_eq ht', Option.bind_some, ho1, Option.bind_some, n1, gd_pos (fI (by omega)), rec']
   rcases ho2 with ⟨g1, g2⟩ | g1
   ·rw [if_pos g1, if_neg g2]
   ·rw [if_neg (by omega), if_pos g1]
  ·rw [if_neg h0, lSeason_eq ht, Option.bind_some, c1, Option.bind_some]
   dsimp only
   rw [if_pos rfl, if_neg (by omega), if_neg (by omega), if_neg (by omega), gd_pos (fI (by omega)), gd_pos (fI (by omega)), gd_pos (by omega), gd_pos (by omega), gd_pos (fI (by omega)), gd_pos (fI (by omega)), gd_pos (by omega), hme, ← hve, gd_pos (by simp only [List.length_cons, List.length_nil]; omega), ex, lSeason_eq ht', Option.bind_some, ho1, Option.bind_some, n1, gd_pos (fI (by omega)), rec']
   rcases ho2 with ⟨g1, g2⟩ | g1
   ·rw [if_pos g1, if_neg g2]
   ·rw [if_neg (by omega), if_pos g1]
theorem dcd_L1 {s : Ssn} {which limit sn : Int} {r : List Int × Int} : ∀ (d : Nat) (b : Bool) (i : Int), pGrowthDecided_L1 s which limit sn r d b i = pGrowthDecided_L0 s which limit sn r d b i
 | 0, _, _ => rfl
 | d + 1, b, i => by
  unfold pGrowthDecided_L1 pGrowthDecided_L0
  simp only [dcd_L1 d]
theorem m_GrowthDecided {s : Ssn} {which limit sn : Int} (hs : ok_Ssn s) (hwh : fitsP .u8 which) (hlm : fitsP .u8 limit) (hsn : fitsP .u8 sn) : pGrowthDecided s which limit sn = some true := by
 have hR := okS hs
 unfold pGrowthDecided
 refine (ready_ev hR).pick (fun ⟨ht, h⟩ => ?_) fun _ => by rw [if_neg (by simp), aw, Option.bind_some]
 rw [if_pos rfl]
 obtain ⟨hla, _, h3, h4⟩ := not_many h.many
 by_cases hv : (5 : Int) < (s.Visits.length : Int)
 ·rw [if_pos hv, aw, Option.bind_some]
 rw [if_neg hv]
 have hlast := h.last
 have hfn := h.fne
 have u1 := fU8 hwh; have u2 := fU8 hlm; have u3 := fU8 hsn
 have w1 : wrapZ .i64 which = which := wz (fI (by omega))
 have w2 : wrapZ .i64 limit = limit := wz (fI (by omega))
 have w3 : wrapZ .i64 sn = sn := wz (fI (by omega))
 have m1 := Int.emod_nonneg which (show (s.Fields.length : Int) ≠ 0 by omega)
 have m1' := Int.emod_lt_of_pos which (show (0 : Int) < s.Fields.length by omega)
 have m2 := Int.emod_nonneg limit (show (101 : Int) ≠ 0 by omega)
 have m2' := Int.emod_lt_of_pos limit (show (0 : Int) < 101 by omega)
 obtain ⟨k, hk⟩ : ∃ k, wrapZ .i64 which % (s.Fields.length : Int) = k := ⟨_, rfl⟩
 obtain ⟨l, hl⟩ : ∃ l, wrapZ .i64 limit % (101 : Int) = l := ⟨_, rfl⟩
 have hk2 : FieldOk s k := by rw [w1] at hk; exact ⟨by omega, by omega⟩
 have hl2 : 0 ≤ l ∧ l ≤ 100 := by rw [w2] at hl; omega
 simp only [hk, hl]
 rw [w1, w2]
 rw [gd_pos (by omega), gd_pos (by omega), gd_pos (fI (by have := hk2.1; have := hk2.2; omega)), gd_pos (by omega), gd_pos (by omega), gd_pos (fI (by omega)), lSeason_eq ht, Option.bind_some]
 by_cases hT : HT s s.Visits
 ·rw [Verdict_ok h hT hk2 hl2, Option.bind_some, Option.bind_some, Decides_ok h hT hk2 hl2, Option.bind_some]
  dsimp only
  rw [if_pos rfl, if_pos rfl]
  have go := dcd_go (which := which) (limit := limit) (sn := sn) h ht hT (by omega) hk hl ⟨w3, by omega, by omega⟩ hk2 hl2 (r := (weeksL (decW s s.Visits k l) 0 (s.Last + 1).toNat, 0)) rfl ((weeksL (decW s s.Visits k l) 0 (s.Last + 1).toNat).length + 1) 0 false (Nat.zero_le _) (by dsimp only; omega)
  by_cases h9 : verdN s s.Visits k l = 3
  ·rw [if_pos h9, dcd_L1]; exact go
  ·rw [if_neg h9, gd_pos (fI (by omega)), if_pos (by rw [weeksL_all fun w => dec_all h9 w]; omega)]; exact go
 ·rw [Verdict_no h hT hk2 hl2, Option.bind_some, Option.bind_some, Decides_no h hT hk2 hl2, Option.bind_some]
  dsimp only
  rw [if_pos rfl, if_neg (by decide), if_pos rfl, aw, Option.bind_some]
end
end Go.Proofs.Ytmlaphekbnanjaa

namespace Go.Proofs.Ytmlaphekbnanjaa
open _root_.Go.Proofs.Try
open Go.ChangeShapes Go.WideShapes Go.ChangeAt Go.RowKit Go.Abs
set_option maxRecDepth 100000
theorem op3 : Opens prog 3 Int (fitsP .i64) := opens_int (by kernel_rfl)
theorem op39 : Opens prog 39 (List Int) (fun l => l.length ≤ maxLen ∧ ∀ a0 ∈ l, fitsP .i64 a0) := opens_slice (by kernel_rfl) (by kernel_rfl) op3
theorem op27 : Opens prog 27 (List (List Int)) (fun l => l.length ≤ maxLen ∧ ∀ a0 ∈ l, a0.length ≤ maxLen ∧ ∀ a1 ∈ a0, fitsP .i64 a1) := opens_slice (by kernel_rfl) (by kernel_rfl) op39
theorem op60 : Opens prog 60 Rg ok_Rg := opens_struct (fs := [(3, 0), (3, 1)]) (by kernel_rfl) (by kernel_rfl) (opensFs_cons (α := Int) (ok := fitsP .i64) (k := 1) op3 (by kernel_rfl) rfl (opensFs_cons (α := Int) (ok := fitsP .i64) (k := 1) op3 (by kernel_rfl) rfl opensFs_nil)) (by kernel_rfl) fun m vs h => by
 obtain ⟨a0, c0, r0, m0, h0, p0, k0, s0, ⟨a1, c1, r1, m1, h1, p1, k1, s1, rfl⟩⟩ := h
 have p0 : c0 = [.int .i64 a0] := p0; subst p0
 have p1 : c1 = [.int .i64 a1] := p1; subst p1
 subst h1 h0
 exact ⟨⟨a0, a1⟩, rfl, ⟨k0, k1⟩⟩
theorem op70 : Opens prog 70 Fld ok_Fld := opens_struct (fs := [(3, 0), (60, 1), (60, 3), (60, 5)]) (by kernel_rfl) (by kernel_rfl) (opensFs_cons (α := Int) (ok := fitsP .i64) (k := 1) op3 (by kernel_rfl) rfl (opensFs_cons (α := Rg) (ok := ok_Rg) (k := 2) op60 (by kernel_rfl) rfl (opensFs_cons (α := Rg) (ok := ok_Rg) (k := 2) op60 (by kernel_rfl) rfl (opensFs_cons (α := Rg) (ok := ok_Rg) (k := 2) op60 (by kernel_rfl) rfl opensFs_nil)))) (by kernel_rfl) fun m vs h => by
 obtain ⟨a0, c0, r0, m0, h0, p0, k0, s0, ⟨a1, c1, r1, m1, h1, p1, k1, s1, ⟨a2, c2, r2, m2, h2, p2, k2, s2, ⟨a3, c3, r3, m3, h3, p3, k3, s3, rfl⟩⟩⟩⟩ := h
 have p0 : c0 = [.int .i64 a0] := p0; subst p0
 have p1 : c1 = [.int .i64 a1.Lo, .int .i64 a1.Hi] := p1; subst p1
 have p2 : c2 = [.int .i64 a2.Lo, .int .i64 a2.Hi] := p2; subst p2
 have p3 : c3 = [.int .i64 a3.Lo, .int .i64 a3.Hi] := p3; subst p3
 subst h3 h2 h1 h0
 exact ⟨⟨a0, a1, a2, a3⟩, rfl, ⟨k0, k1, k2, k3⟩⟩
theorem op56 : Opens prog 56 (List Fld) (fun l => l.length ≤ maxLen ∧ ∀ a0 ∈ l, ok_Fld a0) := opens_slice (by kernel_rfl) (by kernel_rfl) op70
theorem op62 : Opens prog 62 Vis ok_Vis := opens_struct (fs := [(3, 0), (3, 1), (60, 2)]) (by kernel_rfl) (by kernel_rfl) (opensFs_cons (α := Int) (ok := fitsP .i64) (k := 1) op3 (by kernel_rfl) rfl (opensFs_cons (α := Int) (ok := fitsP .i64) (k := 1) op3 (by kernel_rfl) rfl (opensFs_cons (α := Rg) (ok := ok_Rg) (k := 2) op60 (by kernel_rfl) rfl opensFs_nil))) (by kernel_rfl) fun m vs h => by
 obtain ⟨a0, c0, r0, m0, h0, p0, k0, s0, ⟨a1, c1, r1, m1, h1, p1, k1, s1, ⟨a2, c2, r2, m2, h2, p2, k2, s2, rfl⟩⟩⟩ := h
 have p0 : c0 = [.int .i64 a0] := p0; subst p0
 have p1 : c1 = [.int .i64 a1] := p1; subst p1
 have p2 : c2 = [.int .i64 a2.Lo, .int .i64 a2.Hi] := p2; subst p2
 subst h2 h1 h0
 exact ⟨⟨a0, a1, a2⟩, rfl, ⟨k0, k1, k2⟩⟩
theorem op57 : Opens prog 57 (List Vis) (fun l => l.length ≤ maxLen ∧ ∀ a0 ∈ l, ok_Vis a0) := opens_slice (by kernel_rfl) (by kernel_rfl) op62
theorem op59 : Opens prog 59 Ssn ok_Ssn := opens_struct (fs := [(3, 0), (27, 1), (56, 2), (57, 3)]) (by kernel_rfl) (by kernel_rfl) (opensFs_cons (α := Int) (ok := fitsP .i64) (k := 1) op3 (by kernel_rfl) rfl (opensFs_cons (α := List (List Int)) (ok := (fun l => l.length ≤ maxLen ∧ ∀ a0 ∈ l, a0.length ≤ maxLen ∧ ∀ a1 ∈ a0, fitsP .i64 a1)) (k := 1) op27 (by kernel_rfl) rfl (opensFs_cons (α := List Fld) (ok := (fun l => l.length ≤ maxLen ∧ ∀ a0 ∈ l, ok_Fld a0)) (k := 1) op56 (by kernel_rfl) rfl (opensFs_cons (α := List Vis) (ok := (fun l => l.length ≤ maxLen ∧ ∀ a0 ∈ l, ok_Vis a0)) (k := 1) op57 (by kernel_rfl) rfl opensFs_nil)))) (by kernel_rfl) fun m vs h => by
 obtain ⟨a0, c0, r0, m0, h0, p0, k0, s0, ⟨a1, c1, r1, m1, h1, p1, k1, s1, ⟨a2, c2, r2, m2, h2, p2, k2, s2, ⟨a3, c3, r3, m3, h3, p3, k3, s3, rfl⟩⟩⟩⟩ := h
 have p0 : c0 = [.int .i64 a0] := p0; subst p0
 obtain ⟨d1, rfl, p1⟩ := p1
 obtain ⟨d2, rfl, p2⟩ := p2
 obtain ⟨d3, rfl, p3⟩ := p3
 subst h3 h2 h1 h0
 exact ⟨⟨a0, a1, a2, a3⟩, ⟨_, _, _, rfl, p1, p2, p3⟩, ⟨k0, k1, k2, k3⟩⟩
theorem laid : laidOutB prog = true := by kernel_rfl
theorem ownNone : ownKnob prog.godebug = none := by kernel_rfl
theorem GrowthDecided_lifted (os : Os) (started : os.Started) (H : Type) (enc : TypeId × Value → H) :
    ReturnsInHanded {} Try.checked os 5 .any (Rows.growthDecidedSpec.pre6 enc Try.prog Try.f5 Rows.growthDecidedRow.domain false) (Rows.growthDecidedSpec.post enc Try.prog Try.f5 false true false false) := by
  refine returnsInHanded_of_change (C := Try.checked) ownNone started (by kernel_rfl) Try.func5
    (ChangeSpec.witness6 (enc := enc) (C := Try.checked) false ⟨#[], #[.agg #[.int .i64 0, .slice none 0 0, .slice none 0 0, .slice none 0 0], .int .u8 0, .int .u8 0, .int .u8 0], []⟩ 8 (by kernel_rfl) (by kernel_rfl) (by kernel_rfl) (by kernel_rfl)) ?_
  intro W base args ds gs before hval0 hW hcnd _
  have hval : ∀ (j : Nat) t v, Try.f5.params[j]? = some t → args[j]? = some v → Value.okWide Try.prog W .any base t v := hval0
  have hW' := hW
  obtain ⟨p, q, hA0, hV, rfl, hfz, hnd⟩ := hW
  have hA : DataW.TrodAll enc Try.prog W 0 (fun _ => true) true Try.f5.params.toList args.toList ds p := hA0
  rw [Try.params5] at hA hval
  obtain ⟨v0, v1, v2, v3, d0, d1, d2, d3, p0, p1, p2, p3, rfl, rfl, rfl, h0, h1, h2, h3⟩ := trodAll_four hA
  obtain ⟨rfl, rfl⟩ := trodVars_none hV
  obtain ⟨n1, hv1⟩ := okWide_int Try.underlying5 (hval 1 5 v1 rfl rfl)
  obtain ⟨n2, hv2⟩ := okWide_int Try.underlying5 (hval 2 5 v2 rfl rfl)
  obtain ⟨n3, hv3⟩ := okWide_int Try.underlying5 (hval 3 5 v3 rfl rfl)
  have hlt : ∀ x ∈ p0 ++ p1 ++ p2 ++ p3, x.block < W.heap.size := fun x hx => by simpa using hW'.lt x (by simpa using hx)
  obtain ⟨fu0, hf0⟩ := id h0
  obtain ⟨fu1, hf1⟩ := id h1
  obtain ⟨fu2, hf2⟩ := id h2
  obtain ⟨fu3, hf3⟩ := id h3
  clear hA0 hval0
  obtain ⟨e0, m0, w0, a_0, le0, sv0, lay0, cr0, rep0, ok0⟩ := op59 H enc W true _ _ _ hf0 _ _ (Lay.nil W)
  obtain ⟨i1, hc1, _, hw1⟩ := DataW.trod_int Try.underlying5 hf1
  obtain ⟨i2, hc2, _, hw2⟩ := DataW.trod_int Try.underlying5 hf2
  obtain ⟨i3, hc3, _, hw3⟩ := DataW.trod_int Try.underlying5 hf3
  obtain ⟨c0_1, c0_2, c0_3, rfl, g0_1, g0_2, g0_3⟩ := rep0
  obtain ⟨cs0, hv0, cl0⟩ : ∃ cs, v0 = .agg cs ∧ v0.cells.toList = cs.toList := by
    have hl := cr0.length
    cases v0 with
    | agg cs => exact ⟨cs, rfl, rfl⟩
    | _ => exact absurd hl (by simp [Value.cells])
  subst hv0
  subst hv1
  have hi1 : i1 = n1 := by
    have h : [Value.int .u8 n1] = [.int .u8 i1] := hc1
    cases h; rfl
  subst hi1
  subst hv2
  have hi2 : i2 = n2 := by
    have h : [Value.int .u8 n2] = [.int .u8 i2] := hc2
    cases h; rfl
  subst hi2
  subst hv3
  have hi3 : i3 = n3 := by
    have h : [Value.int .u8 n3] = [.int .u8 i3] := hc3
    cases h; rfl
  subst hi3
  have hargs : All2 (VR e0) [.agg 4 [.int .i64 a_0.Last, c0_1, c0_2, c0_3], .c (.int .u8 i1), .c (.int .u8 i2), .c (.int .u8 i3)] [.agg cs0, .int .u8 i1, .int .u8 i2, .int .u8 i3] := .cons ⟨cs0, rfl, cr0, rfl⟩ (.cons rfl (.cons rfl (.cons rfl .nil)))
  refine (callsIn_wide.1 (call_of fits htab (s_GrowthDecided (s := a_0) (which := i1) (limit := i2) (sn := i3) lay0.pre g0_1 g0_2 g0_3 (m_GrowthDecided ok0 (wf_fits hw1) (wf_fits hw2) (wf_fits hw3)) (Q := fun v _ => v = .c (.bool true)) fun _ _ => rfl) lay0.hr (args' := #[.agg cs0, .int .u8 i1, .int .u8 i2, .int .u8 i3]) hargs 0)).mono fun en W' hp => ?_
  obtain ⟨v, v', e', m', rfl, hst, hvr, rfl⟩ := hp
  have hv' : v' = .bool true := hvr
  subst hv'
  have hbelow := lay0.below hst
  refine ⟨_, rfl, [d0, d1, d2, d3], [], p0 ++ p1 ++ p2 ++ p3, [], p0 ++ (p1 ++ (p2 ++ p3)), [], by simpa using hW', trodAll_mk1 (shut_bool Try.underlying4 _),
    trodAll_mk4 (Below.trod laid (by kernel_rfl) (of_decide_eq_true (by kernel_rfl)) h0 hbelow fun x hx => hlt x (by simp [hx])) (Below.trod laid (by kernel_rfl) (of_decide_eq_true (by kernel_rfl)) h1 hbelow fun x hx => hlt x (by simp [hx])) (Below.trod laid (by kernel_rfl) (of_decide_eq_true (by kernel_rfl)) h2 hbelow fun x hx => hlt x (by simp [hx])) (Below.trod laid (by kernel_rfl) (of_decide_eq_true (by kernel_rfl)) h3 hbelow fun x hx => hlt x (by simp [hx])), rfl, lay0.kept hst _, fun hc => by cases hc⟩
theorem GrowthDecided_holds : Rows.GrowthDecidedSaid :=
 OpenClaim.holds_of_wide 5 Try.f5 rfl rfl rfl rfl rfl rfl rfl ⟨rfl, rfl, rfl, rfl, rfl⟩ rfl rfl rfl rfl rfl (by kernel_rfl) Try.func5 (by kernel_rfl)
  (of_decide_eq_true (by kernel_rfl)) (by unfold Func.isWrapper; first | (rw [if_pos (by decide +kernel)]; kernel_rfl) | (rw [if_neg (by decide +kernel)]; exact ⟨rfl, rfl⟩))
  (fun os started H enc _ => GrowthDecided_lifted os started H enc)
end Go.Proofs.Ytmlaphekbnanjaa

