/- TariffTotals, for all that it can be called with, returns true. Condition: none. -/
import Derived.Test.YtbhdgedghfibcaaTqH
import GoSem.Step
import GoSem.ClaimKeys
import Derived.DeepKeys2
import Derived.RangeFuncLeaves
import Derived.OrdersIn
import Derived.Laws.World
import Derived.Laws.Sem
import Derived.RangeFuncRecord
import Derived.Laws.CopyRow
import Derived.Laws.Append
import Derived.Laws.Rows
import Derived.Laws.Slices
import Derived.Laws.Entries
import Derived.ChangeKeysEq
import Derived.IntWalk
import Derived.DeepKeys
import Derived.DeepKeys3
import Derived.Laws.StructEq
import Derived.MapKept
import Derived.Laws.AppendOwn
import Derived.ChangeArms
import Derived.ChangeOld
import Derived.Carry
import Derived.ChangeShapes
import Derived.KernelRfl
import Derived.ProofKit
import Derived.Test.YtbhdgedghfibcaaRows

namespace Go.Proofs.Ytbhdgedghfibcaa
open _root_.Go.Proofs.Try
open Go.Abs
set_option maxRecDepth 100000
noncomputable section
theorem s_TariffTotals {l : List Tf} {claims : List Clm} {crop : Int} {day : Int} {ca100 ca200 : C} {m f : M} {Q : V → M → Prop} {rz : Bool} (hS : Pre f m) (ha100 : Sl f ca100 l) (ha200 : Sl f ca200 claims) (hp : pTariffTotals l claims crop day = some rz) (hq : ∀ m', Ext m m' → Q (.c (.bool rz)) m') : Wc prog tbl 6 [.c ca100, .c ca200, .c (Il crop), .c (Il day)] m Q := by
 have S0 := hS.st
 obtain ⟨τ0, _⟩ : ∃ τ : Nat → Nat, True := ⟨fun _ => 0, trivial⟩
 refine w6 ?_
 unfold pTariffTotals at hp
 obtain ⟨r1, g2, hp⟩ := bsome hp
 refine s_lThin (l := l) S0.pre ha100 g2 fun m1 e5 => ?_
 obtain ⟨S3, k4⟩ := S0.call e5 τ0
 refine ⟨_, rfl, ?_⟩
 refine ifnb hp (fun q6 hp => ?_) fun q6 hp => ?_
 ·obtain ⟨r7, g8, hp⟩ := bsome hp
  refine s_awake S3.pre  g8 fun m4 BP => ?_
  obtain ⟨S9, KW⟩ := S3.call BP τ0
  refine ⟨_, rfl, ?_⟩
  obtain rfl := Option.some.inj hp
  exact hq _ S9.ext'
 refine ⟨ha200.isSl, ?_⟩
 try rw [ha200.slLen]
 refine ifd hp (fun CP hp => ?_) fun CP hp => ?_
 ·obtain ⟨LW, DP, hp⟩ := bsome hp
  refine s_awake S3.pre  DP fun m7 EP => ?_
  obtain ⟨FP, MW⟩ := S3.call EP τ0
  refine ⟨_, rfl, ?_⟩
  obtain rfl := Option.some.inj hp
  exact hq _ FP.ext'
 obtain ⟨GP, HP, hp⟩ := bsome hp
 refine s_lTariffs (l := l) S3.pre ha100 HP fun NW OW PW IP JP => ?_
 obtain ⟨IC, a⟩ := S3.callG IP τ0
 refine ⟨_, rfl, ?_⟩
 obtain ⟨QW, KP, hp⟩ := bsome hp
 refine s_Least (l := GP) (crop := crop) (day := day) IC.pre JP KP fun RW LP => ?_
 obtain ⟨JC, SW⟩ := IC.call LP τ0
 refine ⟨_, _, rfl, ?_⟩
 obtain ⟨MP, NP, hp⟩ := bsome hp
 refine s_lTariffs (l := l) JC.pre (ha100.sub a.fs) NP fun TW UW VW OP PP => ?_
 obtain ⟨KC, b⟩ := JC.callG OP τ0
 refine ⟨_, rfl, ?_⟩
 obtain ⟨QP, RP, hp⟩ := bsome hp
 refine s_lClaims (l := claims) KC.pre (ha200.sub (Sub.trans a.fs b.fs)) RP fun WW g XW SP TP => ?_
 obtain ⟨LC, d⟩ := KC.callG SP τ0
 refine ⟨_, rfl, ?_⟩
 obtain ⟨e, UP, hp⟩ := bsome hp
 refine s_Total (l := MP) (claims := QP) LC.pre (PP.sub d.fs) TP UP fun da VP => ?_
 obtain ⟨WP, YW⟩ := LC.call VP τ0
 refine ⟨_, _, _, rfl, ?_⟩
 intro ZW XP
 obtain ⟨u, YP, aX, ZP⟩ := WP.blk XP τ0 1
 obtain ⟨aQ, bQ, MC, bX, cQ⟩ := ZP.sto YP [(Il e.1.Lo), (Il e.1.Hi)]
 refine ⟨aQ, bQ, ?_⟩
 obtain ⟨cX, dQ, hp⟩ := bsome hp
 refine s_lFault (l := l) MC.pre (ha100.sub (Sub.trans (Sub.trans a.fs b.fs) d.fs)) dQ fun dX eQ => ?_
 obtain ⟨NC, fQ⟩ := MC.call eQ u
 have gQ := cQ.k fQ
 refine ⟨_, rfl, ?_⟩
 obtain ⟨eX, hQ, hp⟩ := bsome hp
 refine s_lFault (l := l) NC.pre (ha100.sub (Sub.trans (Sub.trans a.fs b.fs) d.fs)) hQ fun pi iQ => ?_
 obtain ⟨Rc, jQ⟩ := NC.call iQ u
 have Jg := gQ.k jQ
 refine ⟨_, rfl, ?_⟩
 refine ifd hp (fun qi hp => ?_) fun qi hp => ?_; rotate_left
 ·refine ifdkf qi ?_
  refine ifnd hp (fun Jj hp => ?_) fun Jj hp => ?_
  ·obtain rfl := Option.some.inj hp
   exact hq _ Rc.ext'
  refine ifnd hp (fun Kj hp => ?_) fun Kj hp => ?_
  ·obtain rfl := Option.some.inj hp
   exact hq _ Rc.ext'
  refine ifd hp (fun Lj hp => ?_) fun Lj hp => ?_; rotate_left
  ·intro FQ Mj
   obtain ⟨Nj, Oj, Pj, eb⟩ := Rc.blk Mj u 58
   have fa := Jg.k Pj
   intro Qj ri
   have hgo : ∀ (Qb : Nat) (Rb : Int) (Sb : Int) (Ka : Int) (La : Int) (Ma : M) (w : Nat → Nat), St (Fm.of m) f g Ma → Lb (Fm.of m) g w Ma 1 da.nxt 2 [(Il e.1.Lo), (Il e.1.Hi)] → Lb (Fm.of m) g w Ma 58 pi.nxt 2 [(Il Ka), (Il La)] → pTariffTotals_L14 l claims e Qb Ka La Rb Sb = some rz → Qj [.c (Il Rb), .c (Il Sb)] Ma := by
    intro Qb
    induction Qb with
    | zero => intro Rb Sb Ka La Ma w h fa eb hp; cases hp
    | succ Qb bd =>
     intro Rb Sb Ka La Ma w h fa eb hp
     refine ri _ _ _ ?_
     rw [pTariffTotals_L14] at hp
     refine ⟨ha200.isSl, ?_⟩
     try rw [ha200.slLen]
     refine ifd hp (fun Rj hp => ?_) fun Rj hp => ?_; rotate_left
     ·refine ifnd hp (fun Sj hp => ?_) fun Sj hp => ?_
      ·refine ifd hp (fun Tj hp => ?_) fun Tj hp => ?_; rotate_left
       ·obtain rfl := Option.some.inj hp
        exact hq _ h.ext'
       refine ⟨_, _, fa.bk.ra, ?_⟩
       refine gdi hp fun Uj hp => ?_
       refine gdi hp fun Vj hp => ?_
       refine gdi hp fun Wj hp => ?_
       refine gdi hp fun Xj hp => ?_
       refine ifbb hp (fun Yj hp => ?_) fun Yj hp => ?_; rotate_left
       ·obtain rfl := Option.some.inj hp
        exact hq _ h.ext'
       obtain ⟨GQ, Zj, hp⟩ := bsome hp
       refine s_awake h.pre  Zj fun HQ ak => ?_
       obtain ⟨ck, IQ⟩ := h.call ak w
       refine ⟨_, rfl, ?_⟩
       obtain rfl := Option.some.inj hp
       exact hq _ ck.ext'
      refine ifd hp (fun dk hp => ?_) fun dk hp => ?_; rotate_left
      ·obtain rfl := Option.some.inj hp
       exact hq _ h.ext'
      refine ⟨_, _, fa.bk.ra, _, _, eb.bk.ra, ?_⟩
      obtain ⟨JQ, ek, hp⟩ := bsome hp
      refine s_lTo (r := ({ Lo := Ka, Hi := La } : Rg)) h.pre  ek fun KQ fk => ?_
      obtain ⟨hd, gk⟩ := h.call fk w
      have hk := fa.k gk
      refine ⟨_, _, rfl, (hk.bk.ra), ?_⟩
      refine gdi hp fun ik hp => ?_
      refine gdi hp fun jk hp => ?_
      refine gdi hp fun kk hp => ?_
      refine gdi hp fun mk hp => ?_
      refine ifbb hp (fun nk hp => ?_) fun nk hp => ?_; rotate_left
      ·obtain rfl := Option.some.inj hp
       exact hq _ hd.ext'
      obtain ⟨LQ, ok, hp⟩ := bsome hp
      refine s_awake hd.pre  ok fun MQ pk => ?_
      obtain ⟨qk, NQ⟩ := hd.call pk w
      refine ⟨_, rfl, ?_⟩
      obtain rfl := Option.some.inj hp
      exact hq _ qk.ext'
     refine ifd hp (fun Kg hp => ?_) fun Kg hp => ?_; rotate_left
     ·refine ifnkf Kg ?_
      refine ifd hp (fun sk hp => ?_) fun sk hp => ?_; rotate_left
      ·obtain rfl := Option.some.inj hp
       exact hq _ h.ext'
      refine ⟨_, _, fa.bk.ra, ?_⟩
      refine gdi hp fun uk hp => ?_
      refine gdi hp fun vk hp => ?_
      refine gdi hp fun wk hp => ?_
      refine gdi hp fun xk hp => ?_
      refine ifbb hp (fun yk hp => ?_) fun yk hp => ?_; rotate_left
      ·obtain rfl := Option.some.inj hp
       exact hq _ h.ext'
      obtain ⟨OQ, zk, hp⟩ := bsome hp
      refine s_awake h.pre  zk fun PQ Ak => ?_
      obtain ⟨Ck, QQ⟩ := h.call Ak w
      refine ⟨_, rfl, ?_⟩
      obtain rfl := Option.some.inj hp
      exact hq _ Ck.ext'
     obtain ⟨Dk, id, hp⟩ := bsome hp
     obtain ⟨Ek, si, sf, id⟩ := idx_some id
     obtain ⟨_, Fk⟩ := rd_Clm ha200 id
     refine ⟨Ek, si, (by first | exact sf | (rw [ha200.slLen]; exact sf)), _, _, _, _, _, _, (Fk _ (Sub.trans (Sub.trans (Sub.trans a.fs b.fs) d.fs) h.sub)).1, ?_⟩
     obtain ⟨RQ, Gk, hp⟩ := bsome hp
     refine s_lClaimed (l := l) (c := Dk) h.pre (ha100.sub (Sub.trans (Sub.trans a.fs b.fs) d.fs)) Gk fun SQ Hk => ?_
     obtain ⟨Tb, Lg⟩ := h.call Hk w
     have Mg := fa.k Lg
     have Ng := eb.k Lg
     refine ⟨_, rfl, ?_⟩
     refine ifd hp (fun Ik hp => ?_) fun Ik hp => ?_; rotate_left
     ·refine gdi hp fun Jk hp => ?_
      exact bd _ _ _ _ _ w Tb Mg Ng hp
     obtain ⟨Kk, jd, hp⟩ := bsome hp
     obtain ⟨Lk, ti, tf, jd⟩ := idx_some jd
     obtain ⟨_, Mk⟩ := rd_Clm ha200 jd
     refine ⟨Lk, ti, (by first | exact tf | (rw [ha200.slLen]; exact tf)), _, _, _, _, _, _, (Mk _ (Sub.trans (Sub.trans (Sub.trans a.fs b.fs) d.fs) Tb.sub)).1, ?_⟩
     obtain ⟨ga, Nk, hp⟩ := bsome hp
     refine s_rBounds (l := l) (c := Kk) Tb.pre (ha100.sub (Sub.trans (Sub.trans a.fs b.fs) d.fs)) Nk fun TQ Ok => ?_
     obtain ⟨Qk, Og⟩ := Tb.call Ok w
     have Sk := Mg.k Og
     have Tk := Ng.k Og
     refine ⟨_, _, _, _, _, _, rfl, ?_⟩
     intro UQ Uk
     obtain ⟨Vk, Xk, Pg, Yk⟩ := Qk.blk Uk w 59
     have Zk := Sk.k Pg
     have al := Tk.k Pg
     intro VQ bl
     obtain ⟨cl, dl, kd, el⟩ := Xk.blk bl Vk 60
     have fl := Zk.k kd
     have gl := al.k kd
     have hl := Yk.k kd
     intro WQ il
     obtain ⟨jl, kl, Ub, ll⟩ := dl.blk il cl 61
     have ml := fl.k Ub
     have nl := gl.k Ub
     have ol := hl.k Ub
     have pl := el.k Ub
     obtain ⟨ql, rl, tl, Vb, ul⟩ := ol.sto kl [(Il ga.1.Lo), (Il ga.1.Hi)]
     have vl := ml.k Vb
     have wl := nl.k Vb
     have xl := pl.k Vb
     have yl := ll.k Vb
     refine ⟨ql, rl, ?_⟩
     obtain ⟨zl, Al, Bl, Wb, XQ⟩ := xl.sto tl [(Il ga.2.1.Day), (Il ga.2.1.Count)]
     have Cl := vl.k Wb
     have Dl := wl.k Wb
     have El := ul.k Wb
     have Fl := yl.k Wb
     refine ⟨zl, Al, ?_⟩
     obtain ⟨Gl, Hl, Jl, ld, YQ⟩ := Fl.sto Bl [(Il ga.2.2.Day), (Il ga.2.2.Count)]
     have Kl := Cl.k ld
     have md := Dl.k ld
     have Qg := El.k ld
     refine ⟨Gl, Hl, ?_⟩
     refine ⟨trivial, _, md.bk.rc rfl, trivial, _, Qg.bk.rc rfl, ?_⟩
     obtain ⟨Ll, hp⟩ := gd_some hp
     refine ⟨Ll, trivial, _, md.bk.rc rfl, trivial, _, Qg.bk.rc rfl, ?_⟩
     refine gdi hp fun Ml hp => ?_
     obtain ⟨Nl, Ol, Pl, Ql, Rl⟩ := md.sto Jl [(Il (Ka + ga.1.Lo)), (Il (La + ga.1.Hi))]
     have Tl := Kl.k Ql
     refine ⟨Nl, Ol, ?_⟩
     refine gdi hp fun Ul hp => ?_
     exact bd _ _ _ _ _ jl Pl Tl Rl hp
   exact hgo _ _ _ _ _ _ Nj Oj fa eb hp
  refine ⟨ha200.isSl, ?_⟩
  try rw [ha200.slLen]
  refine ifd hp (fun Vl hp => ?_) fun Vl hp => ?_
  ·intro ZQ Wl
   obtain ⟨Xl, Yl, Zl, fb⟩ := Rc.blk Wl u 50
   have ha := Jg.k Zl
   intro am ui
   have hgo : ∀ (Xb : Nat) (Yb : Int) (Zb : Int) (Na : Int) (Oa : Int) (Pa : M) (x : Nat → Nat), St (Fm.of m) f g Pa → Lb (Fm.of m) g x Pa 1 da.nxt 2 [(Il e.1.Lo), (Il e.1.Hi)] → Lb (Fm.of m) g x Pa 50 pi.nxt 2 [(Il Na), (Il Oa)] → pTariffTotals_L12 l claims e Xb Na Oa Yb Zb = some rz → am [.c (Il Yb), .c (Il Zb)] Pa := by
    intro Xb
    induction Xb with
    | zero => intro Yb Zb Na Oa Pa x i ha fb hp; cases hp
    | succ Xb cd =>
     intro Yb Zb Na Oa Pa x i ha fb hp
     refine ui _ _ _ ?_
     rw [pTariffTotals_L12] at hp
     refine ⟨ha200.isSl, ?_⟩
     try rw [ha200.slLen]
     refine ifd hp (fun bm hp => ?_) fun bm hp => ?_; rotate_left
     ·refine ifnd hp (fun cm hp => ?_) fun cm hp => ?_
      ·refine ifd hp (fun dm hp => ?_) fun dm hp => ?_; rotate_left
       ·obtain rfl := Option.some.inj hp
        exact hq _ i.ext'
       refine ⟨_, _, ha.bk.ra, ?_⟩
       refine gdi hp fun em hp => ?_
       refine gdi hp fun fm hp => ?_
       refine gdi hp fun gm hp => ?_
       refine gdi hp fun hm hp => ?_
       refine ifbb hp (fun im hp => ?_) fun im hp => ?_; rotate_left
       ·obtain rfl := Option.some.inj hp
        exact hq _ i.ext'
       obtain ⟨aR, jm, hp⟩ := bsome hp
       refine s_awake i.pre  jm fun bR km => ?_
       obtain ⟨lm, cR⟩ := i.call km x
       refine ⟨_, rfl, ?_⟩
       obtain rfl := Option.some.inj hp
       exact hq _ lm.ext'
      refine ifd hp (fun mm hp => ?_) fun mm hp => ?_; rotate_left
      ·obtain rfl := Option.some.inj hp
       exact hq _ i.ext'
      refine ⟨_, _, ha.bk.ra, _, _, fb.bk.ra, ?_⟩
      obtain ⟨dR, nm, hp⟩ := bsome hp
      refine s_lTo (r := ({ Lo := Na, Hi := Oa } : Rg)) i.pre  nm fun eR om => ?_
      obtain ⟨nd, pm⟩ := i.call om x
      have qm := ha.k pm
      refine ⟨_, _, rfl, (qm.bk.ra), ?_⟩
      refine gdi hp fun rm hp => ?_
      refine gdi hp fun sm hp => ?_
      refine gdi hp fun tm hp => ?_
      refine gdi hp fun um hp => ?_
      refine ifbb hp (fun vm hp => ?_) fun vm hp => ?_; rotate_left
      ·obtain rfl := Option.some.inj hp
       exact hq _ nd.ext'
      obtain ⟨fR, wm, hp⟩ := bsome hp
      refine s_awake nd.pre  wm fun gR xm => ?_
      obtain ⟨ym, hR⟩ := nd.call xm x
      refine ⟨_, rfl, ?_⟩
      obtain rfl := Option.some.inj hp
      exact hq _ ym.ext'
     refine ifd hp (fun Sg hp => ?_) fun Sg hp => ?_; rotate_left
     ·refine ifnkf Sg ?_
      refine ifd hp (fun zm hp => ?_) fun zm hp => ?_; rotate_left
      ·obtain rfl := Option.some.inj hp
       exact hq _ i.ext'
      refine ⟨_, _, ha.bk.ra, ?_⟩
      refine gdi hp fun Am hp => ?_
      refine gdi hp fun Bm hp => ?_
      refine gdi hp fun Cm hp => ?_
      refine gdi hp fun Dm hp => ?_
      refine ifbb hp (fun Em hp => ?_) fun Em hp => ?_; rotate_left
      ·obtain rfl := Option.some.inj hp
       exact hq _ i.ext'
      obtain ⟨iR, Gm, hp⟩ := bsome hp
      refine s_awake i.pre  Gm fun jR Hm => ?_
      obtain ⟨Im, kR⟩ := i.call Hm x
      refine ⟨_, rfl, ?_⟩
      obtain rfl := Option.some.inj hp
      exact hq _ Im.ext'
     obtain ⟨Jm, od, hp⟩ := bsome hp
     obtain ⟨Km, vi, uf, od⟩ := idx_some od
     obtain ⟨_, Lm⟩ := rd_Clm ha200 od
     refine ⟨Km, vi, (by first | exact uf | (rw [ha200.slLen]; exact uf)), _, _, _, _, _, _, (Lm _ (Sub.trans (Sub.trans (Sub.trans a.fs b.fs) d.fs) i.sub)).1, ?_⟩
     obtain ⟨lR, Mm, hp⟩ := bsome hp
     refine s_lClaimed (l := l) (c := Jm) i.pre (ha100.sub (Sub.trans (Sub.trans a.fs b.fs) d.fs)) Mm fun mR Nm => ?_
     obtain ⟨ac, Tg⟩ := i.call Nm x
     have Ug := ha.k Tg
     have Vg := fb.k Tg
     refine ⟨_, rfl, ?_⟩
     refine ifd hp (fun Om hp => ?_) fun Om hp => ?_; rotate_left
     ·refine gdi hp fun Pm hp => ?_
      exact cd _ _ _ _ _ x ac Ug Vg hp
     obtain ⟨Qm, pd, hp⟩ := bsome hp
     obtain ⟨Rm, wi, vf, pd⟩ := idx_some pd
     obtain ⟨_, Sm⟩ := rd_Clm ha200 pd
     refine ⟨Rm, wi, (by first | exact vf | (rw [ha200.slLen]; exact vf)), _, _, _, _, _, _, (Sm _ (Sub.trans (Sub.trans (Sub.trans a.fs b.fs) d.fs) ac.sub)).1, ?_⟩
     obtain ⟨ia, Tm, hp⟩ := bsome hp
     refine s_rBounds (l := l) (c := Qm) ac.pre (ha100.sub (Sub.trans (Sub.trans a.fs b.fs) d.fs)) Tm fun nR Um => ?_
     obtain ⟨Vm, Wg⟩ := ac.call Um x
     have Wm := Ug.k Wg
     have Xm := Vg.k Wg
     refine ⟨_, _, _, _, _, _, rfl, ?_⟩
     intro oR Ym
     obtain ⟨Zm, an, Xg, bn⟩ := Vm.blk Ym x 51
     have cn := Wm.k Xg
     have dn := Xm.k Xg
     intro pR en
     obtain ⟨fn, gn, qd, hn⟩ := an.blk en Zm 52
     have jn := cn.k qd
     have kn := dn.k qd
     have ln := bn.k qd
     intro qR nn
     obtain ⟨pn, qn, bc, rn⟩ := gn.blk nn fn 53
     have sn := jn.k bc
     have tn := kn.k bc
     have un := ln.k bc
     have vn := hn.k bc
     obtain ⟨wn, xn, yn, cc, zn⟩ := un.sto qn [(Il ia.1.Lo), (Il ia.1.Hi)]
     have An := sn.k cc
     have Bn := tn.k cc
     have Cn := vn.k cc
     have Dn := rn.k cc
     refine ⟨wn, xn, ?_⟩
     obtain ⟨En, Fn, Gn, dc, rR⟩ := Cn.sto yn [(Il ia.2.1.Day), (Il ia.2.1.Count)]
     have Hn := An.k dc
     have In := Bn.k dc
     have Jn := zn.k dc
     have Kn := Dn.k dc
     refine ⟨En, Fn, ?_⟩
     obtain ⟨Ln, Nn, On, sd, sR⟩ := Kn.sto Gn [(Il ia.2.2.Day), (Il ia.2.2.Count)]
     have Pn := Hn.k sd
     have td := In.k sd
     have Zg := Jn.k sd
     refine ⟨Ln, Nn, ?_⟩
     refine ⟨trivial, _, td.bk.rc rfl, trivial, _, Zg.bk.rc rfl, ?_⟩
     obtain ⟨Qn, hp⟩ := gd_some hp
     refine ⟨Qn, trivial, _, td.bk.rc rfl, trivial, _, Zg.bk.rc rfl, ?_⟩
     refine gdi hp fun Rn hp => ?_
     obtain ⟨Sn, Tn, Un, Vn, Wn⟩ := td.sto On [(Il (Na + ia.1.Lo)), (Il (Oa + ia.1.Hi))]
     have Xn := Pn.k Vn
     refine ⟨Sn, Tn, ?_⟩
     refine gdi hp fun Yn hp => ?_
     exact cd _ _ _ _ _ pn Un Xn Wn hp
   exact hgo _ _ _ _ _ _ Xl Yl ha fb hp
  intro tR Zn
  obtain ⟨ao, bo, co, gb⟩ := Rc.blk Zn u 54
  have ja := Jg.k co
  intro eo xi
  have hgo : ∀ (ec : Nat) (fc : Int) (gc : Int) (Qa : Int) (Ra : Int) (Sa : M) (y : Nat → Nat), St (Fm.of m) f g Sa → Lb (Fm.of m) g y Sa 1 da.nxt 2 [(Il e.1.Lo), (Il e.1.Hi)] → Lb (Fm.of m) g y Sa 54 pi.nxt 2 [(Il Qa), (Il Ra)] → pTariffTotals_L13 l claims e ec Qa Ra fc gc = some rz → eo [.c (Il fc), .c (Il gc)] Sa := by
   intro ec
   induction ec with
   | zero => intro fc gc Qa Ra Sa y j ja gb hp; cases hp
   | succ ec dd =>
    intro fc gc Qa Ra Sa y j ja gb hp
    refine xi _ _ _ ?_
    rw [pTariffTotals_L13] at hp
    refine ⟨ha200.isSl, ?_⟩
    try rw [ha200.slLen]
    refine ifd hp (fun fo hp => ?_) fun fo hp => ?_; rotate_left
    ·refine ifnd hp (fun go hp => ?_) fun go hp => ?_
     ·refine ifd hp (fun ho hp => ?_) fun ho hp => ?_; rotate_left
      ·obtain rfl := Option.some.inj hp
       exact hq _ j.ext'
      refine ⟨_, _, ja.bk.ra, ?_⟩
      refine gdi hp fun io hp => ?_
      refine gdi hp fun jo hp => ?_
      refine gdi hp fun ko hp => ?_
      refine gdi hp fun lo hp => ?_
      refine ifbb hp (fun oo hp => ?_) fun oo hp => ?_; rotate_left
      ·obtain rfl := Option.some.inj hp
       exact hq _ j.ext'
      obtain ⟨wR, po, hp⟩ := bsome hp
      refine s_awake j.pre  po fun xR qo => ?_
      obtain ⟨ro, yR⟩ := j.call qo y
      refine ⟨_, rfl, ?_⟩
      obtain rfl := Option.some.inj hp
      exact hq _ ro.ext'
     refine ifd hp (fun so hp => ?_) fun so hp => ?_; rotate_left
     ·obtain rfl := Option.some.inj hp
      exact hq _ j.ext'
     refine ⟨_, _, ja.bk.ra, _, _, gb.bk.ra, ?_⟩
     obtain ⟨zR, uo, hp⟩ := bsome hp
     refine s_lTo (r := ({ Lo := Qa, Hi := Ra } : Rg)) j.pre  uo fun AR wo => ?_
     obtain ⟨ud, xo⟩ := j.call wo y
     have yo := ja.k xo
     refine ⟨_, _, rfl, (yo.bk.ra), ?_⟩
     refine gdi hp fun zo hp => ?_
     refine gdi hp fun Ao hp => ?_
     refine gdi hp fun Bo hp => ?_
     refine gdi hp fun Co hp => ?_
     refine ifbb hp (fun Do hp => ?_) fun Do hp => ?_; rotate_left
     ·obtain rfl := Option.some.inj hp
      exact hq _ ud.ext'
     obtain ⟨BR, Eo, hp⟩ := bsome hp
     refine s_awake ud.pre  Eo fun DR Fo => ?_
     obtain ⟨Go, GR⟩ := ud.call Fo y
     refine ⟨_, rfl, ?_⟩
     obtain rfl := Option.some.inj hp
     exact hq _ Go.ext'
    refine ifd hp (fun ah hp => ?_) fun ah hp => ?_; rotate_left
    ·refine ifnkf ah ?_
     refine ifd hp (fun Ho hp => ?_) fun Ho hp => ?_; rotate_left
     ·obtain rfl := Option.some.inj hp
      exact hq _ j.ext'
     refine ⟨_, _, ja.bk.ra, ?_⟩
     refine gdi hp fun Io hp => ?_
     refine gdi hp fun Jo hp => ?_
     refine gdi hp fun Ko hp => ?_
     refine gdi hp fun No hp => ?_
     refine ifbb hp (fun Oo hp => ?_) fun Oo hp => ?_; rotate_left
     ·obtain rfl := Option.some.inj hp
      exact hq _ j.ext'
     obtain ⟨IR, Po, hp⟩ := bsome hp
     refine s_awake j.pre  Po fun JR Qo => ?_
     obtain ⟨Ro, KR⟩ := j.call Qo y
     refine ⟨_, rfl, ?_⟩
     obtain rfl := Option.some.inj hp
     exact hq _ Ro.ext'
    obtain ⟨So, vd, hp⟩ := bsome hp
    obtain ⟨To, yi, wf, vd⟩ := idx_some vd
    obtain ⟨_, Uo⟩ := rd_Clm ha200 vd
    refine ⟨To, yi, (by first | exact wf | (rw [ha200.slLen]; exact wf)), _, _, _, _, _, _, (Uo _ (Sub.trans (Sub.trans (Sub.trans a.fs b.fs) d.fs) j.sub)).1, ?_⟩
    obtain ⟨LR, Vo, hp⟩ := bsome hp
    refine s_lClaimed (l := l) (c := So) j.pre (ha100.sub (Sub.trans (Sub.trans a.fs b.fs) d.fs)) Vo fun MR Wo => ?_
    obtain ⟨hc, bh⟩ := j.call Wo y
    have ch := ja.k bh
    have dh := gb.k bh
    refine ⟨_, rfl, ?_⟩
    refine ifd hp (fun Xo hp => ?_) fun Xo hp => ?_; rotate_left
    ·refine gdi hp fun Yo hp => ?_
     exact dd _ _ _ _ _ y hc ch dh hp
    obtain ⟨Zo, wd, hp⟩ := bsome hp
    obtain ⟨ap, zi, xf, wd⟩ := idx_some wd
    obtain ⟨_, bp⟩ := rd_Clm ha200 wd
    refine ⟨ap, zi, (by first | exact xf | (rw [ha200.slLen]; exact xf)), _, _, _, _, _, _, (bp _ (Sub.trans (Sub.trans (Sub.trans a.fs b.fs) d.fs) hc.sub)).1, ?_⟩
    obtain ⟨ka, cp, hp⟩ := bsome hp
    refine s_rBounds (l := l) (c := Zo) hc.pre (ha100.sub (Sub.trans (Sub.trans a.fs b.fs) d.fs)) cp fun NR dp => ?_
    obtain ⟨ep, eh⟩ := hc.call dp y
    have fp := ch.k eh
    have gp := dh.k eh
    refine ⟨_, _, _, _, _, _, rfl, ?_⟩
    intro PR ip
    obtain ⟨jp, kp, fh, lp⟩ := ep.blk ip y 55
    have np := fp.k fh
    have op := gp.k fh
    intro QR pp
    obtain ⟨qp, sp, xd, tp⟩ := kp.blk pp jp 56
    have vp := np.k xd
    have wp := op.k xd
    have xp := lp.k xd
    intro SR yp
    obtain ⟨zp, Ap, ic, Bp⟩ := sp.blk yp qp 57
    have Cp := vp.k ic
    have Dp := wp.k ic
    have Ep := xp.k ic
    have Fp := tp.k ic
    obtain ⟨Gp, Hp, Ip, jc, Jp⟩ := Ep.sto Ap [(Il ka.1.Lo), (Il ka.1.Hi)]
    have Lp := Cp.k jc
    have Np := Dp.k jc
    have Op := Fp.k jc
    have Pp := Bp.k jc
    refine ⟨Gp, Hp, ?_⟩
    obtain ⟨Qp, Rp, Sp, kc, YR⟩ := Op.sto Ip [(Il ka.2.1.Day), (Il ka.2.1.Count)]
    have Tp := Lp.k kc
    have Up := Np.k kc
    have Vp := Jp.k kc
    have Wp := Pp.k kc
    refine ⟨Qp, Rp, ?_⟩
    obtain ⟨Xp, Yp, Zp, yd, ZR⟩ := Wp.sto Sp [(Il ka.2.2.Day), (Il ka.2.2.Count)]
    have aq := Tp.k yd
    have zd := Up.k yd
    have gh := Vp.k yd
    refine ⟨Xp, Yp, ?_⟩
    refine ⟨trivial, _, zd.bk.rc rfl, trivial, _, gh.bk.rc rfl, ?_⟩
    obtain ⟨bq, hp⟩ := gd_some hp
    refine ⟨bq, trivial, _, zd.bk.rc rfl, trivial, _, gh.bk.rc rfl, ?_⟩
    refine gdi hp fun cq hp => ?_
    obtain ⟨dq, eq, fq, gq, iq⟩ := zd.sto Zp [(Il (Qa + ka.1.Lo)), (Il (Ra + ka.1.Hi))]
    have jq := aq.k gq
    refine ⟨dq, eq, ?_⟩
    refine gdi hp fun kq hp => ?_
    exact dd _ _ _ _ _ zp fq jq iq hp
  exact hgo _ _ _ _ _ _ ao bo ja gb hp
 obtain ⟨kQ, lQ, hp⟩ := bsome hp
 refine s_rCrops (l := l) Rc.pre (ha100.sub (Sub.trans (Sub.trans a.fs b.fs) d.fs)) lQ fun fX mQ => ?_
 obtain ⟨OC, nQ⟩ := Rc.call mQ u
 have oQ := Jg.k nQ
 refine ⟨_, rfl, ?_⟩
 refine gdi hp fun pQ hp => ?_
 obtain ⟨gX, qQ, hp⟩ := bsome hp
 refine s_rIn (n := crop) (low := (0 : Int)) (high := (kQ - 1)) OC.pre  qQ fun Ai rQ => ?_
 obtain ⟨Tc, sQ⟩ := OC.call rQ u
 have hh := oQ.k sQ
 refine ⟨_, rfl, ?_⟩
 refine ifnb hp (fun tQ hp => ?_) fun tQ hp => ?_
 ·refine ifnd hp (fun uQ hp => ?_) fun uQ hp => ?_
  ·obtain rfl := Option.some.inj hp
   exact hq _ Tc.ext'
  refine ifnd hp (fun vQ hp => ?_) fun vQ hp => ?_
  ·obtain rfl := Option.some.inj hp
   exact hq _ Tc.ext'
  refine ifd hp (fun wQ hp => ?_) fun wQ hp => ?_; rotate_left
  ·intro oT PC
   obtain ⟨QC, RC, SC, Uc⟩ := Tc.blk PC u 10
   have ya := hh.k SC
   intro TC lq
   have hgo : ∀ (Ad : Nat) (Bd : Int) (Cd : Int) (nb : Int) (ob : Int) (pb : M) (S : Nat → Nat), St (Fm.of m) f g pb → Lb (Fm.of m) g S pb 1 da.nxt 2 [(Il e.1.Lo), (Il e.1.Hi)] → Lb (Fm.of m) g S pb 10 Ai.nxt 2 [(Il nb), (Il ob)] → pTariffTotals_L2 l claims e Ad nb ob Bd Cd = some rz → TC [.c (Il Bd), .c (Il Cd)] pb := by
    intro Ad
    induction Ad with
    | zero => intro Bd Cd nb ob pb S G ya Uc hp; cases hp
    | succ Ad yf =>
     intro Bd Cd nb ob pb S G ya Uc hp
     refine lq _ _ _ ?_
     rw [pTariffTotals_L2] at hp
     refine ⟨ha200.isSl, ?_⟩
     try rw [ha200.slLen]
     refine ifd hp (fun UC hp => ?_) fun UC hp => ?_; rotate_left
     ·refine ifnd hp (fun VC hp => ?_) fun VC hp => ?_
      ·refine ifd hp (fun WC hp => ?_) fun WC hp => ?_; rotate_left
       ·obtain rfl := Option.some.inj hp
        exact hq _ G.ext'
       refine ⟨_, _, ya.bk.ra, ?_⟩
       refine gdi hp fun XC hp => ?_
       refine gdi hp fun YC hp => ?_
       refine gdi hp fun ZC hp => ?_
       refine gdi hp fun aD hp => ?_
       refine ifbb hp (fun bD hp => ?_) fun bD hp => ?_; rotate_left
       ·obtain rfl := Option.some.inj hp
        exact hq _ G.ext'
       obtain ⟨pT, cD, hp⟩ := bsome hp
       refine s_awake G.pre  cD fun qT dD => ?_
       obtain ⟨eD, rT⟩ := G.call dD S
       refine ⟨_, rfl, ?_⟩
       obtain rfl := Option.some.inj hp
       exact hq _ eD.ext'
      refine ifd hp (fun fD hp => ?_) fun fD hp => ?_; rotate_left
      ·obtain rfl := Option.some.inj hp
       exact hq _ G.ext'
      refine ⟨_, _, ya.bk.ra, _, _, Uc.bk.ra, ?_⟩
      obtain ⟨sT, gD, hp⟩ := bsome hp
      refine s_lTo (r := ({ Lo := nb, Hi := ob } : Rg)) G.pre  gD fun tT hD => ?_
      obtain ⟨Wf, iD⟩ := G.call hD S
      have jD := ya.k iD
      refine ⟨_, _, rfl, (jD.bk.ra), ?_⟩
      refine gdi hp fun kD hp => ?_
      refine gdi hp fun lD hp => ?_
      refine gdi hp fun mD hp => ?_
      refine gdi hp fun nD hp => ?_
      refine ifbb hp (fun oD hp => ?_) fun oD hp => ?_; rotate_left
      ·obtain rfl := Option.some.inj hp
       exact hq _ Wf.ext'
      obtain ⟨uT, pD, hp⟩ := bsome hp
      refine s_awake Wf.pre  pD fun vT qD => ?_
      obtain ⟨rD, wT⟩ := Wf.call qD S
      refine ⟨_, rfl, ?_⟩
      obtain rfl := Option.some.inj hp
      exact hq _ rD.ext'
     refine ifd hp (fun Bi hp => ?_) fun Bi hp => ?_; rotate_left
     ·refine ifnkf Bi ?_
      refine ifd hp (fun sD hp => ?_) fun sD hp => ?_; rotate_left
      ·obtain rfl := Option.some.inj hp
       exact hq _ G.ext'
      refine ⟨_, _, ya.bk.ra, ?_⟩
      refine gdi hp fun tD hp => ?_
      refine gdi hp fun uD hp => ?_
      refine gdi hp fun vD hp => ?_
      refine gdi hp fun wD hp => ?_
      refine ifbb hp (fun xD hp => ?_) fun xD hp => ?_; rotate_left
      ·obtain rfl := Option.some.inj hp
       exact hq _ G.ext'
      obtain ⟨xT, yD, hp⟩ := bsome hp
      refine s_awake G.pre  yD fun yT zD => ?_
      obtain ⟨AD, zT⟩ := G.call zD S
      refine ⟨_, rfl, ?_⟩
      obtain rfl := Option.some.inj hp
      exact hq _ AD.ext'
     obtain ⟨BD, Xf, hp⟩ := bsome hp
     obtain ⟨CD, mq, ih, Xf⟩ := idx_some Xf
     obtain ⟨_, DD⟩ := rd_Clm ha200 Xf
     refine ⟨CD, mq, (by first | exact ih | (rw [ha200.slLen]; exact ih)), _, _, _, _, _, _, (DD _ (Sub.trans (Sub.trans (Sub.trans a.fs b.fs) d.fs) G.sub)).1, ?_⟩
     obtain ⟨AT, ED, hp⟩ := bsome hp
     refine s_lClaimed (l := l) (c := BD) G.pre (ha100.sub (Sub.trans (Sub.trans a.fs b.fs) d.fs)) ED fun BT FD => ?_
     obtain ⟨Dd, Ci⟩ := G.call FD S
     have Di := ya.k Ci
     have Ei := Uc.k Ci
     refine ⟨_, rfl, ?_⟩
     refine ifd hp (fun GD hp => ?_) fun GD hp => ?_; rotate_left
     ·refine gdi hp fun HD hp => ?_
      exact yf _ _ _ _ _ S Dd Di Ei hp
     obtain ⟨ID, Yf, hp⟩ := bsome hp
     obtain ⟨JD, nq, jh, Yf⟩ := idx_some Yf
     obtain ⟨_, KD⟩ := rd_Clm ha200 Yf
     refine ⟨JD, nq, (by first | exact jh | (rw [ha200.slLen]; exact jh)), _, _, _, _, _, _, (KD _ (Sub.trans (Sub.trans (Sub.trans a.fs b.fs) d.fs) Dd.sub)).1, ?_⟩
     obtain ⟨za, LD, hp⟩ := bsome hp
     refine s_rBounds (l := l) (c := ID) Dd.pre (ha100.sub (Sub.trans (Sub.trans a.fs b.fs) d.fs)) LD fun CT MD => ?_
     obtain ⟨ND, Fi⟩ := Dd.call MD S
     have OD := Di.k Fi
     have PD := Ei.k Fi
     refine ⟨_, _, _, _, _, _, rfl, ?_⟩
     intro DT QD
     obtain ⟨RD, SD, Gi, TD⟩ := ND.blk QD S 11
     have UD := OD.k Gi
     have VD := PD.k Gi
     intro ET WD
     obtain ⟨XD, ZD, Zf, aE⟩ := SD.blk WD RD 12
     have bE := UD.k Zf
     have cE := VD.k Zf
     have dE := TD.k Zf
     intro FT eE
     obtain ⟨fE, gE, Ed, hE⟩ := ZD.blk eE XD 13
     have iE := bE.k Ed
     have jE := cE.k Ed
     have kE := dE.k Ed
     have lE := aE.k Ed
     obtain ⟨mE, nE, oE, Fd, pE⟩ := kE.sto gE [(Il za.1.Lo), (Il za.1.Hi)]
     have qE := iE.k Fd
     have rE := jE.k Fd
     have sE := lE.k Fd
     have tE := hE.k Fd
     refine ⟨mE, nE, ?_⟩
     obtain ⟨Ii, uE, vE, Gd, GT⟩ := sE.sto oE [(Il za.2.1.Day), (Il za.2.1.Count)]
     have wE := qE.k Gd
     have xE := rE.k Gd
     have yE := pE.k Gd
     have zE := tE.k Gd
     refine ⟨Ii, uE, ?_⟩
     obtain ⟨AE, BE, CE, ag, HT⟩ := zE.sto vE [(Il za.2.2.Day), (Il za.2.2.Count)]
     have DE := wE.k ag
     have bg := xE.k ag
     have Ji := yE.k ag
     refine ⟨AE, BE, ?_⟩
     refine ⟨trivial, _, bg.bk.rc rfl, trivial, _, Ji.bk.rc rfl, ?_⟩
     obtain ⟨EE, hp⟩ := gd_some hp
     refine ⟨EE, trivial, _, bg.bk.rc rfl, trivial, _, Ji.bk.rc rfl, ?_⟩
     refine gdi hp fun FE hp => ?_
     obtain ⟨GE, HE, IE, JE, KE⟩ := bg.sto CE [(Il (nb + za.1.Lo)), (Il (ob + za.1.Hi))]
     have LE := DE.k JE
     refine ⟨GE, HE, ?_⟩
     refine gdi hp fun ME hp => ?_
     exact yf _ _ _ _ _ fE IE LE KE hp
   exact hgo _ _ _ _ _ _ QC RC ya Uc hp
  refine ⟨ha200.isSl, ?_⟩
  try rw [ha200.slLen]
  refine ifd hp (fun xQ hp => ?_) fun xQ hp => ?_
  ·intro hX yQ
   obtain ⟨zQ, AQ, BQ, zf⟩ := Tc.blk yQ u 2
   have Pb := hh.k BQ
   intro CQ NE
   have hgo : ∀ (Hd : Nat) (kh : Int) (lh : Int) (qb : Int) (rb : Int) (ed : M) (T : Nat → Nat), St (Fm.of m) f g ed → Lb (Fm.of m) g T ed 1 da.nxt 2 [(Il e.1.Lo), (Il e.1.Hi)] → Lb (Fm.of m) g T ed 2 Ai.nxt 2 [(Il qb), (Il rb)] → pTariffTotals_L0 l claims e Hd qb rb kh lh = some rz → CQ [.c (Il kh), .c (Il lh)] ed := by
    intro Hd
    induction Hd with
    | zero => intro kh lh qb rb ed T ea Pb zf hp; cases hp
    | succ Hd mh =>
     intro kh lh qb rb ed T ea Pb zf hp
     refine NE _ _ _ ?_
     rw [pTariffTotals_L0] at hp
     refine ⟨ha200.isSl, ?_⟩
     try rw [ha200.slLen]
     refine ifd hp (fun OE hp => ?_) fun OE hp => ?_; rotate_left
     ·refine ifnd hp (fun PE hp => ?_) fun PE hp => ?_
      ·refine ifd hp (fun QE hp => ?_) fun QE hp => ?_; rotate_left
       ·obtain rfl := Option.some.inj hp
        exact hq _ ea.ext'
       refine ⟨_, _, Pb.bk.ra, ?_⟩
       refine gdi hp fun SE hp => ?_
       refine gdi hp fun TE hp => ?_
       refine gdi hp fun UE hp => ?_
       refine gdi hp fun VE hp => ?_
       refine ifbb hp (fun WE hp => ?_) fun WE hp => ?_; rotate_left
       ·obtain rfl := Option.some.inj hp
        exact hq _ ea.ext'
       obtain ⟨IT, XE, hp⟩ := bsome hp
       refine s_awake ea.pre  XE fun JT YE => ?_
       obtain ⟨ZE, KT⟩ := ea.call YE T
       refine ⟨_, rfl, ?_⟩
       obtain rfl := Option.some.inj hp
       exact hq _ ZE.ext'
      refine ifd hp (fun aF hp => ?_) fun aF hp => ?_; rotate_left
      ·obtain rfl := Option.some.inj hp
       exact hq _ ea.ext'
      refine ⟨_, _, Pb.bk.ra, _, _, zf.bk.ra, ?_⟩
      obtain ⟨LT, bF, hp⟩ := bsome hp
      refine s_lTo (r := ({ Lo := qb, Hi := rb } : Rg)) ea.pre  bF fun MT cF => ?_
      obtain ⟨cg, dF⟩ := ea.call cF T
      have eF := Pb.k dF
      refine ⟨_, _, rfl, (eF.bk.ra), ?_⟩
      refine gdi hp fun fF hp => ?_
      refine gdi hp fun gF hp => ?_
      refine gdi hp fun hF hp => ?_
      refine gdi hp fun iF hp => ?_
      refine ifbb hp (fun jF hp => ?_) fun jF hp => ?_; rotate_left
      ·obtain rfl := Option.some.inj hp
       exact hq _ cg.ext'
      obtain ⟨NT, kF, hp⟩ := bsome hp
      refine s_awake cg.pre  kF fun OT lF => ?_
      obtain ⟨mF, PT⟩ := cg.call lF T
      refine ⟨_, rfl, ?_⟩
      obtain rfl := Option.some.inj hp
      exact hq _ mF.ext'
     refine ifd hp (fun Ki hp => ?_) fun Ki hp => ?_; rotate_left
     ·refine ifnkf Ki ?_
      refine ifd hp (fun nF hp => ?_) fun nF hp => ?_; rotate_left
      ·obtain rfl := Option.some.inj hp
       exact hq _ ea.ext'
      refine ⟨_, _, Pb.bk.ra, ?_⟩
      refine gdi hp fun oF hp => ?_
      refine gdi hp fun pF hp => ?_
      refine gdi hp fun qF hp => ?_
      refine gdi hp fun rF hp => ?_
      refine ifbb hp (fun sF hp => ?_) fun sF hp => ?_; rotate_left
      ·obtain rfl := Option.some.inj hp
       exact hq _ ea.ext'
      obtain ⟨QT, tF, hp⟩ := bsome hp
      refine s_awake ea.pre  tF fun iX uF => ?_
      obtain ⟨vF, RT⟩ := ea.call uF T
      refine ⟨_, rfl, ?_⟩
      obtain rfl := Option.some.inj hp
      exact hq _ vF.ext'
     obtain ⟨wF, dg, hp⟩ := bsome hp
     obtain ⟨DQ, oq, nh, dg⟩ := idx_some dg
     obtain ⟨_, xF⟩ := rd_Clm ha200 dg
     refine ⟨DQ, oq, (by first | exact nh | (rw [ha200.slLen]; exact nh)), _, _, _, _, _, _, (xF _ (Sub.trans (Sub.trans (Sub.trans a.fs b.fs) d.fs) ea.sub)).1, ?_⟩
     obtain ⟨ST, yF, hp⟩ := bsome hp
     refine s_lClaimed (l := l) (c := wF) ea.pre (ha100.sub (Sub.trans (Sub.trans a.fs b.fs) d.fs)) yF fun jX zF => ?_
     obtain ⟨Id, Ni⟩ := ea.call zF T
     have Oi := Pb.k Ni
     have Pi := zf.k Ni
     refine ⟨_, rfl, ?_⟩
     refine ifd hp (fun AF hp => ?_) fun AF hp => ?_; rotate_left
     ·refine gdi hp fun BF hp => ?_
      exact mh _ _ _ _ _ T Id Oi Pi hp
     obtain ⟨CF, eg, hp⟩ := bsome hp
     obtain ⟨EQ, pq, oh, eg⟩ := idx_some eg
     obtain ⟨_, DF⟩ := rd_Clm ha200 eg
     refine ⟨EQ, pq, (by first | exact oh | (rw [ha200.slLen]; exact oh)), _, _, _, _, _, _, (DF _ (Sub.trans (Sub.trans (Sub.trans a.fs b.fs) d.fs) Id.sub)).1, ?_⟩
     obtain ⟨Aa, EF, hp⟩ := bsome hp
     refine s_rBounds (l := l) (c := CF) Id.pre (ha100.sub (Sub.trans (Sub.trans a.fs b.fs) d.fs)) EF fun kX FF => ?_
     obtain ⟨GF, Qi⟩ := Id.call FF T
     have HF := Oi.k Qi
     have IF := Pi.k Qi
     refine ⟨_, _, _, _, _, _, rfl, ?_⟩
     intro lX JF
     obtain ⟨KF, LF, Ri, MF⟩ := GF.blk JF T 3
     have NF := HF.k Ri
     have OF := IF.k Ri
     intro mX PF
     obtain ⟨QF, RF, fg, SF⟩ := LF.blk PF KF 4
     have TF := NF.k fg
     have UF := OF.k fg
     have VF := MF.k fg
     intro nX WF
     obtain ⟨XF, YF, Jd, ZF⟩ := RF.blk WF QF 5
     have aG := TF.k Jd
     have bG := UF.k Jd
     have cG := VF.k Jd
     have dG := SF.k Jd
     obtain ⟨eG, fG, gG, Ld, hG⟩ := cG.sto YF [(Il Aa.1.Lo), (Il Aa.1.Hi)]
     have iG := aG.k Ld
     have jG := bG.k Ld
     have kG := dG.k Ld
     have lG := ZF.k Ld
     refine ⟨eG, fG, ?_⟩
     obtain ⟨mG, nG, oG, Md, TT⟩ := kG.sto gG [(Il Aa.2.1.Day), (Il Aa.2.1.Count)]
     have pG := iG.k Md
     have qG := jG.k Md
     have rG := hG.k Md
     have sG := lG.k Md
     refine ⟨mG, nG, ?_⟩
     obtain ⟨tG, uG, vG, gg, UT⟩ := sG.sto oG [(Il Aa.2.2.Day), (Il Aa.2.2.Count)]
     have wG := pG.k gg
     have hg := qG.k gg
     have Si := rG.k gg
     refine ⟨tG, uG, ?_⟩
     refine ⟨trivial, _, hg.bk.rc rfl, trivial, _, Si.bk.rc rfl, ?_⟩
     obtain ⟨xG, hp⟩ := gd_some hp
     refine ⟨xG, trivial, _, hg.bk.rc rfl, trivial, _, Si.bk.rc rfl, ?_⟩
     refine gdi hp fun yG hp => ?_
     obtain ⟨zG, AG, BG, CG, DG⟩ := hg.sto vG [(Il (qb + Aa.1.Lo)), (Il (rb + Aa.1.Hi))]
     have EG := wG.k CG
     refine ⟨zG, AG, ?_⟩
     refine gdi hp fun FG hp => ?_
     exact mh _ _ _ _ _ XF BG EG DG hp
   exact hgo _ _ _ _ _ _ zQ AQ Pb zf hp
  intro WT GG
  obtain ⟨HG, IG, JG, Vc⟩ := Tc.blk GG u 6
  have Ba := hh.k JG
  intro KG qq
  have hgo : ∀ (Nd : Nat) (Od : Int) (Pd : Int) (sb : Int) (tb : Int) (ub : M) (Y : Nat → Nat), St (Fm.of m) f g ub → Lb (Fm.of m) g Y ub 1 da.nxt 2 [(Il e.1.Lo), (Il e.1.Hi)] → Lb (Fm.of m) g Y ub 6 Ai.nxt 2 [(Il sb), (Il tb)] → pTariffTotals_L1 l claims e Nd sb tb Od Pd = some rz → KG [.c (Il Od), .c (Il Pd)] ub := by
   intro Nd
   induction Nd with
   | zero => intro Od Pd sb tb ub Y I Ba Vc hp; cases hp
   | succ Nd Af =>
    intro Od Pd sb tb ub Y I Ba Vc hp
    refine qq _ _ _ ?_
    rw [pTariffTotals_L1] at hp
    refine ⟨ha200.isSl, ?_⟩
    try rw [ha200.slLen]
    refine ifd hp (fun LG hp => ?_) fun LG hp => ?_; rotate_left
    ·refine ifnd hp (fun MG hp => ?_) fun MG hp => ?_
     ·refine ifd hp (fun NG hp => ?_) fun NG hp => ?_; rotate_left
      ·obtain rfl := Option.some.inj hp
       exact hq _ I.ext'
      refine ⟨_, _, Ba.bk.ra, ?_⟩
      refine gdi hp fun OG hp => ?_
      refine gdi hp fun PG hp => ?_
      refine gdi hp fun QG hp => ?_
      refine gdi hp fun RG hp => ?_
      refine ifbb hp (fun SG hp => ?_) fun SG hp => ?_; rotate_left
      ·obtain rfl := Option.some.inj hp
       exact hq _ I.ext'
      obtain ⟨XT, TG, hp⟩ := bsome hp
      refine s_awake I.pre  TG fun YT UG => ?_
      obtain ⟨VG, ZT⟩ := I.call UG Y
      refine ⟨_, rfl, ?_⟩
      obtain rfl := Option.some.inj hp
      exact hq _ VG.ext'
     refine ifd hp (fun WG hp => ?_) fun WG hp => ?_; rotate_left
     ·obtain rfl := Option.some.inj hp
      exact hq _ I.ext'
     refine ⟨_, _, Ba.bk.ra, _, _, Vc.bk.ra, ?_⟩
     obtain ⟨aU, XG, hp⟩ := bsome hp
     refine s_lTo (r := ({ Lo := sb, Hi := tb } : Rg)) I.pre  XG fun bU YG => ?_
     obtain ⟨ig, ZG⟩ := I.call YG Y
     have aH := Ba.k ZG
     refine ⟨_, _, rfl, (aH.bk.ra), ?_⟩
     refine gdi hp fun bH hp => ?_
     refine gdi hp fun cH hp => ?_
     refine gdi hp fun dH hp => ?_
     refine gdi hp fun eH hp => ?_
     refine ifbb hp (fun fH hp => ?_) fun fH hp => ?_; rotate_left
     ·obtain rfl := Option.some.inj hp
      exact hq _ ig.ext'
     obtain ⟨cU, gH, hp⟩ := bsome hp
     refine s_awake ig.pre  gH fun dU hH => ?_
     obtain ⟨iH, eU⟩ := ig.call hH Y
     refine ⟨_, rfl, ?_⟩
     obtain rfl := Option.some.inj hp
     exact hq _ iH.ext'
    refine ifd hp (fun Ti hp => ?_) fun Ti hp => ?_; rotate_left
    ·refine ifnkf Ti ?_
     refine ifd hp (fun jH hp => ?_) fun jH hp => ?_; rotate_left
     ·obtain rfl := Option.some.inj hp
      exact hq _ I.ext'
     refine ⟨_, _, Ba.bk.ra, ?_⟩
     refine gdi hp fun kH hp => ?_
     refine gdi hp fun lH hp => ?_
     refine gdi hp fun mH hp => ?_
     refine gdi hp fun nH hp => ?_
     refine ifbb hp (fun oH hp => ?_) fun oH hp => ?_; rotate_left
     ·obtain rfl := Option.some.inj hp
      exact hq _ I.ext'
     obtain ⟨gU, pH, hp⟩ := bsome hp
     refine s_awake I.pre  pH fun hU qH => ?_
     obtain ⟨rH, iU⟩ := I.call qH Y
     refine ⟨_, rfl, ?_⟩
     obtain rfl := Option.some.inj hp
     exact hq _ rH.ext'
    obtain ⟨sH, jg, hp⟩ := bsome hp
    obtain ⟨tH, rq, ph, jg⟩ := idx_some jg
    obtain ⟨_, uH⟩ := rd_Clm ha200 jg
    refine ⟨tH, rq, (by first | exact ph | (rw [ha200.slLen]; exact ph)), _, _, _, _, _, _, (uH _ (Sub.trans (Sub.trans (Sub.trans a.fs b.fs) d.fs) I.sub)).1, ?_⟩
    obtain ⟨jU, vH, hp⟩ := bsome hp
    refine s_lClaimed (l := l) (c := sH) I.pre (ha100.sub (Sub.trans (Sub.trans a.fs b.fs) d.fs)) vH fun kU wH => ?_
    obtain ⟨Qd, Ui⟩ := I.call wH Y
    have Vi := Ba.k Ui
    have Wi := Vc.k Ui
    refine ⟨_, rfl, ?_⟩
    refine ifd hp (fun xH hp => ?_) fun xH hp => ?_; rotate_left
    ·refine gdi hp fun yH hp => ?_
     exact Af _ _ _ _ _ Y Qd Vi Wi hp
    obtain ⟨zH, kg, hp⟩ := bsome hp
    obtain ⟨AH, sq, qh, kg⟩ := idx_some kg
    obtain ⟨_, BH⟩ := rd_Clm ha200 kg
    refine ⟨AH, sq, (by first | exact qh | (rw [ha200.slLen]; exact qh)), _, _, _, _, _, _, (BH _ (Sub.trans (Sub.trans (Sub.trans a.fs b.fs) d.fs) Qd.sub)).1, ?_⟩
    obtain ⟨Ca, CH, hp⟩ := bsome hp
    refine s_rBounds (l := l) (c := zH) Qd.pre (ha100.sub (Sub.trans (Sub.trans a.fs b.fs) d.fs)) CH fun lU DH => ?_
    obtain ⟨EH, Xi⟩ := Qd.call DH Y
    have FH := Vi.k Xi
    have GH := Wi.k Xi
    refine ⟨_, _, _, _, _, _, rfl, ?_⟩
    intro mU HH
    obtain ⟨IH, JH, Yi, KH⟩ := EH.blk HH Y 7
    have LH := FH.k Yi
    have MH := GH.k Yi
    intro nU NH
    obtain ⟨OH, PH, lg, QH⟩ := JH.blk NH IH 8
    have RH := LH.k lg
    have TH := MH.k lg
    have UH := KH.k lg
    intro oU VH
    obtain ⟨WH, XH, Rd, YH⟩ := PH.blk VH OH 9
    have ZH := RH.k Rd
    have aI := TH.k Rd
    have bI := UH.k Rd
    have cI := QH.k Rd
    obtain ⟨dI, eI, hI, Sd, iI⟩ := bI.sto XH [(Il Ca.1.Lo), (Il Ca.1.Hi)]
    have jI := ZH.k Sd
    have kI := aI.k Sd
    have lI := cI.k Sd
    have mI := YH.k Sd
    refine ⟨dI, eI, ?_⟩
    obtain ⟨nI, oI, pI, Td, pU⟩ := lI.sto hI [(Il Ca.2.1.Day), (Il Ca.2.1.Count)]
    have qI := jI.k Td
    have rI := kI.k Td
    have sI := iI.k Td
    have tI := mI.k Td
    refine ⟨nI, oI, ?_⟩
    obtain ⟨uI, wI, xI, mg, qU⟩ := tI.sto pI [(Il Ca.2.2.Day), (Il Ca.2.2.Count)]
    have yI := qI.k mg
    have ng := rI.k mg
    have Zi := sI.k mg
    refine ⟨uI, wI, ?_⟩
    refine ⟨trivial, _, ng.bk.rc rfl, trivial, _, Zi.bk.rc rfl, ?_⟩
    obtain ⟨zI, hp⟩ := gd_some hp
    refine ⟨zI, trivial, _, ng.bk.rc rfl, trivial, _, Zi.bk.rc rfl, ?_⟩
    refine gdi hp fun AI hp => ?_
    obtain ⟨BI, CI, EI, FI, GI⟩ := ng.sto xI [(Il (sb + Ca.1.Lo)), (Il (tb + Ca.1.Hi))]
    have HI := yI.k FI
    refine ⟨BI, CI, ?_⟩
    refine gdi hp fun II hp => ?_
    exact Af _ _ _ _ _ WH EI HI GI hp
  exact hgo _ _ _ _ _ _ HG IG Ba Vc hp
 obtain ⟨rU, JI, hp⟩ := bsome hp
 refine s_rIn (n := day) (low := (0 : Int)) (high := (120 : Int)) Tc.pre  JI fun og KI => ?_
 obtain ⟨db, LI⟩ := Tc.call KI u
 have Ud := hh.k LI
 refine ⟨_, rfl, ?_⟩
 refine ifnb hp (fun MI hp => ?_) fun MI hp => ?_
 ·refine ifnd hp (fun NI hp => ?_) fun NI hp => ?_
  ·obtain rfl := Option.some.inj hp
   exact hq _ db.ext'
  refine ifnd hp (fun OI hp => ?_) fun OI hp => ?_
  ·obtain rfl := Option.some.inj hp
   exact hq _ db.ext'
  refine ifd hp (fun PI hp => ?_) fun PI hp => ?_; rotate_left
  ·intro sU QI
   obtain ⟨RI, SI, TI, Xc⟩ := db.blk QI u 22
   have Da := Ud.k TI
   intro UI tq
   have hgo : ∀ (Vd : Nat) (Wd : Int) (Xd : Int) (vb : Int) (wb : Int) (xb : M) (Z : Nat → Nat), St (Fm.of m) f g xb → Lb (Fm.of m) g Z xb 1 da.nxt 2 [(Il e.1.Lo), (Il e.1.Hi)] → Lb (Fm.of m) g Z xb 22 og.nxt 2 [(Il vb), (Il wb)] → pTariffTotals_L5 l claims e Vd vb wb Wd Xd = some rz → UI [.c (Il Wd), .c (Il Xd)] xb := by
    intro Vd
    induction Vd with
    | zero => intro Wd Xd vb wb xb Z J Da Xc hp; cases hp
    | succ Vd Bf =>
     intro Wd Xd vb wb xb Z J Da Xc hp
     refine tq _ _ _ ?_
     rw [pTariffTotals_L5] at hp
     refine ⟨ha200.isSl, ?_⟩
     try rw [ha200.slLen]
     refine ifd hp (fun VI hp => ?_) fun VI hp => ?_; rotate_left
     ·refine ifnd hp (fun WI hp => ?_) fun WI hp => ?_
      ·refine ifd hp (fun XI hp => ?_) fun XI hp => ?_; rotate_left
       ·obtain rfl := Option.some.inj hp
        exact hq _ J.ext'
       refine ⟨_, _, Da.bk.ra, ?_⟩
       refine gdi hp fun YI hp => ?_
       refine gdi hp fun ZI hp => ?_
       refine gdi hp fun aJ hp => ?_
       refine gdi hp fun bJ hp => ?_
       refine ifbb hp (fun cJ hp => ?_) fun cJ hp => ?_; rotate_left
       ·obtain rfl := Option.some.inj hp
        exact hq _ J.ext'
       obtain ⟨tU, dJ, hp⟩ := bsome hp
       refine s_awake J.pre  dJ fun uU eJ => ?_
       obtain ⟨fJ, wU⟩ := J.call eJ Z
       refine ⟨_, rfl, ?_⟩
       obtain rfl := Option.some.inj hp
       exact hq _ fJ.ext'
      refine ifd hp (fun gJ hp => ?_) fun gJ hp => ?_; rotate_left
      ·obtain rfl := Option.some.inj hp
       exact hq _ J.ext'
      refine ⟨_, _, Da.bk.ra, _, _, Xc.bk.ra, ?_⟩
      obtain ⟨xU, hJ, hp⟩ := bsome hp
      refine s_lTo (r := ({ Lo := vb, Hi := wb } : Rg)) J.pre  hJ fun yU iJ => ?_
      obtain ⟨pg, jJ⟩ := J.call iJ Z
      have kJ := Da.k jJ
      refine ⟨_, _, rfl, (kJ.bk.ra), ?_⟩
      refine gdi hp fun lJ hp => ?_
      refine gdi hp fun mJ hp => ?_
      refine gdi hp fun nJ hp => ?_
      refine gdi hp fun oJ hp => ?_
      refine ifbb hp (fun pJ hp => ?_) fun pJ hp => ?_; rotate_left
      ·obtain rfl := Option.some.inj hp
       exact hq _ pg.ext'
      obtain ⟨zU, qJ, hp⟩ := bsome hp
      refine s_awake pg.pre  qJ fun AU rJ => ?_
      obtain ⟨sJ, BU⟩ := pg.call rJ Z
      refine ⟨_, rfl, ?_⟩
      obtain rfl := Option.some.inj hp
      exact hq _ sJ.ext'
     refine ifd hp (fun aj hp => ?_) fun aj hp => ?_; rotate_left
     ·refine ifnkf aj ?_
      refine ifd hp (fun tJ hp => ?_) fun tJ hp => ?_; rotate_left
      ·obtain rfl := Option.some.inj hp
       exact hq _ J.ext'
      refine ⟨_, _, Da.bk.ra, ?_⟩
      refine gdi hp fun uJ hp => ?_
      refine gdi hp fun vJ hp => ?_
      refine gdi hp fun wJ hp => ?_
      refine gdi hp fun xJ hp => ?_
      refine ifbb hp (fun yJ hp => ?_) fun yJ hp => ?_; rotate_left
      ·obtain rfl := Option.some.inj hp
       exact hq _ J.ext'
      obtain ⟨CU, zJ, hp⟩ := bsome hp
      refine s_awake J.pre  zJ fun Ii AJ => ?_
      obtain ⟨BJ, DU⟩ := J.call AJ Z
      refine ⟨_, rfl, ?_⟩
      obtain rfl := Option.some.inj hp
      exact hq _ BJ.ext'
     obtain ⟨CJ, qg, hp⟩ := bsome hp
     obtain ⟨DJ, uq, rh, qg⟩ := idx_some qg
     obtain ⟨_, EJ⟩ := rd_Clm ha200 qg
     refine ⟨DJ, uq, (by first | exact rh | (rw [ha200.slLen]; exact rh)), _, _, _, _, _, _, (EJ _ (Sub.trans (Sub.trans (Sub.trans a.fs b.fs) d.fs) J.sub)).1, ?_⟩
     obtain ⟨EU, FJ, hp⟩ := bsome hp
     refine s_lClaimed (l := l) (c := CJ) J.pre (ha100.sub (Sub.trans (Sub.trans a.fs b.fs) d.fs)) FJ fun FU GJ => ?_
     obtain ⟨Yd, bj⟩ := J.call GJ Z
     have cj := Da.k bj
     have dj := Xc.k bj
     refine ⟨_, rfl, ?_⟩
     refine ifd hp (fun HJ hp => ?_) fun HJ hp => ?_; rotate_left
     ·refine gdi hp fun IJ hp => ?_
      exact Bf _ _ _ _ _ Z Yd cj dj hp
     obtain ⟨JJ, rg, hp⟩ := bsome hp
     obtain ⟨KJ, vq, th, rg⟩ := idx_some rg
     obtain ⟨_, LJ⟩ := rd_Clm ha200 rg
     refine ⟨KJ, vq, (by first | exact th | (rw [ha200.slLen]; exact th)), _, _, _, _, _, _, (LJ _ (Sub.trans (Sub.trans (Sub.trans a.fs b.fs) d.fs) Yd.sub)).1, ?_⟩
     obtain ⟨Ea, MJ, hp⟩ := bsome hp
     refine s_rBounds (l := l) (c := JJ) Yd.pre (ha100.sub (Sub.trans (Sub.trans a.fs b.fs) d.fs)) MJ fun GU NJ => ?_
     obtain ⟨OJ, ej⟩ := Yd.call NJ Z
     have PJ := cj.k ej
     have QJ := dj.k ej
     refine ⟨_, _, _, _, _, _, rfl, ?_⟩
     intro HU RJ
     obtain ⟨SJ, TJ, fj, UJ⟩ := OJ.blk RJ Z 23
     have VJ := PJ.k fj
     have WJ := QJ.k fj
     intro IU XJ
     obtain ⟨ZJ, aK, sg, bK⟩ := TJ.blk XJ SJ 24
     have cK := VJ.k sg
     have dK := WJ.k sg
     have eK := UJ.k sg
     intro JU fK
     obtain ⟨gK, hK, Zd, iK⟩ := aK.blk fK ZJ 25
     have jK := cK.k Zd
     have kK := dK.k Zd
     have lK := eK.k Zd
     have mK := bK.k Zd
     obtain ⟨nK, oK, pK, ae, qK⟩ := lK.sto hK [(Il Ea.1.Lo), (Il Ea.1.Hi)]
     have rK := jK.k ae
     have sK := kK.k ae
     have tK := mK.k ae
     have uK := iK.k ae
     refine ⟨nK, oK, ?_⟩
     obtain ⟨vK, wK, xK, be, KU⟩ := tK.sto pK [(Il Ea.2.1.Day), (Il Ea.2.1.Count)]
     have yK := rK.k be
     have zK := sK.k be
     have AK := qK.k be
     have BK := uK.k be
     refine ⟨vK, wK, ?_⟩
     obtain ⟨DK, EK, FK, tg, LU⟩ := BK.sto xK [(Il Ea.2.2.Day), (Il Ea.2.2.Count)]
     have GK := yK.k tg
     have ug := zK.k tg
     have gj := AK.k tg
     refine ⟨DK, EK, ?_⟩
     refine ⟨trivial, _, ug.bk.rc rfl, trivial, _, gj.bk.rc rfl, ?_⟩
     obtain ⟨HK, hp⟩ := gd_some hp
     refine ⟨HK, trivial, _, ug.bk.rc rfl, trivial, _, gj.bk.rc rfl, ?_⟩
     refine gdi hp fun IK hp => ?_
     obtain ⟨JK, KK, LK, MK, NK⟩ := ug.sto FK [(Il (vb + Ea.1.Lo)), (Il (wb + Ea.1.Hi))]
     have OK := GK.k MK
     refine ⟨JK, KK, ?_⟩
     refine gdi hp fun PK hp => ?_
     exact Bf _ _ _ _ _ gK LK OK NK hp
   exact hgo _ _ _ _ _ _ RI SI Da Xc hp
  refine ⟨ha200.isSl, ?_⟩
  try rw [ha200.slLen]
  refine ifd hp (fun QK hp => ?_) fun QK hp => ?_
  ·intro MU UK
   obtain ⟨VK, WK, YK, Yc⟩ := db.blk UK u 14
   have Fa := Ud.k YK
   intro ZK wq
   have hgo : ∀ (ce : Nat) (de : Int) (ee : Int) (yb : Int) (zb : Int) (Ab : M) (aa : Nat → Nat), St (Fm.of m) f g Ab → Lb (Fm.of m) g aa Ab 1 da.nxt 2 [(Il e.1.Lo), (Il e.1.Hi)] → Lb (Fm.of m) g aa Ab 14 og.nxt 2 [(Il yb), (Il zb)] → pTariffTotals_L3 l claims e ce yb zb de ee = some rz → ZK [.c (Il de), .c (Il ee)] Ab := by
    intro ce
    induction ce with
    | zero => intro de ee yb zb Ab aa N Fa Yc hp; cases hp
    | succ ce Cf =>
     intro de ee yb zb Ab aa N Fa Yc hp
     refine wq _ _ _ ?_
     rw [pTariffTotals_L3] at hp
     refine ⟨ha200.isSl, ?_⟩
     try rw [ha200.slLen]
     refine ifd hp (fun aL hp => ?_) fun aL hp => ?_; rotate_left
     ·refine ifnd hp (fun bL hp => ?_) fun bL hp => ?_
      ·refine ifd hp (fun cL hp => ?_) fun cL hp => ?_; rotate_left
       ·obtain rfl := Option.some.inj hp
        exact hq _ N.ext'
       refine ⟨_, _, Fa.bk.ra, ?_⟩
       refine gdi hp fun dL hp => ?_
       refine gdi hp fun eL hp => ?_
       refine gdi hp fun fL hp => ?_
       refine gdi hp fun hL hp => ?_
       refine ifbb hp (fun iL hp => ?_) fun iL hp => ?_; rotate_left
       ·obtain rfl := Option.some.inj hp
        exact hq _ N.ext'
       obtain ⟨NU, jL, hp⟩ := bsome hp
       refine s_awake N.pre  jL fun OU kL => ?_
       obtain ⟨lL, PU⟩ := N.call kL aa
       refine ⟨_, rfl, ?_⟩
       obtain rfl := Option.some.inj hp
       exact hq _ lL.ext'
      refine ifd hp (fun mL hp => ?_) fun mL hp => ?_; rotate_left
      ·obtain rfl := Option.some.inj hp
       exact hq _ N.ext'
      refine ⟨_, _, Fa.bk.ra, _, _, Yc.bk.ra, ?_⟩
      obtain ⟨QU, nL, hp⟩ := bsome hp
      refine s_lTo (r := ({ Lo := yb, Hi := zb } : Rg)) N.pre  nL fun RU oL => ?_
      obtain ⟨vg, pL⟩ := N.call oL aa
      have qL := Fa.k pL
      refine ⟨_, _, rfl, (qL.bk.ra), ?_⟩
      refine gdi hp fun rL hp => ?_
      refine gdi hp fun sL hp => ?_
      refine gdi hp fun tL hp => ?_
      refine gdi hp fun uL hp => ?_
      refine ifbb hp (fun vL hp => ?_) fun vL hp => ?_; rotate_left
      ·obtain rfl := Option.some.inj hp
       exact hq _ vg.ext'
      obtain ⟨SU, wL, hp⟩ := bsome hp
      refine s_awake vg.pre  wL fun TU xL => ?_
      obtain ⟨yL, UU⟩ := vg.call xL aa
      refine ⟨_, rfl, ?_⟩
      obtain rfl := Option.some.inj hp
      exact hq _ yL.ext'
     refine ifd hp (fun hj hp => ?_) fun hj hp => ?_; rotate_left
     ·refine ifnkf hj ?_
      refine ifd hp (fun zL hp => ?_) fun zL hp => ?_; rotate_left
      ·obtain rfl := Option.some.inj hp
       exact hq _ N.ext'
      refine ⟨_, _, Fa.bk.ra, ?_⟩
      refine gdi hp fun AL hp => ?_
      refine gdi hp fun BL hp => ?_
      refine gdi hp fun CL hp => ?_
      refine gdi hp fun DL hp => ?_
      refine ifbb hp (fun EL hp => ?_) fun EL hp => ?_; rotate_left
      ·obtain rfl := Option.some.inj hp
       exact hq _ N.ext'
      obtain ⟨VU, FL, hp⟩ := bsome hp
      refine s_awake N.pre  FL fun WU GL => ?_
      obtain ⟨HL, XU⟩ := N.call GL aa
      refine ⟨_, rfl, ?_⟩
      obtain rfl := Option.some.inj hp
      exact hq _ HL.ext'
     obtain ⟨IL, wg, hp⟩ := bsome hp
     obtain ⟨JL, xq, uh, wg⟩ := idx_some wg
     obtain ⟨_, LL⟩ := rd_Clm ha200 wg
     refine ⟨JL, xq, (by first | exact uh | (rw [ha200.slLen]; exact uh)), _, _, _, _, _, _, (LL _ (Sub.trans (Sub.trans (Sub.trans a.fs b.fs) d.fs) N.sub)).1, ?_⟩
     obtain ⟨YU, ML, hp⟩ := bsome hp
     refine s_lClaimed (l := l) (c := IL) N.pre (ha100.sub (Sub.trans (Sub.trans a.fs b.fs) d.fs)) ML fun ZU NL => ?_
     obtain ⟨fe, ij⟩ := N.call NL aa
     have jj := Fa.k ij
     have kj := Yc.k ij
     refine ⟨_, rfl, ?_⟩
     refine ifd hp (fun OL hp => ?_) fun OL hp => ?_; rotate_left
     ·refine gdi hp fun PL hp => ?_
      exact Cf _ _ _ _ _ aa fe jj kj hp
     obtain ⟨QL, xg, hp⟩ := bsome hp
     obtain ⟨RL, yq, vh, xg⟩ := idx_some xg
     obtain ⟨_, SL⟩ := rd_Clm ha200 xg
     refine ⟨RL, yq, (by first | exact vh | (rw [ha200.slLen]; exact vh)), _, _, _, _, _, _, (SL _ (Sub.trans (Sub.trans (Sub.trans a.fs b.fs) d.fs) fe.sub)).1, ?_⟩
     obtain ⟨Ga, TL, hp⟩ := bsome hp
     refine s_rBounds (l := l) (c := QL) fe.pre (ha100.sub (Sub.trans (Sub.trans a.fs b.fs) d.fs)) TL fun aV UL => ?_
     obtain ⟨WL, lj⟩ := fe.call UL aa
     have XL := jj.k lj
     have YL := kj.k lj
     refine ⟨_, _, _, _, _, _, rfl, ?_⟩
     intro bV ZL
     obtain ⟨aM, bM, mj, cM⟩ := WL.blk ZL aa 15
     have dM := XL.k mj
     have eM := YL.k mj
     intro cV fM
     obtain ⟨gM, iM, zg, jM⟩ := bM.blk fM aM 16
     have kM := dM.k zg
     have lM := eM.k zg
     have mM := cM.k zg
     intro dV nM
     obtain ⟨oM, pM, ge, qM⟩ := iM.blk nM gM 17
     have rM := kM.k ge
     have sM := lM.k ge
     have tM := mM.k ge
     have uM := jM.k ge
     obtain ⟨vM, wM, xM, he, yM⟩ := tM.sto pM [(Il Ga.1.Lo), (Il Ga.1.Hi)]
     have zM := rM.k he
     have AM := sM.k he
     have BM := uM.k he
     have CM := qM.k he
     refine ⟨vM, wM, ?_⟩
     obtain ⟨DM, EM, FM, ie, eV⟩ := BM.sto xM [(Il Ga.2.1.Day), (Il Ga.2.1.Count)]
     have GM := zM.k ie
     have HM := AM.k ie
     have IM := yM.k ie
     have JM := CM.k ie
     refine ⟨DM, EM, ?_⟩
     obtain ⟨nj, KM, LM, Ag, fV⟩ := JM.sto FM [(Il Ga.2.2.Day), (Il Ga.2.2.Count)]
     have MM := GM.k Ag
     have Bg := HM.k Ag
     have oj := IM.k Ag
     refine ⟨nj, KM, ?_⟩
     refine ⟨trivial, _, Bg.bk.rc rfl, trivial, _, oj.bk.rc rfl, ?_⟩
     obtain ⟨NM, hp⟩ := gd_some hp
     refine ⟨NM, trivial, _, Bg.bk.rc rfl, trivial, _, oj.bk.rc rfl, ?_⟩
     refine gdi hp fun OM hp => ?_
     obtain ⟨pj, PM, QM, RM, SM⟩ := Bg.sto LM [(Il (yb + Ga.1.Lo)), (Il (zb + Ga.1.Hi))]
     have TM := MM.k RM
     refine ⟨pj, PM, ?_⟩
     refine gdi hp fun UM hp => ?_
     exact Cf _ _ _ _ _ oM QM TM SM hp
   exact hgo _ _ _ _ _ _ VK WK Fa Yc hp
  intro gV VM
  obtain ⟨WM, XM, YM, Zc⟩ := db.blk VM u 18
  have Ha := Ud.k YM
  intro ZM zq
  have hgo : ∀ (je : Nat) (ke : Int) (me : Int) (Bb : Int) (Cb : Int) (Db : M) (ba : Nat → Nat), St (Fm.of m) f g Db → Lb (Fm.of m) g ba Db 1 da.nxt 2 [(Il e.1.Lo), (Il e.1.Hi)] → Lb (Fm.of m) g ba Db 18 og.nxt 2 [(Il Bb), (Il Cb)] → pTariffTotals_L4 l claims e je Bb Cb ke me = some rz → ZM [.c (Il ke), .c (Il me)] Db := by
   intro je
   induction je with
   | zero => intro ke me Bb Cb Db ba O Ha Zc hp; cases hp
   | succ je Df =>
    intro ke me Bb Cb Db ba O Ha Zc hp
    refine zq _ _ _ ?_
    rw [pTariffTotals_L4] at hp
    refine ⟨ha200.isSl, ?_⟩
    try rw [ha200.slLen]
    refine ifd hp (fun aN hp => ?_) fun aN hp => ?_; rotate_left
    ·refine ifnd hp (fun bN hp => ?_) fun bN hp => ?_
     ·refine ifd hp (fun cN hp => ?_) fun cN hp => ?_; rotate_left
      ·obtain rfl := Option.some.inj hp
       exact hq _ O.ext'
      refine ⟨_, _, Ha.bk.ra, ?_⟩
      refine gdi hp fun dN hp => ?_
      refine gdi hp fun eN hp => ?_
      refine gdi hp fun fN hp => ?_
      refine gdi hp fun gN hp => ?_
      refine ifbb hp (fun hN hp => ?_) fun hN hp => ?_; rotate_left
      ·obtain rfl := Option.some.inj hp
       exact hq _ O.ext'
      obtain ⟨hV, iN, hp⟩ := bsome hp
      refine s_awake O.pre  iN fun iV jN => ?_
      obtain ⟨kN, jV⟩ := O.call jN ba
      refine ⟨_, rfl, ?_⟩
      obtain rfl := Option.some.inj hp
      exact hq _ kN.ext'
     refine ifd hp (fun lN hp => ?_) fun lN hp => ?_; rotate_left
     ·obtain rfl := Option.some.inj hp
      exact hq _ O.ext'
     refine ⟨_, _, Ha.bk.ra, _, _, Zc.bk.ra, ?_⟩
     obtain ⟨kV, mN, hp⟩ := bsome hp
     refine s_lTo (r := ({ Lo := Bb, Hi := Cb } : Rg)) O.pre  mN fun lV nN => ?_
     obtain ⟨Cg, oN⟩ := O.call nN ba
     have pN := Ha.k oN
     refine ⟨_, _, rfl, (pN.bk.ra), ?_⟩
     refine gdi hp fun qN hp => ?_
     refine gdi hp fun rN hp => ?_
     refine gdi hp fun sN hp => ?_
     refine gdi hp fun tN hp => ?_
     refine ifbb hp (fun uN hp => ?_) fun uN hp => ?_; rotate_left
     ·obtain rfl := Option.some.inj hp
      exact hq _ Cg.ext'
     obtain ⟨mV, vN, hp⟩ := bsome hp
     refine s_awake Cg.pre  vN fun nV wN => ?_
     obtain ⟨xN, oV⟩ := Cg.call wN ba
     refine ⟨_, rfl, ?_⟩
     obtain rfl := Option.some.inj hp
     exact hq _ xN.ext'
    refine ifd hp (fun qj hp => ?_) fun qj hp => ?_; rotate_left
    ·refine ifnkf qj ?_
     refine ifd hp (fun yN hp => ?_) fun yN hp => ?_; rotate_left
     ·obtain rfl := Option.some.inj hp
      exact hq _ O.ext'
     refine ⟨_, _, Ha.bk.ra, ?_⟩
     refine gdi hp fun zN hp => ?_
     refine gdi hp fun AN hp => ?_
     refine gdi hp fun BN hp => ?_
     refine gdi hp fun CN hp => ?_
     refine ifbb hp (fun DN hp => ?_) fun DN hp => ?_; rotate_left
     ·obtain rfl := Option.some.inj hp
      exact hq _ O.ext'
     obtain ⟨pV, EN, hp⟩ := bsome hp
     refine s_awake O.pre  EN fun qV FN => ?_
     obtain ⟨GN, rV⟩ := O.call FN ba
     refine ⟨_, rfl, ?_⟩
     obtain rfl := Option.some.inj hp
     exact hq _ GN.ext'
    obtain ⟨HN, Dg, hp⟩ := bsome hp
    obtain ⟨IN, Aq, wh, Dg⟩ := idx_some Dg
    obtain ⟨_, JN⟩ := rd_Clm ha200 Dg
    refine ⟨IN, Aq, (by first | exact wh | (rw [ha200.slLen]; exact wh)), _, _, _, _, _, _, (JN _ (Sub.trans (Sub.trans (Sub.trans a.fs b.fs) d.fs) O.sub)).1, ?_⟩
    obtain ⟨sV, KN, hp⟩ := bsome hp
    refine s_lClaimed (l := l) (c := HN) O.pre (ha100.sub (Sub.trans (Sub.trans a.fs b.fs) d.fs)) KN fun tV LN => ?_
    obtain ⟨oe, rj⟩ := O.call LN ba
    have sj := Ha.k rj
    have tj := Zc.k rj
    refine ⟨_, rfl, ?_⟩
    refine ifd hp (fun MN hp => ?_) fun MN hp => ?_; rotate_left
    ·refine gdi hp fun NN hp => ?_
     exact Df _ _ _ _ _ ba oe sj tj hp
    obtain ⟨ON, Eg, hp⟩ := bsome hp
    obtain ⟨PN, Bq, xh, Eg⟩ := idx_some Eg
    obtain ⟨_, QN⟩ := rd_Clm ha200 Eg
    refine ⟨PN, Bq, (by first | exact xh | (rw [ha200.slLen]; exact xh)), _, _, _, _, _, _, (QN _ (Sub.trans (Sub.trans (Sub.trans a.fs b.fs) d.fs) oe.sub)).1, ?_⟩
    obtain ⟨Ia, RN, hp⟩ := bsome hp
    refine s_rBounds (l := l) (c := ON) oe.pre (ha100.sub (Sub.trans (Sub.trans a.fs b.fs) d.fs)) RN fun vV SN => ?_
    obtain ⟨TN, uj⟩ := oe.call SN ba
    have UN := sj.k uj
    have VN := tj.k uj
    refine ⟨_, _, _, _, _, _, rfl, ?_⟩
    intro xV WN
    obtain ⟨XN, YN, vj, ZN⟩ := TN.blk WN ba 19
    have aO := UN.k vj
    have bO := VN.k vj
    intro yV cO
    obtain ⟨dO, eO, Fg, fO⟩ := YN.blk cO XN 20
    have gO := aO.k Fg
    have hO := bO.k Fg
    have iO := ZN.k Fg
    intro zV jO
    obtain ⟨kO, lO, pe, mO⟩ := eO.blk jO dO 21
    have nO := gO.k pe
    have oO := hO.k pe
    have pO := iO.k pe
    have qO := fO.k pe
    obtain ⟨rO, sO, tO, qe, uO⟩ := pO.sto lO [(Il Ia.1.Lo), (Il Ia.1.Hi)]
    have vO := nO.k qe
    have wO := oO.k qe
    have xO := qO.k qe
    have yO := mO.k qe
    refine ⟨rO, sO, ?_⟩
    obtain ⟨zO, BO, CO, re, AV⟩ := xO.sto tO [(Il Ia.2.1.Day), (Il Ia.2.1.Count)]
    have DO := vO.k re
    have EO := wO.k re
    have FO := uO.k re
    have GO := yO.k re
    refine ⟨zO, BO, ?_⟩
    obtain ⟨HO, IO, JO, Gg, BV⟩ := GO.sto CO [(Il Ia.2.2.Day), (Il Ia.2.2.Count)]
    have KO := DO.k Gg
    have Hg := EO.k Gg
    have wj := FO.k Gg
    refine ⟨HO, IO, ?_⟩
    refine ⟨trivial, _, Hg.bk.rc rfl, trivial, _, wj.bk.rc rfl, ?_⟩
    obtain ⟨LO, hp⟩ := gd_some hp
    refine ⟨LO, trivial, _, Hg.bk.rc rfl, trivial, _, wj.bk.rc rfl, ?_⟩
    refine gdi hp fun MO hp => ?_
    obtain ⟨NO, OO, PO, QO, RO⟩ := Hg.sto JO [(Il (Bb + Ia.1.Lo)), (Il (Cb + Ia.1.Hi))]
    have SO := KO.k QO
    refine ⟨NO, OO, ?_⟩
    refine gdi hp fun TO hp => ?_
    exact Df _ _ _ _ _ kO PO SO RO hp
  exact hgo _ _ _ _ _ _ WM XM Ha Zc hp
 refine ifdkt qi ?_
 obtain ⟨CV, UO, hp⟩ := bsome hp
 refine s_rLeast (l := l) (crop := crop) (day := day) db.pre (ha100.sub (Sub.trans (Sub.trans a.fs b.fs) d.fs)) UO fun Eb VO => ?_
 obtain ⟨xa, WO⟩ := db.call VO u
 have Fb := Ud.k WO
 refine ⟨_, rfl, ?_⟩
 refine ifd hp (fun XO hp => ?_) fun XO hp => ?_
 ·refine ifnd hp (fun YO hp => ?_) fun YO hp => ?_
  ·obtain rfl := Option.some.inj hp
   exact hq _ xa.ext'
  refine ifnd hp (fun ZO hp => ?_) fun ZO hp => ?_
  ·obtain rfl := Option.some.inj hp
   exact hq _ xa.ext'
  refine ifd hp (fun aP hp => ?_) fun aP hp => ?_; rotate_left
  ·intro DV Cq
   obtain ⟨Dq, Eq, Fq, hb⟩ := xa.blk Cq u 34
   have la := Fb.k Fq
   intro bP Gq
   have hgo : ∀ (lc : Nat) (se : Int) (te : Int) (Ta : Int) (Ua : Int) (Gb : M) (z : Nat → Nat), St (Fm.of m) f g Gb → Lb (Fm.of m) g z Gb 1 da.nxt 2 [(Il e.1.Lo), (Il e.1.Hi)] → Lb (Fm.of m) g z Gb 34 Eb.nxt 2 [(Il Ta), (Il Ua)] → pTariffTotals_L8 l claims e lc Ta Ua se te = some rz → bP [.c (Il se), .c (Il te)] Gb := by
    intro lc
    induction lc with
    | zero => intro se te Ta Ua Gb z o la hb hp; cases hp
    | succ lc Ef =>
     intro se te Ta Ua Gb z o la hb hp
     refine Gq _ _ _ ?_
     rw [pTariffTotals_L8] at hp
     refine ⟨ha200.isSl, ?_⟩
     try rw [ha200.slLen]
     refine ifd hp (fun Hq hp => ?_) fun Hq hp => ?_; rotate_left
     ·refine ifnd hp (fun Iq hp => ?_) fun Iq hp => ?_
      ·refine ifd hp (fun Jq hp => ?_) fun Jq hp => ?_; rotate_left
       ·obtain rfl := Option.some.inj hp
        exact hq _ o.ext'
       refine ⟨_, _, la.bk.ra, ?_⟩
       refine gdi hp fun Kq hp => ?_
       refine gdi hp fun Lq hp => ?_
       refine gdi hp fun Mq hp => ?_
       refine gdi hp fun Nq hp => ?_
       refine ifbb hp (fun Oq hp => ?_) fun Oq hp => ?_; rotate_left
       ·obtain rfl := Option.some.inj hp
        exact hq _ o.ext'
       obtain ⟨aS, Pq, hp⟩ := bsome hp
       refine s_awake o.pre  Pq fun EV Qq => ?_
       obtain ⟨Rq, bS⟩ := o.call Qq z
       refine ⟨_, rfl, ?_⟩
       obtain rfl := Option.some.inj hp
       exact hq _ Rq.ext'
      refine ifd hp (fun Sq hp => ?_) fun Sq hp => ?_; rotate_left
      ·obtain rfl := Option.some.inj hp
       exact hq _ o.ext'
      refine ⟨_, _, la.bk.ra, _, _, hb.bk.ra, ?_⟩
      obtain ⟨cS, Tq, hp⟩ := bsome hp
      refine s_lTo (r := ({ Lo := Ta, Hi := Ua } : Rg)) o.pre  Tq fun FV Uq => ?_
      obtain ⟨ue, Vq⟩ := o.call Uq z
      have Wq := la.k Vq
      refine ⟨_, _, rfl, (Wq.bk.ra), ?_⟩
      refine gdi hp fun Xq hp => ?_
      refine gdi hp fun Yq hp => ?_
      refine gdi hp fun Zq hp => ?_
      refine gdi hp fun ar hp => ?_
      refine ifbb hp (fun br hp => ?_) fun br hp => ?_; rotate_left
      ·obtain rfl := Option.some.inj hp
       exact hq _ ue.ext'
      obtain ⟨dS, cr, hp⟩ := bsome hp
      refine s_awake ue.pre  cr fun GV dr => ?_
      obtain ⟨er, eS⟩ := ue.call dr z
      refine ⟨_, rfl, ?_⟩
      obtain rfl := Option.some.inj hp
      exact hq _ er.ext'
     refine ifd hp (fun yh hp => ?_) fun yh hp => ?_; rotate_left
     ·refine ifnkf yh ?_
      refine ifd hp (fun fr hp => ?_) fun fr hp => ?_; rotate_left
      ·obtain rfl := Option.some.inj hp
       exact hq _ o.ext'
      refine ⟨_, _, la.bk.ra, ?_⟩
      refine gdi hp fun gr hp => ?_
      refine gdi hp fun hr hp => ?_
      refine gdi hp fun ir hp => ?_
      refine gdi hp fun jr hp => ?_
      refine ifbb hp (fun kr hp => ?_) fun kr hp => ?_; rotate_left
      ·obtain rfl := Option.some.inj hp
       exact hq _ o.ext'
      obtain ⟨fS, lr, hp⟩ := bsome hp
      refine s_awake o.pre  lr fun HV mr => ?_
      obtain ⟨nr, gS⟩ := o.call mr z
      refine ⟨_, rfl, ?_⟩
      obtain rfl := Option.some.inj hp
      exact hq _ nr.ext'
     obtain ⟨pr, ve, hp⟩ := bsome hp
     obtain ⟨cP, xj, Ff, ve⟩ := idx_some ve
     obtain ⟨_, qr⟩ := rd_Clm ha200 ve
     refine ⟨cP, xj, (by first | exact Ff | (rw [ha200.slLen]; exact Ff)), _, _, _, _, _, _, (qr _ (Sub.trans (Sub.trans (Sub.trans a.fs b.fs) d.fs) o.sub)).1, ?_⟩
     obtain ⟨iS, rr, hp⟩ := bsome hp
     refine s_lClaimed (l := l) (c := pr) o.pre (ha100.sub (Sub.trans (Sub.trans a.fs b.fs) d.fs)) rr fun IV sr => ?_
     obtain ⟨nc, zh⟩ := o.call sr z
     have Ah := la.k zh
     have Bh := hb.k zh
     refine ⟨_, rfl, ?_⟩
     refine ifd hp (fun tr hp => ?_) fun tr hp => ?_; rotate_left
     ·refine gdi hp fun ur hp => ?_
      exact Ef _ _ _ _ _ z nc Ah Bh hp
     obtain ⟨vr, we, hp⟩ := bsome hp
     obtain ⟨dP, yj, Gf, we⟩ := idx_some we
     obtain ⟨_, wr⟩ := rd_Clm ha200 we
     refine ⟨dP, yj, (by first | exact Gf | (rw [ha200.slLen]; exact Gf)), _, _, _, _, _, _, (wr _ (Sub.trans (Sub.trans (Sub.trans a.fs b.fs) d.fs) nc.sub)).1, ?_⟩
     obtain ⟨ma, xr, hp⟩ := bsome hp
     refine s_rBounds (l := l) (c := vr) nc.pre (ha100.sub (Sub.trans (Sub.trans a.fs b.fs) d.fs)) xr fun JV yr => ?_
     obtain ⟨zr, Ch⟩ := nc.call yr z
     have Ar := Ah.k Ch
     have Br := Bh.k Ch
     refine ⟨_, _, _, _, _, _, rfl, ?_⟩
     intro KV Cr
     obtain ⟨Dr, Er, Dh, Gr⟩ := zr.blk Cr z 35
     have Hr := Ar.k Dh
     have Ir := Br.k Dh
     intro LV Jr
     obtain ⟨Kr, Lr, xe, Mr⟩ := Er.blk Jr Dr 36
     have Nr := Hr.k xe
     have Or := Ir.k xe
     have Pr := Gr.k xe
     intro MV Qr
     obtain ⟨Rr, Sr, oc, Ur⟩ := Lr.blk Qr Kr 37
     have Vr := Nr.k oc
     have Wr := Or.k oc
     have Xr := Pr.k oc
     have Yr := Mr.k oc
     obtain ⟨Zr, bs, cs, pc, ds⟩ := Xr.sto Sr [(Il ma.1.Lo), (Il ma.1.Hi)]
     have es := Vr.k pc
     have gs := Wr.k pc
     have hs := Yr.k pc
     have js := Ur.k pc
     refine ⟨Zr, bs, ?_⟩
     obtain ⟨ks, ms, ns, qc, jS⟩ := hs.sto cs [(Il ma.2.1.Day), (Il ma.2.1.Count)]
     have os := es.k qc
     have ps := gs.k qc
     have qs := ds.k qc
     have rs := js.k qc
     refine ⟨ks, ms, ?_⟩
     obtain ⟨ss, ts, us, ye, kS⟩ := rs.sto ns [(Il ma.2.2.Day), (Il ma.2.2.Count)]
     have vs := os.k ye
     have ze := ps.k ye
     have Eh := qs.k ye
     refine ⟨ss, ts, ?_⟩
     refine ⟨trivial, _, ze.bk.rc rfl, trivial, _, Eh.bk.rc rfl, ?_⟩
     obtain ⟨ws, hp⟩ := gd_some hp
     refine ⟨ws, trivial, _, ze.bk.rc rfl, trivial, _, Eh.bk.rc rfl, ?_⟩
     refine gdi hp fun xs hp => ?_
     obtain ⟨ys, zs, As, Bs, Cs⟩ := ze.sto us [(Il (Ta + ma.1.Lo)), (Il (Ua + ma.1.Hi))]
     have Ds := vs.k Bs
     refine ⟨ys, zs, ?_⟩
     refine gdi hp fun Es hp => ?_
     exact Ef _ _ _ _ _ Rr As Ds Cs hp
   exact hgo _ _ _ _ _ _ Dq Eq la hb hp
  refine ⟨ha200.isSl, ?_⟩
  try rw [ha200.slLen]
  refine ifd hp (fun eP hp => ?_) fun eP hp => ?_
  ·intro NV fP
   obtain ⟨gP, hP, iP, ad⟩ := xa.blk fP u 26
   have Ja := Fb.k iP
   intro jP Fs
   have hgo : ∀ (Ae : Nat) (Be : Int) (Ce : Int) (Hb : Int) (Ib : Int) (Jb : M) (ca : Nat → Nat), St (Fm.of m) f g Jb → Lb (Fm.of m) g ca Jb 1 da.nxt 2 [(Il e.1.Lo), (Il e.1.Hi)] → Lb (Fm.of m) g ca Jb 26 Eb.nxt 2 [(Il Hb), (Il Ib)] → pTariffTotals_L6 l claims e Ae Hb Ib Be Ce = some rz → jP [.c (Il Be), .c (Il Ce)] Jb := by
    intro Ae
    induction Ae with
    | zero => intro Be Ce Hb Ib Jb ca P Ja ad hp; cases hp
    | succ Ae Hf =>
     intro Be Ce Hb Ib Jb ca P Ja ad hp
     refine Fs _ _ _ ?_
     rw [pTariffTotals_L6] at hp
     refine ⟨ha200.isSl, ?_⟩
     try rw [ha200.slLen]
     refine ifd hp (fun kP hp => ?_) fun kP hp => ?_; rotate_left
     ·refine ifnd hp (fun Gs hp => ?_) fun Gs hp => ?_
      ·refine ifd hp (fun Hs hp => ?_) fun Hs hp => ?_; rotate_left
       ·obtain rfl := Option.some.inj hp
        exact hq _ P.ext'
       refine ⟨_, _, Ja.bk.ra, ?_⟩
       refine gdi hp fun Is hp => ?_
       refine gdi hp fun Js hp => ?_
       refine gdi hp fun Ks hp => ?_
       refine gdi hp fun Ms hp => ?_
       refine ifbb hp (fun Ns hp => ?_) fun Ns hp => ?_; rotate_left
       ·obtain rfl := Option.some.inj hp
        exact hq _ P.ext'
       obtain ⟨lS, Os, hp⟩ := bsome hp
       refine s_awake P.pre  Os fun OV Ps => ?_
       obtain ⟨Qs, mS⟩ := P.call Ps ca
       refine ⟨_, rfl, ?_⟩
       obtain rfl := Option.some.inj hp
       exact hq _ Qs.ext'
      refine ifd hp (fun Ss hp => ?_) fun Ss hp => ?_; rotate_left
      ·obtain rfl := Option.some.inj hp
       exact hq _ P.ext'
      refine ⟨_, _, Ja.bk.ra, _, _, ad.bk.ra, ?_⟩
      obtain ⟨nS, Ts, hp⟩ := bsome hp
      refine s_lTo (r := ({ Lo := Hb, Hi := Ib } : Rg)) P.pre  Ts fun PV Us => ?_
      obtain ⟨De, Vs⟩ := P.call Us ca
      have Ws := Ja.k Vs
      refine ⟨_, _, rfl, (Ws.bk.ra), ?_⟩
      refine gdi hp fun Xs hp => ?_
      refine gdi hp fun Ys hp => ?_
      refine gdi hp fun Zs hp => ?_
      refine gdi hp fun bt hp => ?_
      refine ifbb hp (fun ct hp => ?_) fun ct hp => ?_; rotate_left
      ·obtain rfl := Option.some.inj hp
       exact hq _ De.ext'
      obtain ⟨oS, dt, hp⟩ := bsome hp
      refine s_awake De.pre  dt fun QV et => ?_
      obtain ⟨ft, pS⟩ := De.call et ca
      refine ⟨_, rfl, ?_⟩
      obtain rfl := Option.some.inj hp
      exact hq _ ft.ext'
     refine ifd hp (fun zj hp => ?_) fun zj hp => ?_; rotate_left
     ·refine ifnkf zj ?_
      refine ifd hp (fun gt hp => ?_) fun gt hp => ?_; rotate_left
      ·obtain rfl := Option.some.inj hp
       exact hq _ P.ext'
      refine ⟨_, _, Ja.bk.ra, ?_⟩
      refine gdi hp fun ht hp => ?_
      refine gdi hp fun it hp => ?_
      refine gdi hp fun jt hp => ?_
      refine gdi hp fun kt hp => ?_
      refine ifbb hp (fun mt hp => ?_) fun mt hp => ?_; rotate_left
      ·obtain rfl := Option.some.inj hp
       exact hq _ P.ext'
      obtain ⟨qS, nt, hp⟩ := bsome hp
      refine s_awake P.pre  nt fun RV ot => ?_
      obtain ⟨pt, rS⟩ := P.call ot ca
      refine ⟨_, rfl, ?_⟩
      obtain rfl := Option.some.inj hp
      exact hq _ pt.ext'
     obtain ⟨lP, Ig, hp⟩ := bsome hp
     obtain ⟨mP, qt, Fh, Ig⟩ := idx_some Ig
     obtain ⟨_, rt⟩ := rd_Clm ha200 Ig
     refine ⟨mP, qt, (by first | exact Fh | (rw [ha200.slLen]; exact Fh)), _, _, _, _, _, _, (rt _ (Sub.trans (Sub.trans (Sub.trans a.fs b.fs) d.fs) P.sub)).1, ?_⟩
     obtain ⟨sS, ut, hp⟩ := bsome hp
     refine s_lClaimed (l := l) (c := lP) P.pre (ha100.sub (Sub.trans (Sub.trans a.fs b.fs) d.fs)) ut fun SV vt => ?_
     obtain ⟨sc, Gh⟩ := P.call vt ca
     have Hh := Ja.k Gh
     have Ih := ad.k Gh
     refine ⟨_, rfl, ?_⟩
     refine ifd hp (fun wt hp => ?_) fun wt hp => ?_; rotate_left
     ·refine gdi hp fun xt hp => ?_
      exact Hf _ _ _ _ _ ca sc Hh Ih hp
     obtain ⟨yt, Ee, hp⟩ := bsome hp
     obtain ⟨nP, Aj, If, Ee⟩ := idx_some Ee
     obtain ⟨_, zt⟩ := rd_Clm ha200 Ee
     refine ⟨nP, Aj, (by first | exact If | (rw [ha200.slLen]; exact If)), _, _, _, _, _, _, (zt _ (Sub.trans (Sub.trans (Sub.trans a.fs b.fs) d.fs) sc.sub)).1, ?_⟩
     obtain ⟨na, At, hp⟩ := bsome hp
     refine s_rBounds (l := l) (c := yt) sc.pre (ha100.sub (Sub.trans (Sub.trans a.fs b.fs) d.fs)) At fun TV Bt => ?_
     obtain ⟨Ct, Jh⟩ := sc.call Bt ca
     have Dt := Hh.k Jh
     have Et := Ih.k Jh
     refine ⟨_, _, _, _, _, _, rfl, ?_⟩
     intro UV Ft
     obtain ⟨Gt, Jt, Kh, Kt⟩ := Ct.blk Ft ca 27
     have Lt := Dt.k Kh
     have Mt := Et.k Kh
     intro VV Nt
     obtain ⟨Ot, Pt, Fe, Qt⟩ := Jt.blk Nt Gt 28
     have Rt := Lt.k Fe
     have Tt := Mt.k Fe
     have Ut := Kt.k Fe
     intro WV Vt
     obtain ⟨Xt, Yt, tc, Zt⟩ := Pt.blk Vt Ot 29
     have au := Rt.k tc
     have bu := Tt.k tc
     have cu := Ut.k tc
     have du := Qt.k tc
     obtain ⟨eu, fu, gu, uc, hu⟩ := cu.sto Yt [(Il na.1.Lo), (Il na.1.Hi)]
     have iu := au.k uc
     have ju := bu.k uc
     have ku := du.k uc
     have lu := Zt.k uc
     refine ⟨eu, fu, ?_⟩
     obtain ⟨mu, nu, ou, vc, tS⟩ := ku.sto gu [(Il na.2.1.Day), (Il na.2.1.Count)]
     have pu := iu.k vc
     have qu := ju.k vc
     have ru := hu.k vc
     have su := lu.k vc
     refine ⟨mu, nu, ?_⟩
     obtain ⟨tu, uu, vu, Ge, uS⟩ := su.sto ou [(Il na.2.2.Day), (Il na.2.2.Count)]
     have wu := pu.k Ge
     have He := qu.k Ge
     have Lh := ru.k Ge
     refine ⟨tu, uu, ?_⟩
     refine ⟨trivial, _, He.bk.rc rfl, trivial, _, Lh.bk.rc rfl, ?_⟩
     obtain ⟨xu, hp⟩ := gd_some hp
     refine ⟨xu, trivial, _, He.bk.rc rfl, trivial, _, Lh.bk.rc rfl, ?_⟩
     refine gdi hp fun yu hp => ?_
     obtain ⟨zu, Au, Bu, Cu, Du⟩ := He.sto vu [(Il (Hb + na.1.Lo)), (Il (Ib + na.1.Hi))]
     have Eu := wu.k Cu
     refine ⟨zu, Au, ?_⟩
     refine gdi hp fun Fu hp => ?_
     exact Hf _ _ _ _ _ Xt Bu Eu Du hp
   exact hgo _ _ _ _ _ _ gP hP Ja ad hp
  intro XV Gu
  obtain ⟨Hu, Iu, Ju, ib⟩ := xa.blk Gu u 30
  have oa := Fb.k Ju
  intro oP Ku
  have hgo : ∀ (wc : Nat) (Ie : Int) (Je : Int) (Va : Int) (Wa : Int) (Kb : M) (A : Nat → Nat), St (Fm.of m) f g Kb → Lb (Fm.of m) g A Kb 1 da.nxt 2 [(Il e.1.Lo), (Il e.1.Hi)] → Lb (Fm.of m) g A Kb 30 Eb.nxt 2 [(Il Va), (Il Wa)] → pTariffTotals_L7 l claims e wc Va Wa Ie Je = some rz → oP [.c (Il Ie), .c (Il Je)] Kb := by
   intro wc
   induction wc with
   | zero => intro Ie Je Va Wa Kb A p oa ib hp; cases hp
   | succ wc Jf =>
    intro Ie Je Va Wa Kb A p oa ib hp
    refine Ku _ _ _ ?_
    rw [pTariffTotals_L7] at hp
    refine ⟨ha200.isSl, ?_⟩
    try rw [ha200.slLen]
    refine ifd hp (fun Lu hp => ?_) fun Lu hp => ?_; rotate_left
    ·refine ifnd hp (fun Mu hp => ?_) fun Mu hp => ?_
     ·refine ifd hp (fun Nu hp => ?_) fun Nu hp => ?_; rotate_left
      ·obtain rfl := Option.some.inj hp
       exact hq _ p.ext'
      refine ⟨_, _, oa.bk.ra, ?_⟩
      refine gdi hp fun Ou hp => ?_
      refine gdi hp fun Pu hp => ?_
      refine gdi hp fun Qu hp => ?_
      refine gdi hp fun Ru hp => ?_
      refine ifbb hp (fun Su hp => ?_) fun Su hp => ?_; rotate_left
      ·obtain rfl := Option.some.inj hp
       exact hq _ p.ext'
      obtain ⟨vS, Tu, hp⟩ := bsome hp
      refine s_awake p.pre  Tu fun nj Uu => ?_
      obtain ⟨Vu, wS⟩ := p.call Uu A
      refine ⟨_, rfl, ?_⟩
      obtain rfl := Option.some.inj hp
      exact hq _ Vu.ext'
     refine ifd hp (fun Wu hp => ?_) fun Wu hp => ?_; rotate_left
     ·obtain rfl := Option.some.inj hp
      exact hq _ p.ext'
     refine ⟨_, _, oa.bk.ra, _, _, ib.bk.ra, ?_⟩
     obtain ⟨xS, Xu, hp⟩ := bsome hp
     refine s_lTo (r := ({ Lo := Va, Hi := Wa } : Rg)) p.pre  Xu fun YV Yu => ?_
     obtain ⟨Ke, Zu⟩ := p.call Yu A
     have av := oa.k Zu
     refine ⟨_, _, rfl, (av.bk.ra), ?_⟩
     refine gdi hp fun bv hp => ?_
     refine gdi hp fun cv hp => ?_
     refine gdi hp fun dv hp => ?_
     refine gdi hp fun fv hp => ?_
     refine ifbb hp (fun gv hp => ?_) fun gv hp => ?_; rotate_left
     ·obtain rfl := Option.some.inj hp
      exact hq _ Ke.ext'
     obtain ⟨yS, hv, hp⟩ := bsome hp
     refine s_awake Ke.pre  hv fun pj iv => ?_
     obtain ⟨jv, zS⟩ := Ke.call iv A
     refine ⟨_, rfl, ?_⟩
     obtain rfl := Option.some.inj hp
     exact hq _ jv.ext'
    refine ifd hp (fun Mh hp => ?_) fun Mh hp => ?_; rotate_left
    ·refine ifnkf Mh ?_
     refine ifd hp (fun kv hp => ?_) fun kv hp => ?_; rotate_left
     ·obtain rfl := Option.some.inj hp
      exact hq _ p.ext'
     refine ⟨_, _, oa.bk.ra, ?_⟩
     refine gdi hp fun lv hp => ?_
     refine gdi hp fun mv hp => ?_
     refine gdi hp fun nv hp => ?_
     refine gdi hp fun ov hp => ?_
     refine ifbb hp (fun pv hp => ?_) fun pv hp => ?_; rotate_left
     ·obtain rfl := Option.some.inj hp
      exact hq _ p.ext'
     obtain ⟨AS, qv, hp⟩ := bsome hp
     refine s_awake p.pre  qv fun ZV rv => ?_
     obtain ⟨sv, CS⟩ := p.call rv A
     refine ⟨_, rfl, ?_⟩
     obtain rfl := Option.some.inj hp
     exact hq _ sv.ext'
    obtain ⟨tv, Me, hp⟩ := bsome hp
    obtain ⟨pP, Bj, Kf, Me⟩ := idx_some Me
    obtain ⟨_, uv⟩ := rd_Clm ha200 Me
    refine ⟨pP, Bj, (by first | exact Kf | (rw [ha200.slLen]; exact Kf)), _, _, _, _, _, _, (uv _ (Sub.trans (Sub.trans (Sub.trans a.fs b.fs) d.fs) p.sub)).1, ?_⟩
    obtain ⟨DS, vv, hp⟩ := bsome hp
    refine s_lClaimed (l := l) (c := tv) p.pre (ha100.sub (Sub.trans (Sub.trans a.fs b.fs) d.fs)) vv fun aW wv => ?_
    obtain ⟨xc, Nh⟩ := p.call wv A
    have Oh := oa.k Nh
    have Ph := ib.k Nh
    refine ⟨_, rfl, ?_⟩
    refine ifd hp (fun xv hp => ?_) fun xv hp => ?_; rotate_left
    ·refine gdi hp fun yv hp => ?_
     exact Jf _ _ _ _ _ A xc Oh Ph hp
    obtain ⟨zv, Ne, hp⟩ := bsome hp
    obtain ⟨qP, Cj, Lf, Ne⟩ := idx_some Ne
    obtain ⟨_, Av⟩ := rd_Clm ha200 Ne
    refine ⟨qP, Cj, (by first | exact Lf | (rw [ha200.slLen]; exact Lf)), _, _, _, _, _, _, (Av _ (Sub.trans (Sub.trans (Sub.trans a.fs b.fs) d.fs) xc.sub)).1, ?_⟩
    obtain ⟨pa, Bv, hp⟩ := bsome hp
    refine s_rBounds (l := l) (c := zv) xc.pre (ha100.sub (Sub.trans (Sub.trans a.fs b.fs) d.fs)) Bv fun bW Cv => ?_
    obtain ⟨Dv, Qh⟩ := xc.call Cv A
    have Fv := Oh.k Qh
    have Gv := Ph.k Qh
    refine ⟨_, _, _, _, _, _, rfl, ?_⟩
    intro cW Hv
    obtain ⟨Iv, Jv, Rh, Kv⟩ := Dv.blk Hv A 31
    have Lv := Fv.k Rh
    have Mv := Gv.k Rh
    intro dW Nv
    obtain ⟨Ov, Pv, Oe, Qv⟩ := Jv.blk Nv Iv 32
    have Rv := Lv.k Oe
    have Sv := Mv.k Oe
    have Tv := Kv.k Oe
    intro eW Uv
    obtain ⟨Vv, Wv, yc, Xv⟩ := Pv.blk Uv Ov 33
    have Yv := Rv.k yc
    have Zv := Sv.k yc
    have bw := Tv.k yc
    have cw := Qv.k yc
    obtain ⟨dw, ew, fw, zc, gw⟩ := bw.sto Wv [(Il pa.1.Lo), (Il pa.1.Hi)]
    have hw := Yv.k zc
    have iw := Zv.k zc
    have jw := cw.k zc
    have kw := Xv.k zc
    refine ⟨dw, ew, ?_⟩
    obtain ⟨lw, mw, nw, Ac, ES⟩ := jw.sto fw [(Il pa.2.1.Day), (Il pa.2.1.Count)]
    have pw := hw.k Ac
    have qw := iw.k Ac
    have sw := gw.k Ac
    have tw := kw.k Ac
    refine ⟨lw, mw, ?_⟩
    obtain ⟨uw, vw, ww, Pe, FS⟩ := tw.sto nw [(Il pa.2.2.Day), (Il pa.2.2.Count)]
    have xw := pw.k Pe
    have Qe := qw.k Pe
    have Sh := sw.k Pe
    refine ⟨uw, vw, ?_⟩
    refine ⟨trivial, _, Qe.bk.rc rfl, trivial, _, Sh.bk.rc rfl, ?_⟩
    obtain ⟨yw, hp⟩ := gd_some hp
    refine ⟨yw, trivial, _, Qe.bk.rc rfl, trivial, _, Sh.bk.rc rfl, ?_⟩
    refine gdi hp fun zw hp => ?_
    obtain ⟨Aw, Bw, Cw, Dw, Ew⟩ := Qe.sto ww [(Il (Va + pa.1.Lo)), (Il (Wa + pa.1.Hi))]
    have Fw := xw.k Dw
    refine ⟨Aw, Bw, ?_⟩
    refine gdi hp fun Gw hp => ?_
    exact Jf _ _ _ _ _ Vv Cw Fw Ew hp
  exact hgo _ _ _ _ _ _ Hu Iu oa ib hp
 refine ifnd hp (fun Hw hp => ?_) fun Hw hp => ?_
 ·obtain rfl := Option.some.inj hp
  exact hq _ xa.ext'
 refine ifnd hp (fun Iw hp => ?_) fun Iw hp => ?_
 ·obtain rfl := Option.some.inj hp
  exact hq _ xa.ext'
 refine ifd hp (fun Jw hp => ?_) fun Jw hp => ?_; rotate_left
 ·intro fW Kw
  obtain ⟨Lw, Mw, Nw, jb⟩ := xa.blk Kw u 46
  have qa := Fb.k Nw
  intro rP Pw
  have hgo : ∀ (Bc : Nat) (Re : Int) (Se : Int) (Xa : Int) (Ya : Int) (Mb : M) (B : Nat → Nat), St (Fm.of m) f g Mb → Lb (Fm.of m) g B Mb 1 da.nxt 2 [(Il e.1.Lo), (Il e.1.Hi)] → Lb (Fm.of m) g B Mb 46 Eb.nxt 2 [(Il Xa), (Il Ya)] → pTariffTotals_L11 l claims e Bc Xa Ya Re Se = some rz → rP [.c (Il Re), .c (Il Se)] Mb := by
   intro Bc
   induction Bc with
   | zero => intro Re Se Xa Ya Mb B q qa jb hp; cases hp
   | succ Bc Mf =>
    intro Re Se Xa Ya Mb B q qa jb hp
    refine Pw _ _ _ ?_
    rw [pTariffTotals_L11] at hp
    refine ⟨ha200.isSl, ?_⟩
    try rw [ha200.slLen]
    refine ifd hp (fun Qw hp => ?_) fun Qw hp => ?_; rotate_left
    ·refine ifnd hp (fun Rw hp => ?_) fun Rw hp => ?_
     ·refine ifd hp (fun Sw hp => ?_) fun Sw hp => ?_; rotate_left
      ·obtain rfl := Option.some.inj hp
       exact hq _ q.ext'
      refine ⟨_, _, qa.bk.ra, ?_⟩
      refine gdi hp fun Tw hp => ?_
      refine gdi hp fun Uw hp => ?_
      refine gdi hp fun Vw hp => ?_
      refine gdi hp fun Ww hp => ?_
      refine ifbb hp (fun Xw hp => ?_) fun Xw hp => ?_; rotate_left
      ·obtain rfl := Option.some.inj hp
       exact hq _ q.ext'
      obtain ⟨GS, Yw, hp⟩ := bsome hp
      refine s_awake q.pre  Yw fun gW Zw => ?_
      obtain ⟨ax, HS⟩ := q.call Zw B
      refine ⟨_, rfl, ?_⟩
      obtain rfl := Option.some.inj hp
      exact hq _ ax.ext'
     refine ifd hp (fun bx hp => ?_) fun bx hp => ?_; rotate_left
     ·obtain rfl := Option.some.inj hp
      exact hq _ q.ext'
     refine ⟨_, _, qa.bk.ra, _, _, jb.bk.ra, ?_⟩
     obtain ⟨IS, cx, hp⟩ := bsome hp
     refine s_lTo (r := ({ Lo := Xa, Hi := Ya } : Rg)) q.pre  cx fun hW dx => ?_
     obtain ⟨Te, ex⟩ := q.call dx B
     have fx := qa.k ex
     refine ⟨_, _, rfl, (fx.bk.ra), ?_⟩
     refine gdi hp fun gx hp => ?_
     refine gdi hp fun hx hp => ?_
     refine gdi hp fun jx hp => ?_
     refine gdi hp fun kx hp => ?_
     refine ifbb hp (fun lx hp => ?_) fun lx hp => ?_; rotate_left
     ·obtain rfl := Option.some.inj hp
      exact hq _ Te.ext'
     obtain ⟨JS, mx, hp⟩ := bsome hp
     refine s_awake Te.pre  mx fun iW nx => ?_
     obtain ⟨ox, KS⟩ := Te.call nx B
     refine ⟨_, rfl, ?_⟩
     obtain rfl := Option.some.inj hp
     exact hq _ ox.ext'
    refine ifd hp (fun Th hp => ?_) fun Th hp => ?_; rotate_left
    ·refine ifnkf Th ?_
     refine ifd hp (fun px hp => ?_) fun px hp => ?_; rotate_left
     ·obtain rfl := Option.some.inj hp
      exact hq _ q.ext'
     refine ⟨_, _, qa.bk.ra, ?_⟩
     refine gdi hp fun qx hp => ?_
     refine gdi hp fun rx hp => ?_
     refine gdi hp fun sx hp => ?_
     refine gdi hp fun tx hp => ?_
     refine ifbb hp (fun ux hp => ?_) fun ux hp => ?_; rotate_left
     ·obtain rfl := Option.some.inj hp
      exact hq _ q.ext'
     obtain ⟨LS, vx, hp⟩ := bsome hp
     refine s_awake q.pre  vx fun jW wx => ?_
     obtain ⟨xx, MS⟩ := q.call wx B
     refine ⟨_, rfl, ?_⟩
     obtain rfl := Option.some.inj hp
     exact hq _ xx.ext'
    obtain ⟨yx, Ue, hp⟩ := bsome hp
    obtain ⟨sP, Dj, Nf, Ue⟩ := idx_some Ue
    obtain ⟨_, zx⟩ := rd_Clm ha200 Ue
    refine ⟨sP, Dj, (by first | exact Nf | (rw [ha200.slLen]; exact Nf)), _, _, _, _, _, _, (zx _ (Sub.trans (Sub.trans (Sub.trans a.fs b.fs) d.fs) q.sub)).1, ?_⟩
    obtain ⟨NS, Ax, hp⟩ := bsome hp
    refine s_lClaimed (l := l) (c := yx) q.pre (ha100.sub (Sub.trans (Sub.trans a.fs b.fs) d.fs)) Ax fun kW Bx => ?_
    obtain ⟨Cc, Uh⟩ := q.call Bx B
    have Vh := qa.k Uh
    have Wh := jb.k Uh
    refine ⟨_, rfl, ?_⟩
    refine ifd hp (fun Cx hp => ?_) fun Cx hp => ?_; rotate_left
    ·refine gdi hp fun Dx hp => ?_
     exact Mf _ _ _ _ _ B Cc Vh Wh hp
    obtain ⟨Fx, Ve, hp⟩ := bsome hp
    obtain ⟨tP, Ej, Of, Ve⟩ := idx_some Ve
    obtain ⟨_, Gx⟩ := rd_Clm ha200 Ve
    refine ⟨tP, Ej, (by first | exact Of | (rw [ha200.slLen]; exact Of)), _, _, _, _, _, _, (Gx _ (Sub.trans (Sub.trans (Sub.trans a.fs b.fs) d.fs) Cc.sub)).1, ?_⟩
    obtain ⟨sa, Hx, hp⟩ := bsome hp
    refine s_rBounds (l := l) (c := Fx) Cc.pre (ha100.sub (Sub.trans (Sub.trans a.fs b.fs) d.fs)) Hx fun lW Ix => ?_
    obtain ⟨Jx, Xh⟩ := Cc.call Ix B
    have Kx := Vh.k Xh
    have Lx := Wh.k Xh
    refine ⟨_, _, _, _, _, _, rfl, ?_⟩
    intro mW Mx
    obtain ⟨Nx, Ox, Yh, Px⟩ := Jx.blk Mx B 47
    have Qx := Kx.k Yh
    have Rx := Lx.k Yh
    intro nW Sx
    obtain ⟨Tx, Ux, We, Vx⟩ := Ox.blk Sx Nx 48
    have Wx := Qx.k We
    have Xx := Rx.k We
    have Yx := Px.k We
    intro oW Zx
    obtain ⟨ay, cy, Dc, dy⟩ := Ux.blk Zx Tx 49
    have ey := Wx.k Dc
    have fy := Xx.k Dc
    have gy := Yx.k Dc
    have hy := Vx.k Dc
    obtain ⟨iy, jy, ky, Ec, ly⟩ := gy.sto cy [(Il sa.1.Lo), (Il sa.1.Hi)]
    have my := ey.k Ec
    have ny := fy.k Ec
    have oy := hy.k Ec
    have py := dy.k Ec
    refine ⟨iy, jy, ?_⟩
    obtain ⟨qy, ry, sy, Fc, OS⟩ := oy.sto ky [(Il sa.2.1.Day), (Il sa.2.1.Count)]
    have ty := my.k Fc
    have uy := ny.k Fc
    have vy := ly.k Fc
    have wy := py.k Fc
    refine ⟨qy, ry, ?_⟩
    obtain ⟨xy, yy, zy, Xe, PS⟩ := wy.sto sy [(Il sa.2.2.Day), (Il sa.2.2.Count)]
    have Ay := ty.k Xe
    have Ye := uy.k Xe
    have Zh := vy.k Xe
    refine ⟨xy, yy, ?_⟩
    refine ⟨trivial, _, Ye.bk.rc rfl, trivial, _, Zh.bk.rc rfl, ?_⟩
    obtain ⟨By, hp⟩ := gd_some hp
    refine ⟨By, trivial, _, Ye.bk.rc rfl, trivial, _, Zh.bk.rc rfl, ?_⟩
    refine gdi hp fun Cy hp => ?_
    obtain ⟨Dy, Ey, Fy, Gy, Hy⟩ := Ye.sto zy [(Il (Xa + sa.1.Lo)), (Il (Ya + sa.1.Hi))]
    have Iy := Ay.k Gy
    refine ⟨Dy, Ey, ?_⟩
    refine gdi hp fun Jy hp => ?_
    exact Mf _ _ _ _ _ ay Fy Iy Hy hp
  exact hgo _ _ _ _ _ _ Lw Mw qa jb hp
 refine ⟨ha200.isSl, ?_⟩
 try rw [ha200.slLen]
 refine ifd hp (fun Ky hp => ?_) fun Ky hp => ?_
 ·intro pW Ly
  obtain ⟨My, Ny, Oy, kb⟩ := xa.blk Ly u 38
  have ta := Fb.k Oy
  intro uP Py
  have hgo : ∀ (Gc : Nat) (Ze : Int) (af : Int) (Za : Int) (ab : Int) (Nb : M) (D : Nat → Nat), St (Fm.of m) f g Nb → Lb (Fm.of m) g D Nb 1 da.nxt 2 [(Il e.1.Lo), (Il e.1.Hi)] → Lb (Fm.of m) g D Nb 38 Eb.nxt 2 [(Il Za), (Il ab)] → pTariffTotals_L9 l claims e Gc Za ab Ze af = some rz → uP [.c (Il Ze), .c (Il af)] Nb := by
   intro Gc
   induction Gc with
   | zero => intro Ze af Za ab Nb D s ta kb hp; cases hp
   | succ Gc Pf =>
    intro Ze af Za ab Nb D s ta kb hp
    refine Py _ _ _ ?_
    rw [pTariffTotals_L9] at hp
    refine ⟨ha200.isSl, ?_⟩
    try rw [ha200.slLen]
    refine ifd hp (fun Qy hp => ?_) fun Qy hp => ?_; rotate_left
    ·refine ifnd hp (fun Ry hp => ?_) fun Ry hp => ?_
     ·refine ifd hp (fun Sy hp => ?_) fun Sy hp => ?_; rotate_left
      ·obtain rfl := Option.some.inj hp
       exact hq _ s.ext'
      refine ⟨_, _, ta.bk.ra, ?_⟩
      refine gdi hp fun Ty hp => ?_
      refine gdi hp fun Uy hp => ?_
      refine gdi hp fun Vy hp => ?_
      refine gdi hp fun Xy hp => ?_
      refine ifbb hp (fun Yy hp => ?_) fun Yy hp => ?_; rotate_left
      ·obtain rfl := Option.some.inj hp
       exact hq _ s.ext'
      obtain ⟨QS, Zy, hp⟩ := bsome hp
      refine s_awake s.pre  Zy fun qW az => ?_
      obtain ⟨bz, RS⟩ := s.call az D
      refine ⟨_, rfl, ?_⟩
      obtain rfl := Option.some.inj hp
      exact hq _ bz.ext'
     refine ifd hp (fun cz hp => ?_) fun cz hp => ?_; rotate_left
     ·obtain rfl := Option.some.inj hp
      exact hq _ s.ext'
     refine ⟨_, _, ta.bk.ra, _, _, kb.bk.ra, ?_⟩
     obtain ⟨SS, dz, hp⟩ := bsome hp
     refine s_lTo (r := ({ Lo := Za, Hi := ab } : Rg)) s.pre  dz fun rW ez => ?_
     obtain ⟨bf, fz⟩ := s.call ez D
     have gz := ta.k fz
     refine ⟨_, _, rfl, (gz.bk.ra), ?_⟩
     refine gdi hp fun hz hp => ?_
     refine gdi hp fun iz hp => ?_
     refine gdi hp fun jz hp => ?_
     refine gdi hp fun kz hp => ?_
     refine ifbb hp (fun lz hp => ?_) fun lz hp => ?_; rotate_left
     ·obtain rfl := Option.some.inj hp
      exact hq _ bf.ext'
     obtain ⟨TS, mz, hp⟩ := bsome hp
     refine s_awake bf.pre  mz fun sW nz => ?_
     obtain ⟨oz, US⟩ := bf.call nz D
     refine ⟨_, rfl, ?_⟩
     obtain rfl := Option.some.inj hp
     exact hq _ oz.ext'
    refine ifd hp (fun ai hp => ?_) fun ai hp => ?_; rotate_left
    ·refine ifnkf ai ?_
     refine ifd hp (fun pz hp => ?_) fun pz hp => ?_; rotate_left
     ·obtain rfl := Option.some.inj hp
      exact hq _ s.ext'
     refine ⟨_, _, ta.bk.ra, ?_⟩
     refine gdi hp fun qz hp => ?_
     refine gdi hp fun sz hp => ?_
     refine gdi hp fun tz hp => ?_
     refine gdi hp fun uz hp => ?_
     refine ifbb hp (fun vz hp => ?_) fun vz hp => ?_; rotate_left
     ·obtain rfl := Option.some.inj hp
      exact hq _ s.ext'
     obtain ⟨VS, xz, hp⟩ := bsome hp
     refine s_awake s.pre  xz fun tW yz => ?_
     obtain ⟨zz, WS⟩ := s.call yz D
     refine ⟨_, rfl, ?_⟩
     obtain rfl := Option.some.inj hp
     exact hq _ zz.ext'
    obtain ⟨Az, cf, hp⟩ := bsome hp
    obtain ⟨vP, Fj, Qf, cf⟩ := idx_some cf
    obtain ⟨_, Bz⟩ := rd_Clm ha200 cf
    refine ⟨vP, Fj, (by first | exact Qf | (rw [ha200.slLen]; exact Qf)), _, _, _, _, _, _, (Bz _ (Sub.trans (Sub.trans (Sub.trans a.fs b.fs) d.fs) s.sub)).1, ?_⟩
    obtain ⟨XS, Cz, hp⟩ := bsome hp
    refine s_lClaimed (l := l) (c := Az) s.pre (ha100.sub (Sub.trans (Sub.trans a.fs b.fs) d.fs)) Cz fun uW Dz => ?_
    obtain ⟨Hc, bi⟩ := s.call Dz D
    have ci := ta.k bi
    have di := kb.k bi
    refine ⟨_, rfl, ?_⟩
    refine ifd hp (fun Ez hp => ?_) fun Ez hp => ?_; rotate_left
    ·refine gdi hp fun Fz hp => ?_
     exact Pf _ _ _ _ _ D Hc ci di hp
    obtain ⟨Gz, df, hp⟩ := bsome hp
    obtain ⟨wP, Gj, Rf, df⟩ := idx_some df
    obtain ⟨_, Hz⟩ := rd_Clm ha200 df
    refine ⟨wP, Gj, (by first | exact Rf | (rw [ha200.slLen]; exact Rf)), _, _, _, _, _, _, (Hz _ (Sub.trans (Sub.trans (Sub.trans a.fs b.fs) d.fs) Hc.sub)).1, ?_⟩
    obtain ⟨ua, Iz, hp⟩ := bsome hp
    refine s_rBounds (l := l) (c := Gz) Hc.pre (ha100.sub (Sub.trans (Sub.trans a.fs b.fs) d.fs)) Iz fun wW Jz => ?_
    obtain ⟨Kz, ei⟩ := Hc.call Jz D
    have Lz := ci.k ei
    have Mz := di.k ei
    refine ⟨_, _, _, _, _, _, rfl, ?_⟩
    intro xW Nz
    obtain ⟨Oz, Pz, fi, Qz⟩ := Kz.blk Nz D 39
    have Rz := Lz.k fi
    have Sz := Mz.k fi
    intro yW Tz
    obtain ⟨Uz, Vz, ef, Wz⟩ := Pz.blk Tz Oz 40
    have Xz := Rz.k ef
    have Yz := Sz.k ef
    have Zz := Qz.k ef
    intro zW aA
    obtain ⟨bA, cA, Ic, dA⟩ := Vz.blk aA Uz 41
    have eA := Xz.k Ic
    have fA := Yz.k Ic
    have gA := Zz.k Ic
    have hA := Wz.k Ic
    obtain ⟨iA, jA, kA, Jc, lA⟩ := gA.sto cA [(Il ua.1.Lo), (Il ua.1.Hi)]
    have mA := eA.k Jc
    have nA := fA.k Jc
    have oA := hA.k Jc
    have pA := dA.k Jc
    refine ⟨iA, jA, ?_⟩
    obtain ⟨qA, rA, sA, Kc, YS⟩ := oA.sto kA [(Il ua.2.1.Day), (Il ua.2.1.Count)]
    have tA := mA.k Kc
    have uA := nA.k Kc
    have vA := lA.k Kc
    have wA := pA.k Kc
    refine ⟨qA, rA, ?_⟩
    obtain ⟨xA, yA, zA, gf, ZS⟩ := wA.sto sA [(Il ua.2.2.Day), (Il ua.2.2.Count)]
    have AA := tA.k gf
    have hf := uA.k gf
    have gi := vA.k gf
    refine ⟨xA, yA, ?_⟩
    refine ⟨trivial, _, hf.bk.rc rfl, trivial, _, gi.bk.rc rfl, ?_⟩
    obtain ⟨BA, hp⟩ := gd_some hp
    refine ⟨BA, trivial, _, hf.bk.rc rfl, trivial, _, gi.bk.rc rfl, ?_⟩
    refine gdi hp fun CA hp => ?_
    obtain ⟨DA, EA, FA, GA, HA⟩ := hf.sto zA [(Il (Za + ua.1.Lo)), (Il (ab + ua.1.Hi))]
    have IA := AA.k GA
    refine ⟨DA, EA, ?_⟩
    refine gdi hp fun JA hp => ?_
    exact Pf _ _ _ _ _ bA FA IA HA hp
  exact hgo _ _ _ _ _ _ My Ny ta kb hp
 intro AW KA
 obtain ⟨LA, MA, NA, mb⟩ := xa.blk KA u 42
 have va := Fb.k NA
 intro xP OA
 have hgo : ∀ (Lc : Nat) (jf : Int) (kf : Int) (bb : Int) (cb : Int) (Ob : M) (F : Nat → Nat), St (Fm.of m) f g Ob → Lb (Fm.of m) g F Ob 1 da.nxt 2 [(Il e.1.Lo), (Il e.1.Hi)] → Lb (Fm.of m) g F Ob 42 Eb.nxt 2 [(Il bb), (Il cb)] → pTariffTotals_L10 l claims e Lc bb cb jf kf = some rz → xP [.c (Il jf), .c (Il kf)] Ob := by
  intro Lc
  induction Lc with
  | zero => intro jf kf bb cb Ob F t va mb hp; cases hp
  | succ Lc Sf =>
   intro jf kf bb cb Ob F t va mb hp
   refine OA _ _ _ ?_
   rw [pTariffTotals_L10] at hp
   refine ⟨ha200.isSl, ?_⟩
   try rw [ha200.slLen]
   refine ifd hp (fun PA hp => ?_) fun PA hp => ?_; rotate_left
   ·refine ifnd hp (fun QA hp => ?_) fun QA hp => ?_
    ·refine ifd hp (fun RA hp => ?_) fun RA hp => ?_; rotate_left
     ·obtain rfl := Option.some.inj hp
      exact hq _ t.ext'
     refine ⟨_, _, va.bk.ra, ?_⟩
     refine gdi hp fun SA hp => ?_
     refine gdi hp fun UA hp => ?_
     refine gdi hp fun VA hp => ?_
     refine gdi hp fun WA hp => ?_
     refine ifbb hp (fun XA hp => ?_) fun XA hp => ?_; rotate_left
     ·obtain rfl := Option.some.inj hp
      exact hq _ t.ext'
     obtain ⟨aT, YA, hp⟩ := bsome hp
     refine s_awake t.pre  YA fun BW ZA => ?_
     obtain ⟨aB, bT⟩ := t.call ZA F
     refine ⟨_, rfl, ?_⟩
     obtain rfl := Option.some.inj hp
     exact hq _ aB.ext'
    refine ifd hp (fun bB hp => ?_) fun bB hp => ?_; rotate_left
    ·obtain rfl := Option.some.inj hp
     exact hq _ t.ext'
    refine ⟨_, _, va.bk.ra, _, _, mb.bk.ra, ?_⟩
    obtain ⟨cT, cB, hp⟩ := bsome hp
    refine s_lTo (r := ({ Lo := bb, Hi := cb } : Rg)) t.pre  cB fun CW dB => ?_
    obtain ⟨lf, eB⟩ := t.call dB F
    have fB := va.k eB
    refine ⟨_, _, rfl, (fB.bk.ra), ?_⟩
    refine gdi hp fun gB hp => ?_
    refine gdi hp fun hB hp => ?_
    refine gdi hp fun iB hp => ?_
    refine gdi hp fun jB hp => ?_
    refine ifbb hp (fun kB hp => ?_) fun kB hp => ?_; rotate_left
    ·obtain rfl := Option.some.inj hp
     exact hq _ lf.ext'
    obtain ⟨dT, lB, hp⟩ := bsome hp
    refine s_awake lf.pre  lB fun DW mB => ?_
    obtain ⟨nB, eT⟩ := lf.call mB F
    refine ⟨_, rfl, ?_⟩
    obtain rfl := Option.some.inj hp
    exact hq _ nB.ext'
   refine ifd hp (fun hi hp => ?_) fun hi hp => ?_; rotate_left
   ·refine ifnkf hi ?_
    refine ifd hp (fun oB hp => ?_) fun oB hp => ?_; rotate_left
    ·obtain rfl := Option.some.inj hp
     exact hq _ t.ext'
    refine ⟨_, _, va.bk.ra, ?_⟩
    refine gdi hp fun pB hp => ?_
    refine gdi hp fun qB hp => ?_
    refine gdi hp fun rB hp => ?_
    refine gdi hp fun sB hp => ?_
    refine ifbb hp (fun tB hp => ?_) fun tB hp => ?_; rotate_left
    ·obtain rfl := Option.some.inj hp
     exact hq _ t.ext'
    obtain ⟨fT, uB, hp⟩ := bsome hp
    refine s_awake t.pre  uB fun EW wB => ?_
    obtain ⟨xB, gT⟩ := t.call wB F
    refine ⟨_, rfl, ?_⟩
    obtain rfl := Option.some.inj hp
    exact hq _ xB.ext'
   obtain ⟨yB, mf, hp⟩ := bsome hp
   obtain ⟨yP, Hj, Uf, mf⟩ := idx_some mf
   obtain ⟨_, zB⟩ := rd_Clm ha200 mf
   refine ⟨yP, Hj, (by first | exact Uf | (rw [ha200.slLen]; exact Uf)), _, _, _, _, _, _, (zB _ (Sub.trans (Sub.trans (Sub.trans a.fs b.fs) d.fs) t.sub)).1, ?_⟩
   obtain ⟨hT, AB, hp⟩ := bsome hp
   refine s_lClaimed (l := l) (c := yB) t.pre (ha100.sub (Sub.trans (Sub.trans a.fs b.fs) d.fs)) AB fun FW BB => ?_
   obtain ⟨Nc, ii⟩ := t.call BB F
   have ji := va.k ii
   have ki := mb.k ii
   refine ⟨_, rfl, ?_⟩
   refine ifd hp (fun CB hp => ?_) fun CB hp => ?_; rotate_left
   ·refine gdi hp fun DB hp => ?_
    exact Sf _ _ _ _ _ F Nc ji ki hp
   obtain ⟨EB, nf, hp⟩ := bsome hp
   obtain ⟨zP, Ij, Vf, nf⟩ := idx_some nf
   obtain ⟨_, FB⟩ := rd_Clm ha200 nf
   refine ⟨zP, Ij, (by first | exact Vf | (rw [ha200.slLen]; exact Vf)), _, _, _, _, _, _, (FB _ (Sub.trans (Sub.trans (Sub.trans a.fs b.fs) d.fs) Nc.sub)).1, ?_⟩
   obtain ⟨wa, GB, hp⟩ := bsome hp
   refine s_rBounds (l := l) (c := EB) Nc.pre (ha100.sub (Sub.trans (Sub.trans a.fs b.fs) d.fs)) GB fun GW HB => ?_
   obtain ⟨IB, li⟩ := Nc.call HB F
   have JB := ji.k li
   have KB := ki.k li
   refine ⟨_, _, _, _, _, _, rfl, ?_⟩
   intro HW LB
   obtain ⟨MB, NB, ni, OB⟩ := IB.blk LB F 43
   have PB := JB.k ni
   have QB := KB.k ni
   intro IW RB
   obtain ⟨SB, TB, pf, UB⟩ := NB.blk RB MB 44
   have VB := PB.k pf
   have WB := QB.k pf
   have XB := OB.k pf
   intro JW YB
   obtain ⟨ZB, aC, Oc, bC⟩ := TB.blk YB SB 45
   have cC := VB.k Oc
   have dC := WB.k Oc
   have eC := XB.k Oc
   have fC := UB.k Oc
   obtain ⟨gC, hC, iC, Pc, jC⟩ := eC.sto aC [(Il wa.1.Lo), (Il wa.1.Hi)]
   have kC := cC.k Pc
   have lC := dC.k Pc
   have mC := fC.k Pc
   have nC := bC.k Pc
   refine ⟨gC, hC, ?_⟩
   obtain ⟨oC, pC, qC, Qc, iT⟩ := mC.sto iC [(Il wa.2.1.Day), (Il wa.2.1.Count)]
   have rC := kC.k Qc
   have sC := lC.k Qc
   have tC := jC.k Qc
   have uC := nC.k Qc
   refine ⟨oC, pC, ?_⟩
   obtain ⟨vC, wC, xC, qf, jT⟩ := uC.sto qC [(Il wa.2.2.Day), (Il wa.2.2.Count)]
   have yC := rC.k qf
   have rf := sC.k qf
   have oi := tC.k qf
   refine ⟨vC, wC, ?_⟩
   refine ⟨trivial, _, rf.bk.rc rfl, trivial, _, oi.bk.rc rfl, ?_⟩
   obtain ⟨zC, hp⟩ := gd_some hp
   refine ⟨zC, trivial, _, rf.bk.rc rfl, trivial, _, oi.bk.rc rfl, ?_⟩
   refine gdi hp fun AC hp => ?_
   obtain ⟨BC, CC, DC, EC, FC⟩ := rf.sto xC [(Il (bb + wa.1.Lo)), (Il (cb + wa.1.Hi))]
   have GC := yC.k EC
   refine ⟨BC, CC, ?_⟩
   refine gdi hp fun HC hp => ?_
   exact Sf _ _ _ _ _ ZB DC GC FC hp
 exact hgo _ _ _ _ _ _ LA MA va mb hp
end
end Go.Proofs.Ytbhdgedghfibcaa

namespace Go.Proofs.Ytbhdgedghfibcaa
open _root_.Go.Proofs.Try
open Go.Abs
set_option maxRecDepth 100000
noncomputable section
def lastN : List Int → Int → Nat
 | x :: y :: l, n => if y ≤ n then lastN (y :: l) n + 1 else 0
 | _, _ => 0
theorem lastN_lt : ∀ (l : List Int) (n : Int), l ≠ [] → lastN l n < l.length
 | [], _, h => absurd rfl h
 | [_], _, _ => by simp [lastN]
 | x :: y :: l, n, _ => by
  unfold lastN
  split
  ·have := lastN_lt (y :: l) n (by simp)
   simp only [List.length_cons] at this ⊢; omega
  ·simp
theorem lastN_le : ∀ (l : List Int) (n : Int), (∀ x, l.head? = some x → x ≤ n) → ∀ x, l[lastN l n]? = some x → x ≤ n
 | [], _, _, x, h => by simp at h
 | [a], n, h0, x, h => by
  simp [lastN] at h; subst h; exact h0 a rfl
 | a :: y :: l, n, h0, x, h => by
  unfold lastN at h
  split at h
  ·rename_i hy
   rw [List.getElem?_cons_succ] at h
   exact lastN_le (y :: l) n (fun z hz => by simp at hz; omega) x h
  ·simp at h; subst h; exact h0 _ rfl
theorem lastN_gt : ∀ (l : List Int) (n : Int), l.Pairwise (· < ·) → ∀ j, lastN l n < j → ∀ x, l[j]? = some x → n < x
 | [], _, _, j, _, x, h => by simp at h
 | [a], n, _, j, hj, x, h => by
  have : j < [a].length := (List.getElem?_eq_some_iff.1 h).1
  simp at this; omega
 | a :: y :: l, n, hp, j, hj, x, h => by
  have hp' := (List.pairwise_cons.1 hp).2
  unfold lastN at hj
  cases j with
  | zero => omega
  | succ j =>
   rw [List.getElem?_cons_succ] at h
   split at hj
   ·exact lastN_gt (y :: l) n hp' j (by omega) x h
   ·rename_i hy
    have hx : x ∈ y :: l := List.mem_of_getElem? h
    rcases List.mem_cons.1 hx with hx | hx
    ·omega
    ·have := (List.pairwise_cons.1 hp').1 x hx; omega
theorem pw_lt {l : List Int} (hp : l.Pairwise (· < ·)) {i j : Nat} {x y : Int} (hx : l[i]? = some x) (hy : l[j]? = some y) (hij : i < j) : x < y := by
 obtain ⟨h1, h2⟩ := List.getElem?_eq_some_iff.1 hx
 obtain ⟨h3, h4⟩ := List.getElem?_eq_some_iff.1 hy
 rw [← h2, ← h4]
 exact List.pairwise_iff_getElem.1 hp i j h1 h3 hij
theorem lastN_uniq {l : List Int} {n : Int} (hp : l.Pairwise (· < ·)) {k : Nat} (hk : k < l.length) (h1 : ∀ x, l[k]? = some x → x ≤ n) (h2 : ∀ x, l[k + 1]? = some x → n < x) (h0 : ∀ x, l.head? = some x → x ≤ n) : lastN l n = k := by
 have hne : l ≠ [] := fun h => by subst h; simp at hk
 have hl := lastN_lt l n hne
 obtain ⟨a, ha⟩ : ∃ a, l[lastN l n]? = some a := ⟨_, List.getElem?_eq_getElem hl⟩
 obtain ⟨b, hb⟩ : ∃ b, l[k]? = some b := ⟨_, List.getElem?_eq_getElem hk⟩
 have h3 := lastN_le l n h0 a ha
 have h4 := h1 b hb
 rcases Nat.lt_trichotomy (lastN l n) k with h | h | h
 ·have := lastN_gt l n hp k h b hb; omega
 ·exact h
 ·have hk1 : k + 1 < l.length := by omega
  have h5 := h2 _ (List.getElem?_eq_getElem hk1)
  rcases Nat.lt_or_ge (k + 1) (lastN l n) with h6 | h6
  ·have := pw_lt hp (List.getElem?_eq_getElem hk1) ha h6; omega
  ·have h7 : lastN l n = k + 1 := by omega
   rw [h7, List.getElem?_eq_getElem hk1] at ha
   cases ha; omega
end
end Go.Proofs.Ytbhdgedghfibcaa

namespace Go.Proofs.Ytbhdgedghfibcaa
open _root_.Go.Proofs.Try
open Go.Abs
set_option maxRecDepth 100000
noncomputable section
def nth (l : List Int) (i : Nat) : Int := l.getD i 0
theorem nth_of {l : List Int} {i : Nat} {x : Int} (h : l[i]? = some x) : nth l i = x := by
 unfold nth; rw [List.getD_eq_getElem?_getD, h]; rfl
theorem nth_some {l : List Int} {i : Nat} (h : i < l.length) : l[i]? = some (nth l i) := by
 rw [List.getElem?_eq_getElem h, nth_of (List.getElem?_eq_getElem h)]
def lineN (a b x y n : Int) : Int := (x * (b - n) + y * (n - a)) / (b - a)
def lossN (counts rates : List Int) (n : Int) : Int :=
 let i := lastN counts n
 if nth counts i = n then nth rates i else lineN (nth counts i) (nth counts (i + 1)) (nth rates i) (nth rates (i + 1)) n
theorem line_le {a b x y n z : Int} (h1 : a ≤ n) (h2 : n ≤ b) (hab : a < b) (hx : 0 ≤ x) (hy : 0 ≤ y) (hxz : x ≤ z) (hyz : y ≤ z) : lineN a b x y n ≤ z := by
  unfold lineN
  have e1 : x * (b - n) ≤ z * (b - n) := Int.mul_le_mul_of_nonneg_right hxz (by omega)
  have e2 : y * (n - a) ≤ z * (n - a) := Int.mul_le_mul_of_nonneg_right hyz (by omega)
  have e3 : z * (b - n) + z * (n - a) = z * (b - a) := by rw [← Int.mul_add]; congr 1; omega
  have : x * (b - n) + y * (n - a) ≤ z * (b - a) := by omega
  calc (x * (b - n) + y * (n - a)) / (b - a) ≤ (z * (b - a)) / (b - a) := Int.ediv_le_ediv (by omega) this
    _ = z := Int.mul_ediv_cancel _ (by omega)
theorem line_ge {a b x y n z : Int} (h1 : a ≤ n) (h2 : n ≤ b) (hab : a < b) (hz : 0 ≤ z) (hxz : z ≤ x) (hyz : z ≤ y) : z ≤ lineN a b x y n := by
  unfold lineN
  have e1 : z * (b - n) ≤ x * (b - n) := Int.mul_le_mul_of_nonneg_right hxz (by omega)
  have e2 : z * (n - a) ≤ y * (n - a) := Int.mul_le_mul_of_nonneg_right hyz (by omega)
  have e3 : z * (b - n) + z * (n - a) = z * (b - a) := by rw [← Int.mul_add]; congr 1; omega
  have : z * (b - a) ≤ x * (b - n) + y * (n - a) := by omega
  calc z = (z * (b - a)) / (b - a) := (Int.mul_ediv_cancel _ (by omega)).symm
    _ ≤ _ := Int.ediv_le_ediv (by omega) this
structure Cnt (counts : List Int) : Prop where
 pw : counts.Pairwise (· < ·)
 hd : counts.head? = some 0
 lst : counts.getLast? = some 100
structure Rts (counts rates : List Int) : Prop extends Cnt counts where
 len : rates.length = counts.length
 rng : ∀ r ∈ rates, 0 ≤ r ∧ r ≤ 100
variable {cs rs : List Int}
theorem Cnt.ne (h : Cnt cs) : cs ≠ [] := fun e => by have := h.hd; rw [e] at this; cases this
theorem Cnt.h0 (h : Cnt cs) {n : Int} (hn : 0 ≤ n) : ∀ x, cs.head? = some x → x ≤ n := fun x hx => by
 have := h.hd; rw [this] at hx; cases hx; exact hn
theorem Cnt.lt (h : Cnt cs) (n : Int) : lastN cs n < cs.length := lastN_lt cs n h.ne
theorem Cnt.btw (h : Cnt cs) {n : Int} (hn : 0 ≤ n) (h100 : n ≤ 100) : nth cs (lastN cs n) ≤ n ∧ (nth cs (lastN cs n) ≠ n → lastN cs n + 1 < cs.length ∧ n < nth cs (lastN cs n + 1)) := by
 have hl := h.lt n
 have h1 := lastN_le cs n (h.h0 hn) _ (nth_some hl)
 refine ⟨h1, fun hne => ?_⟩
 have hlast : cs[cs.length - 1]? = some 100 := by rw [← h.lst, List.getLast?_eq_getElem?]
 have hlt : lastN cs n + 1 < cs.length := by
  rcases Nat.lt_or_ge (lastN cs n + 1) cs.length with hh | hh
  ·exact hh
  ·have : lastN cs n = cs.length - 1 := by omega
   rw [this] at hne h1
   have := nth_of hlast
   omega
 exact ⟨hlt, lastN_gt cs n h.pw _ (Nat.lt_succ_self _) _ (nth_some hlt)⟩
theorem Rts.at (h : Rts cs rs) {i : Nat} (hi : i < cs.length) : 0 ≤ nth rs i ∧ nth rs i ≤ 100 := by
 have : i < rs.length := by rw [h.len]; exact hi
 exact h.rng _ (List.mem_of_getElem? (nth_some this))
theorem Rts.loss_rng (h : Rts cs rs) {n : Int} (hn : 0 ≤ n) (h100 : n ≤ 100) : 0 ≤ lossN cs rs n ∧ lossN cs rs n ≤ 100 := by
 obtain ⟨h1, h2⟩ := h.btw hn h100
 have hi := h.at (h.lt n)
 unfold lossN; dsimp only
 split
 ·exact hi
 ·rename_i hne
  obtain ⟨h3, h4⟩ := h2 hne
  have hi2 := h.at h3
  exact ⟨line_ge h1 (by omega) (by omega) (Int.le_refl _) hi.1 hi2.1, line_le h1 (by omega) (by omega) hi.1 hi2.1 hi.2 hi2.2⟩
theorem Cnt.last_at (h : Cnt cs) {i : Nat} (hi : i < cs.length) : lastN cs (nth cs i) = i := by
 refine lastN_uniq h.pw hi (fun x hx => ?_) (fun x hx => ?_) fun x hx => ?_
 ·rw [nth_of hx]; exact Int.le_refl _
 ·exact pw_lt h.pw (nth_some hi) hx (Nat.lt_succ_self _)
 ·have h0 : cs[0]? = some x := by rw [← hx]; cases cs <;> rfl
  rcases Nat.eq_zero_or_pos i with h5 | h5
  ·subst h5; rw [nth_of h0]; exact Int.le_refl _
  ·exact Int.le_of_lt (pw_lt h.pw h0 (nth_some hi) h5)
end
end Go.Proofs.Ytbhdgedghfibcaa

namespace Go.Proofs.Ytbhdgedghfibcaa
open _root_.Go.Proofs.Try
open Go.Abs
set_option maxRecDepth 100000
noncomputable section
structure VT (t : Tf) : Prop where
 frm : 0 ≤ t.From ∧ t.From ≤ 120
 lst : 0 ≤ t.Least ∧ t.Least ≤ 100
 wks : t.Weeks.Pairwise (· < ·) ∧ t.Weeks.head? = some 0 ∧ ∀ x ∈ t.Weeks, 0 ≤ x ∧ x ≤ 120
 cts : t.Counts.Pairwise (· < ·) ∧ t.Counts.head? = some 0 ∧ ∀ x ∈ t.Counts, 0 ≤ x ∧ x ≤ 100
 c100 : t.Counts.getLast? = some 100
 rne : t.Rates ≠ []
 rts : ∀ c ∈ t.Rates, c.length = t.Weeks.length ∧ ∀ w ∈ c, w.length = t.Counts.length ∧ ∀ r ∈ w, 0 ≤ r ∧ r ≤ 100
def cropsN (l : List Tf) : Nat := match l with | [] => 0 | t :: _ => t.Rates.length
structure VL (l : List Tf) : Prop where
 ne : l ≠ []
 vt : ∀ t ∈ l, VT t
 pw : (l.map (·.From)).Pairwise (· < ·)
 hd : (l.map (·.From)).head? = some 0
 crp : ∀ t ∈ l, t.Rates.length = cropsN l
def tooManyN (t : Tf) : Prop := 4 < t.Weeks.length ∨ 5 < t.Counts.length ∨ 3 < t.Rates.length
def ManyN (l : List Tf) : Prop := 3 < l.length ∨ ∃ t ∈ l, tooManyN t
open Classical in
def faultN (l : List Tf) : Int := if ManyN l then 3 else if VL l then 0 else 1
theorem faultN_zero {l : List Tf} : faultN l = 0 ↔ ¬ ManyN l ∧ VL l := by
 unfold faultN
 split
 ·rename_i h; exact ⟨fun h => by omega, fun h' => absurd h h'.1⟩
 ·rename_i h
  split
  ·rename_i h2; exact ⟨fun _ => ⟨h, h2⟩, fun _ => rfl⟩
  ·rename_i h2; exact ⟨fun h => by omega, fun h' => absurd h'.2 h2⟩
def ratesN (t : Tf) (crop day : Int) : List Int := (t.Rates.getD crop.toNat []).getD (lastN t.Weeks day) []
def payTN (t : Tf) (loss : Int) : Int := if loss < t.Least then 0 else if t.Whole = true then loss else loss - t.Least
def partT (t : Tf) (crop day count : Int) : Int := payTN t (lossN t.Counts (ratesN t crop day) count)
instance : Inhabited Tf := ⟨⟨0, false, 0, [], [], []⟩⟩
def ofN (l : List Tf) (day : Int) : Tf := l.getD (lastN (l.map (·.From)) day) default
def partN (l : List Tf) (crop day count : Int) : Int := partT (ofN l day) crop day count
theorem VT.wlt {t : Tf} (h : VT t) (d : Int) : lastN t.Weeks d < t.Weeks.length := lastN_lt _ _ fun e => by have := h.wks.2.1; rw [e] at this; cases this
theorem VT.cnt {t : Tf} (h : VT t) : Cnt t.Counts := ⟨h.cts.1, h.cts.2.1, h.c100⟩
theorem VT.rates {t : Tf} (h : VT t) {crop : Int} (h0 : 0 ≤ crop) (h1 : crop < t.Rates.length) (day : Int) :
  ∃ wks, t.Rates[crop.toNat]? = some wks ∧ wks[lastN t.Weeks day]? = some (ratesN t crop day) ∧ Rts t.Counts (ratesN t crop day) := by
 have hc : crop.toNat < t.Rates.length := by omega
 have e1 := List.getElem?_eq_getElem hc
 obtain ⟨q1, q2⟩ := h.rts _ (List.getElem_mem hc)
 have hw : lastN t.Weeks day < t.Rates[crop.toNat].length := by rw [q1]; exact h.wlt day
 have e2 := List.getElem?_eq_getElem hw
 have e3 : ratesN t crop day = t.Rates[crop.toNat][lastN t.Weeks day] := by
  have e4 : t.Rates.getD crop.toNat [] = t.Rates[crop.toNat] := by rw [List.getD_eq_getElem?_getD, e1]; rfl
  unfold ratesN
  rw [e4, List.getD_eq_getElem?_getD, e2, Option.getD_some]
 obtain ⟨q3, q4⟩ := q2 _ (List.getElem_mem hw)
 refine ⟨_, e1, by rw [e2, e3], ⟨h.cnt, by rw [e3]; exact q3, by rw [e3]; exact q4⟩⟩
theorem VL.of {l : List Tf} (h : VL l) (day : Int) : l[lastN (l.map (·.From)) day]? = some (ofN l day) ∧ ofN l day ∈ l := by
 have hl := lastN_lt (l.map (·.From)) day fun e => h.ne (List.map_eq_nil_iff.1 e)
 rw [List.length_map] at hl
 have e : l[lastN (l.map (·.From)) day]? = some (ofN l day) := by
  unfold ofN
  rw [List.getD_eq_getElem?_getD, List.getElem?_eq_getElem hl, Option.getD_some]
 exact ⟨e, List.mem_of_getElem? e⟩
theorem payT_rng {t : Tf} (h : VT t) {x : Int} (h0 : 0 ≤ x) (h1 : x ≤ 100) : 0 ≤ payTN t x ∧ payTN t x ≤ 100 := by
 have := h.lst
 unfold payTN
 split
 ·omega
 ·split <;> omega
theorem VL.vof {l : List Tf} (h : VL l) (day : Int) : VT (ofN l day) := h.vt _ (h.of day).2
theorem VL.cof {l : List Tf} (h : VL l) (day : Int) : (ofN l day).Rates.length = cropsN l := h.crp _ (h.of day).2
theorem VL.rts {l : List Tf} (h : VL l) {crop : Int} (h0 : 0 ≤ crop) (h1 : crop < cropsN l) (day : Int) : Rts (ofN l day).Counts (ratesN (ofN l day) crop day) := by
 obtain ⟨_, _, _, q⟩ := (h.vof day).rates h0 (by rw [h.cof]; exact h1) day
 exact q
theorem VL.part_rng {l : List Tf} (h : VL l) {crop n : Int} (h0 : 0 ≤ crop) (h1 : crop < cropsN l) (hn : 0 ≤ n) (hn1 : n ≤ 100) (day : Int) : 0 ≤ partN l crop day n ∧ partN l crop day n ≤ 100 := by
 obtain ⟨q1, q2⟩ := (h.rts h0 h1 day).loss_rng hn hn1
 exact payT_rng (h.vof day) q1 q2
end
end Go.Proofs.Ytbhdgedghfibcaa

namespace Go.Proofs.Ytbhdgedghfibcaa
open _root_.Go.Proofs.Try
open Go.Abs
set_option maxRecDepth 100000
noncomputable section
theorem In_ev {n lo hi : Int} : Ev (prIn n lo hi) (lo ≤ n ∧ n ≤ hi) := Ev.ite fun _ => Ev.dec Iff.rfl
theorem has_ev {r : Rg} {n : Int} : Ev (phas r n) (r.Lo ≤ n ∧ n ≤ r.Hi) := Ev.ite fun _ => Ev.dec Iff.rfl
theorem isDay_ev {n : Int} : Ev (pisDay n) (0 ≤ n ∧ n ≤ 120) := has_ev.ret
theorem isCount_ev {n : Int} : Ev (pisCount n) (0 ≤ n ∧ n ≤ 100) := has_ev.ret
theorem isHundredths_ev {n : Int} : Ev (pisHundredths n) (0 ≤ n ∧ n ≤ 100) := has_ev.ret
theorem isIndex_ev {n s : Int} (hs : 0 ≤ s ∧ s ≤ 4611686018427387904) : Ev (pisIndex n s) (0 ≤ n ∧ n < s) := Ev.gd (fI (by omega)) (has_ev.ret.imp (by show 0 ≤ n ∧ n ≤ s - 1 ↔ _; omega))
def shrt {α : Type} (l : List α) : Prop := l.length ≤ 1048576
theorem shrt.lt {α : Type} {l : List α} (h : shrt l) : l.length < 4611686018427387904 := by unfold shrt at h; omega
theorem nth_at {l : List Int} {k : Nat} (h : k < l.length) : idx l (k : Int) = some (nth l k) := idx_at (nth_some h)
theorem nth_pred {l : List Int} {k : Nat} (h0 : 0 < k) (h : k - 1 < l.length) : idx l ((k : Int) - 1) = some (nth l (k - 1)) := idx_pred h0 (nth_some h)
theorem pw_steps : ∀ {l : List Int}, (∀ j, 0 < j → j < l.length → nth l (j - 1) < nth l j) → l.Pairwise (· < ·)
 | [], _ => .nil
 | [a], _ => List.pairwise_singleton _ _
 | a :: b :: l, h => by
  have h1 : (b :: l).Pairwise (· < ·) := pw_steps fun j h0 hj => by
   have := h (j + 1) (by omega) (by simp at hj ⊢; omega)
   obtain ⟨i, rfl⟩ : ∃ i, j = i + 1 := ⟨j - 1, by omega⟩
   exact this
  have h2 : a < b := h 1 (by omega) (by simp)
  refine List.pairwise_cons.2 ⟨fun x hx => ?_, h1⟩
  rcases List.mem_cons.1 hx with rfl | hx
  ·exact h2
  ·exact Int.lt_trans h2 ((List.pairwise_cons.1 h1).1 x hx)
theorem pw_steps_iff {l : List Int} : (∀ j, 0 < j → j < l.length → nth l (j - 1) < nth l j) ↔ l.Pairwise (· < ·) :=
 ⟨pw_steps, fun h j h0 hj => pw_lt h (nth_some (by omega)) (nth_some hj) (by omega)⟩
theorem rises_ev {l : List Int} (hl : shrt l) : Ev (prises l) (l.Pairwise (· < ·) ∧ l.head? = some 0) := by
 have hl := hl.lt
 have key : Ev (prises_L0 l (l.length + 1) 0) ((∀ j, j < l.length → (0 < j → nth l (j - 1) < nth l j)) ∧ l.head? = some 0) := by
  refine Ev.loop (F := prises_L0 l) (fin := if (0 : Int) < (l.length : Int) then ((idx l (0 : Int)).bind fun x => some (decide (x = (0 : Int)))) else some false) (fun d k hk => ?_) (fun d => ?_) (by omega) fun _ => ?_
  ·rw [prises_L0, if_pos (by omega), nth_at hk, Option.bind_some]
   by_cases h0 : 0 < k
   ·rw [if_pos (show (0 : Int) < k by omega), gd_pos (fI (by omega)), nth_pred h0 (by omega), Option.bind_some, gd_pos (fI (by omega))]
    refine ⟨fun h => ?_, fun h => ?_⟩
    ·rw [if_neg (by have := h h0; omega)]
    ·rw [if_pos (by
      rcases Int.lt_or_le (nth l (k - 1)) (nth l k) with h1 | h1
      ·exact absurd (fun _ => h1) h
      ·exact h1)]
   ·rw [if_neg (show ¬ (0 : Int) < k by omega), gd_pos (fI (by omega))]
    exact ⟨fun _ => rfl, fun h => absurd (fun h' => absurd h' h0) h⟩
  ·rw [prises_L0, if_neg (Int.lt_irrefl _)]
  ·cases l with
   | nil => exact Ev.ff (by simp)
   | cons a l => rw [if_pos (by simp)]; exact Ev.bind (idx_zero rfl) (Ev.dec (by simp))
 exact key.imp (and_congr ⟨fun h => pw_steps fun j h0 hj => h j hj h0, fun h j hj h0 => pw_steps_iff.2 h j h0 hj⟩ Iff.rfl)
theorem rRises_ev {l : List Int} {most : Int} (hl : shrt l) : Ev (prRises l most) ((l.Pairwise (· < ·) ∧ l.head? = some 0) ∧ ∀ x ∈ l, 0 ≤ x ∧ x ≤ most) := by
 have hl := hl.lt
 have key : Ev (prRises_L0 l most (l.length + 1) 0) ((∀ j, j < l.length → ((0 ≤ nth l j ∧ nth l j ≤ most) ∧ (0 < j → nth l (j - 1) < nth l j))) ∧ l.head? = some 0) := by
  refine Ev.loop (F := prRises_L0 l most) (fin := if (0 : Int) < (l.length : Int) then ((idx l (0 : Int)).bind fun x => some (decide (x = (0 : Int)))) else some false) (fun d k hk => ?_) (fun d => ?_) (by omega) fun _ => ?_
  ·rw [prRises_L0, if_pos (by omega), nth_at hk, Option.bind_some]
   obtain ⟨b, h1, h2⟩ := In_ev (n := nth l k) (lo := 0) (hi := most)
   rw [h1, Option.bind_some]
   cases b with
   | false =>
    rw [if_neg (by simp)]
    exact ⟨fun h => (by have := h2.2 h.1; cases this), fun _ => rfl⟩
   | true =>
    have h3 := h2.1 rfl
    rw [if_pos rfl]
    by_cases h0 : 0 < k
    ·rw [if_pos (show (0 : Int) < k by omega), Option.bind_some, gd_pos (fI (by omega)), nth_pred h0 (by omega), Option.bind_some, gd_pos (fI (by omega))]
     refine ⟨fun h => ?_, fun h => ?_⟩
     ·rw [if_neg (by have := h.2 h0; omega)]
     ·rw [if_pos (by
       rcases Int.lt_or_le (nth l (k - 1)) (nth l k) with h1 | h1
       ·exact absurd ⟨h3, fun _ => h1⟩ h
       ·exact h1)]
    ·rw [if_neg (show ¬ (0 : Int) < k by omega), gd_pos (fI (by omega))]
     exact ⟨fun _ => rfl, fun h => absurd ⟨h3, fun h' => absurd h' h0⟩ h⟩
  ·rw [prRises_L0, if_neg (Int.lt_irrefl _)]
  ·cases l with
   | nil => exact Ev.ff (by simp)
   | cons a l => rw [if_pos (by simp)]; exact Ev.bind (idx_zero rfl) (Ev.dec (by simp))
 refine key.imp ⟨fun ⟨h1, h2⟩ => ⟨⟨pw_steps fun j h0 hj => (h1 j hj).2 h0, h2⟩, fun x hx => ?_⟩, fun ⟨⟨h1, h2⟩, h3⟩ => ⟨fun j hj => ⟨h3 _ (List.mem_of_getElem? (nth_some hj)), fun h0 => pw_steps_iff.2 h1 j h0 hj⟩, h2⟩⟩
 obtain ⟨i, hi⟩ := List.mem_iff_getElem?.1 hx
 rw [← nth_of hi]
 exact (h1 i (List.getElem?_eq_some_iff.1 hi).1).1
theorem gTf {l : List Tf} {p : Tf → Option Bool} : ∀ {d : Nat} {x : Int}, pindexTf_L0 l p d x = gIdx l p d x
 | 0, _ => rfl
 | d + 1, x => by unfold pindexTf_L0 gIdx; simp only [gTf (d := d)]
theorem gTfs {l : List Tf} {p : Tf → Option Bool} : ∀ {d : Nat} {x : Int}, pindexTfs_L0 l p d x = gIdx l p d x
 | 0, _ => rfl
 | d + 1, x => by unfold pindexTfs_L0 gIdx; simp only [gTfs (d := d)]
theorem gCl {l : List Clm} {p : Clm → Option Bool} : ∀ {d : Nat} {x : Int}, pindexCl_L0 l p d x = gIdx l p d x
 | 0, _ => rfl
 | d + 1, x => by unfold pindexCl_L0 gIdx; simp only [gCl (d := d)]
theorem gI {l : List Int} {p : Int → Option Bool} : ∀ {d : Nat} {x : Int}, pindexI_L0 l p d x = gIdx l p d x
 | 0, _ => rfl
 | d + 1, x => by unfold pindexI_L0 gIdx; simp only [gI (d := d)]
theorem gL {l : List (List Int)} {p : List Int → Option Bool} : ∀ {d : Nat} {x : Int}, pindexL_L0 l p d x = gIdx l p d x
 | 0, _ => rfl
 | d + 1, x => by unfold pindexL_L0 gIdx; simp only [gL (d := d)]
theorem gLL {l : List (List (List Int))} {p : List (List Int) → Option Bool} : ∀ {d : Nat} {x : Int}, pindexLL_L0 l p d x = gIdx l p d x
 | 0, _ => rfl
 | d + 1, x => by unfold pindexLL_L0 gIdx; simp only [gLL (d := d)]
theorem eachTf_ev {l : List Tf} {p : Tf → Option Bool} {q : Tf → Prop} (hp : ∀ a ∈ l, Ev (p a) (q a)) (hl : shrt l) : Ev (peachTf l p) (∀ a ∈ l, q a) := Ev.each hp hl.lt gTf
theorem eachCl_ev {l : List Clm} {p : Clm → Option Bool} {q : Clm → Prop} (hp : ∀ a ∈ l, Ev (p a) (q a)) (hl : shrt l) : Ev (peachCl l p) (∀ a ∈ l, q a) := Ev.each hp hl.lt gCl
theorem eachI_ev {l : List Int} {p : Int → Option Bool} {q : Int → Prop} (hp : ∀ a ∈ l, Ev (p a) (q a)) (hl : shrt l) : Ev (peachI l p) (∀ a ∈ l, q a) := Ev.each hp hl.lt gI
theorem eachL_ev {l : List (List Int)} {p : List Int → Option Bool} {q : List Int → Prop} (hp : ∀ a ∈ l, Ev (p a) (q a)) (hl : shrt l) : Ev (peachL l p) (∀ a ∈ l, q a) := Ev.each hp hl.lt gL
theorem eachLL_ev {l : List (List (List Int))} {p : List (List Int) → Option Bool} {q : List (List Int) → Prop} (hp : ∀ a ∈ l, Ev (p a) (q a)) (hl : shrt l) : Ev (peachLL l p) (∀ a ∈ l, q a) := Ev.each hp hl.lt gLL
theorem containsTfs_ev {l : List Tf} {p : Tf → Option Bool} {q : Tf → Prop} (hp : ∀ a ∈ l, Ev (p a) (q a)) (hl : shrt l) : Ev (pcontainsTfs l p) (∃ a ∈ l, q a) := Ev.contains hp hl.lt gTfs
end
end Go.Proofs.Ytbhdgedghfibcaa

namespace Go.Proofs.Ytbhdgedghfibcaa
open _root_.Go.Proofs.Try
open Go.Abs
set_option maxRecDepth 100000
noncomputable section
theorem last_at {l : List Int} (h : l ≠ []) : ∃ x, idx l ((l.length : Int) - 1) = some x ∧ l.getLast? = some x := by
 have hl : 0 < l.length := List.length_pos_iff.2 h
 refine ⟨l[l.length - 1], idx_get (by omega) (by omega), ?_⟩
 rw [List.getLast?_eq_getElem?, List.getElem?_eq_getElem]
theorem few {t : Tf} (h : ¬ tooManyN t) : t.Weeks.length ≤ 4 ∧ t.Counts.length ≤ 5 ∧ t.Rates.length ≤ 3 := by unfold tooManyN at h; omega
theorem fewS {α : Type} {l : List α} {n : Nat} (h : l.length ≤ n) (hn : n ≤ 1048576) : shrt l := Nat.le_trans h hn
theorem ne_of_head {l : List Int} {x : Int} (h : l.head? = some x) : l ≠ [] := fun e => by rw [e] at h; cases h
theorem validWeek_ev {t : Tf} (h : ¬ tooManyN t) {w : List Int} : Ev (pvalidWeek t w) (w.length = t.Counts.length ∧ ∀ r ∈ w, 0 ≤ r ∧ r ≤ 100) := by
 have hf := few h
 exact (Ev.ite fun hl => (eachI_ev (q := fun r => 0 ≤ r ∧ r ≤ 100) (fun _ _ => isHundredths_ev) (fewS (n := 5) (by omega) (by omega))).ret).imp (and_congr Int.ofNat_inj Iff.rfl)
theorem validCrop_ev {t : Tf} (h : ¬ tooManyN t) {c : List (List Int)} : Ev (pvalidCrop t c) (c.length = t.Weeks.length ∧ ∀ w ∈ c, w.length = t.Counts.length ∧ ∀ r ∈ w, 0 ≤ r ∧ r ≤ 100) := by
 have hf := few h
 exact (Ev.ite fun hl => (eachL_ev (fun _ _ => validWeek_ev h) (fewS (n := 4) (by omega) (by omega))).ret).imp (and_congr Int.ofNat_inj Iff.rfl)
theorem VT_iff {t : Tf} : VT t ↔ ((0 ≤ t.From ∧ t.From ≤ 120) ∧ (0 ≤ t.Least ∧ t.Least ≤ 100) ∧ (t.Weeks.Pairwise (· < ·) ∧ t.Weeks.head? = some 0) ∧ (∀ x ∈ t.Weeks, 0 ≤ x ∧ x ≤ 120) ∧ (t.Counts.Pairwise (· < ·) ∧ t.Counts.head? = some 0) ∧ t.Counts.getLast? = some 100 ∧ t.Rates ≠ [] ∧ ∀ c ∈ t.Rates, c.length = t.Weeks.length ∧ ∀ w ∈ c, w.length = t.Counts.length ∧ ∀ r ∈ w, 0 ≤ r ∧ r ≤ 100) := by
 constructor
 ·intro h; exact ⟨h.frm, h.lst, ⟨h.wks.1, h.wks.2.1⟩, h.wks.2.2, ⟨h.cts.1, h.cts.2.1⟩, h.c100, h.rne, h.rts⟩
 ·rintro ⟨h1, h2, h3, h4, h5, h6, h7, h8⟩
  refine ⟨h1, h2, ⟨h3.1, h3.2, h4⟩, ⟨h5.1, h5.2, fun x hx => ?_⟩, h6, h7, h8⟩
  obtain ⟨i, hi⟩ := List.mem_iff_getElem?.1 hx
  have hil := (List.getElem?_eq_some_iff.1 hi).1
  have h0 : t.Counts[0]? = some 0 := by rw [← h5.2]; cases t.Counts <;> rfl
  have hl : t.Counts[t.Counts.length - 1]? = some 100 := by rw [← h6, List.getLast?_eq_getElem?]
  constructor
  ·rcases Nat.eq_zero_or_pos i with h9 | h9
   ·subst h9; rw [h0] at hi; cases hi; exact Int.le_refl _
   ·exact Int.le_of_lt (pw_lt h5.1 h0 hi h9)
  ·rcases Nat.lt_or_ge i (t.Counts.length - 1) with h9 | h9
   ·exact Int.le_of_lt (pw_lt h5.1 hi hl h9)
   ·rw [show i = t.Counts.length - 1 by omega, hl] at hi; cases hi; exact Int.le_refl _
theorem tfValid_ev {t : Tf} (h : ¬ tooManyN t) : Ev (ptfValid t) (VT t) := by
 have hf := few h
 have hw : shrt t.Weeks := fewS (n := 4) (by omega) (by omega)
 have hc : shrt t.Counts := fewS (n := 5) (by omega) (by omega)
 have hr : shrt t.Rates := fewS (n := 3) (by omega) (by omega)
 refine Ev.imp (Ev.and isDay_ev fun _ => Ev.and isHundredths_ev fun _ => Ev.and (rises_ev hw) fun _ => Ev.and (eachI_ev (q := fun r => 0 ≤ r ∧ r ≤ 120) (fun _ _ => isDay_ev) hw) fun _ => Ev.and (K := t.Counts.getLast? = some 100 ∧ t.Rates ≠ [] ∧ ∀ c ∈ t.Rates, c.length = t.Weeks.length ∧ ∀ w ∈ c, w.length = t.Counts.length ∧ ∀ r ∈ w, 0 ≤ r ∧ r ≤ 100) (rises_ev hc) fun hr2 => ?_) VT_iff.symm
 obtain ⟨x, hx, hx2⟩ := last_at (ne_of_head hr2.2)
 refine Ev.gd (fI (by omega)) (Ev.bind hx (Ev.imp (Ev.ite fun _ => Ev.ite fun _ => (eachLL_ev (fun _ _ => validCrop_ev h) hr).ret) ?_))
 rw [hx2]
 refine and_congr ⟨fun h => by rw [h], fun h => Option.some.inj h⟩ (and_congr ?_ Iff.rfl)
 rw [← List.length_pos_iff]; omega
theorem rT_L2 {t : Tf} {c w : Nat} {wks : List (List Int)} {rs : List Int} (hc : t.Rates[c]? = some wks) (hw : wks[w]? = some rs) (hl : rs.length = t.Counts.length) (h5 : t.Counts.length ≤ 5) (hw4 : w ≤ 4) {K : Bool → Int → Option Bool} {b : Bool} :
  ((∀ r ∈ rs, 0 ≤ r ∧ r ≤ 100) → prIsTariff_L2 t (c : Int) (w : Int) K 1000000 b 0 = K b ((w : Int) + 1)) ∧ (¬ (∀ r ∈ rs, 0 ≤ r ∧ r ≤ 100) → prIsTariff_L2 t (c : Int) (w : Int) K 1000000 b 0 = some false) := by
 have key := loopAll_tt (n := rs.length) (F := fun d x => prIsTariff_L2 t (c : Int) (w : Int) K d b x) (ok := fun j => 0 ≤ nth rs j ∧ nth rs j ≤ 100) (bad := some false) (fin := K b ((w : Int) + 1)) (fun d k hk => by
  rw [prIsTariff_L2, if_pos (by omega), idx_at hc, Option.bind_some, idx_at hw, Option.bind_some, nth_at hk, Option.bind_some]
  obtain ⟨b', h1, h2⟩ := In_ev (n := nth rs k) (lo := 0) (hi := 100)
  rw [h1, Option.bind_some]
  cases b' with
  | true => rw [if_pos rfl, gd_pos (fI (by omega))]; exact ⟨fun _ => rfl, fun h => absurd (h2.1 rfl) h⟩
  | false => rw [if_neg (by simp)]; exact ⟨fun h => (by have := h2.2 h; cases this), fun _ => rfl⟩) (fun d => by rw [prIsTariff_L2, if_neg (by omega), gd_pos (fI (by omega))]) (d := 1000000) (by omega)
 have hiff : (∀ j, j < rs.length → 0 ≤ nth rs j ∧ nth rs j ≤ 100) ↔ ∀ r ∈ rs, 0 ≤ r ∧ r ≤ 100 := ⟨fun h r hr => by
  obtain ⟨i, hi⟩ := List.mem_iff_getElem?.1 hr
  rw [← nth_of hi]; exact h i (List.getElem?_eq_some_iff.1 hi).1, fun h j hj => h _ (List.mem_of_getElem? (nth_some hj))⟩
 rw [hiff] at key
 exact key
def wkOk (t : Tf) (rs : List Int) : Prop := rs.length = t.Counts.length ∧ ∀ r ∈ rs, 0 ≤ r ∧ r ≤ 100
theorem mem_iff_nat {α : Type} {l : List α} {P : α → Prop} : (∀ j, j < l.length → ∀ a, l[j]? = some a → P a) ↔ ∀ a ∈ l, P a :=
 ⟨fun h a ha => by
  obtain ⟨i, hi⟩ := List.mem_iff_getElem?.1 ha
  exact h i (List.getElem?_eq_some_iff.1 hi).1 a hi, fun h j _ a ha => h a (List.mem_of_getElem? ha)⟩
theorem rT_L1 {t : Tf} (h : ¬ tooManyN t) {c : Nat} {wks : List (List Int)} (hc : t.Rates[c]? = some wks) (hl : wks.length = t.Weeks.length) {K : Bool → Int → Option Bool} {b : Bool} :
  ((∀ w ∈ wks, wkOk t w) → prIsTariff_L1 t (c : Int) K 1000000 b 0 = K b ((c : Int) + 1)) ∧ (¬ (∀ w ∈ wks, wkOk t w) → prIsTariff_L1 t (c : Int) K 1000000 b 0 = some false) := by
 have hf := few h
 have hcl : c < t.Rates.length := (List.getElem?_eq_some_iff.1 hc).1
 have key := loopAll_tt (n := wks.length) (F := fun d x => prIsTariff_L1 t (c : Int) K d b x) (ok := fun j => ∀ rs, wks[j]? = some rs → wkOk t rs) (bad := some false) (fin := K b ((c : Int) + 1)) (fun d k hk => by
  have hw := List.getElem?_eq_getElem hk
  rw [prIsTariff_L1, if_pos (by omega), idx_at hc, Option.bind_some, idx_at hw, Option.bind_some]
  by_cases hlen : wks[k].length = t.Counts.length
  ·rw [if_pos (by omega)]
   obtain ⟨q1, q2⟩ := rT_L2 (t := t) (b := b) (K := prIsTariff_L1 t (c : Int) K d) hc hw hlen hf.2.1 (by omega)
   exact ⟨fun hok => q1 (hok _ hw).2, fun hok => q2 fun h' => hok fun rs hrs => by rw [hw] at hrs; cases hrs; exact ⟨hlen, h'⟩⟩
  ·rw [if_neg (by omega)]
   exact ⟨fun hok => absurd (hok _ hw).1 hlen, fun _ => rfl⟩) (fun d => by rw [prIsTariff_L1, if_neg (by omega), gd_pos (fI (by omega))]) (d := 1000000) (by omega)
 rw [mem_iff_nat (P := wkOk t)] at key
 exact key
theorem rT_L0 {t : Tf} (h : ¬ tooManyN t) : Ev (prIsTariff_L0 t 1000000 false 0) (∀ c ∈ t.Rates, c.length = t.Weeks.length ∧ ∀ w ∈ c, wkOk t w) := by
 have hf := few h
 have key := Ev.loop (n := t.Rates.length) (F := fun d x => prIsTariff_L0 t d false x) (ok := fun j => ∀ c, t.Rates[j]? = some c → c.length = t.Weeks.length ∧ ∀ w ∈ c, wkOk t w) (fin := some true) (P := True) (fun d k hk => by
  have hc := List.getElem?_eq_getElem hk
  rw [prIsTariff_L0, if_pos (by omega), idx_at hc, Option.bind_some]
  by_cases hlen : t.Rates[k].length = t.Weeks.length
  ·rw [if_pos (by omega)]
   obtain ⟨q1, q2⟩ := rT_L1 h (b := false) (K := prIsTariff_L0 t d) hc hlen
   exact ⟨fun hok => q1 (hok _ hc).2, fun hok => q2 fun h' => hok fun rs hrs => by rw [hc] at hrs; cases hrs; exact ⟨hlen, h'⟩⟩
  ·rw [if_neg (by omega)]
   exact ⟨fun hok => absurd (hok _ hc).1 hlen, fun _ => rfl⟩) (fun d => by rw [prIsTariff_L0, if_neg (Int.lt_irrefl _)]) (d := 1000000) (by omega) fun _ => Ev.tt trivial
 refine key.imp ⟨fun h => mem_iff_nat.1 h.1, fun h => ⟨mem_iff_nat.2 h, trivial⟩⟩
theorem rIsTariff_ev {t : Tf} (h : ¬ tooManyN t) : Ev (prIsTariff t) (VT t) := by
 have hf := few h
 have hw : shrt t.Weeks := fewS (n := 4) (by omega) (by omega)
 have hc : shrt t.Counts := fewS (n := 5) (by omega) (by omega)
 refine Ev.imp (Ev.and In_ev fun _ => Ev.and In_ev fun _ => Ev.and (rRises_ev hw) fun _ => Ev.and (K := t.Counts.getLast? = some 100 ∧ t.Rates ≠ [] ∧ ∀ c ∈ t.Rates, c.length = t.Weeks.length ∧ ∀ w ∈ c, wkOk t w) (rRises_ev hc) fun hr2 => ?_) ?_
 ·obtain ⟨x, hx, hx2⟩ := last_at (ne_of_head hr2.1.2)
  refine Ev.gd (fI (by omega)) (Ev.bind hx (Ev.imp (Ev.ite fun _ => Ev.itn fun _ => rT_L0 h) ?_))
  rw [hx2]
  refine and_congr ⟨fun h => by rw [h], fun h => Option.some.inj h⟩ (and_congr ?_ Iff.rfl)
  rw [← List.length_pos_iff]; omega
 ·refine ⟨fun ⟨h1, h2, h3, h4, h5, h6, h7⟩ => ⟨h1, h2, ⟨h3.1.1, h3.1.2, h3.2⟩, ⟨h4.1.1, h4.1.2, h4.2⟩, h5, h6, h7⟩, fun h => ⟨h.frm, h.lst, ⟨⟨h.wks.1, h.wks.2.1⟩, h.wks.2.2⟩, ⟨⟨h.cts.1, h.cts.2.1⟩, h.cts.2.2⟩, h.c100, h.rne, h.rts⟩⟩
end
end Go.Proofs.Ytbhdgedghfibcaa

namespace Go.Proofs.Ytbhdgedghfibcaa
open _root_.Go.Proofs.Try
open Go.Abs
set_option maxRecDepth 100000
noncomputable section
theorem tfTooMany_ev {t : Tf} : Ev (ptfTooMany t) (tooManyN t) := by
 unfold ptfTooMany tooManyN
 by_cases h1 : (4 : Int) < (t.Weeks.length : Int)
 ·rw [if_pos h1]; exact Ev.tt (.inl (by omega))
 ·rw [if_neg h1]
  by_cases h2 : (5 : Int) < (t.Counts.length : Int)
  ·rw [if_pos h2]; exact Ev.tt (.inr (.inl (by omega)))
  ·rw [if_neg h2]; exact Ev.dec (by omega)
theorem tooMany_ev {l : List Tf} : Ev (ptooMany l) (ManyN l) := by
 unfold ptooMany ManyN
 by_cases h1 : (3 : Int) < (l.length : Int)
 ·rw [if_pos h1]; exact Ev.tt (.inl (by omega))
 ·rw [if_neg h1]
  exact (containsTfs_ev (fun _ _ => tfTooMany_ev) (fewS (n := 3) (by omega) (by omega))).ret.imp ⟨fun h => .inr h, fun h => h.elim (fun h => by omega) id⟩
theorem froms_eq {l : List Tf} (hl : shrt l) : pfroms l = some (l.map (·.From)) := by
 unfold shrt at hl
 exact loopApp0 (l := l) (F := pfroms_L0 l) (fun t : Tf => t.From) some (fun d k acc a ha hac => by
  have hk := (List.getElem?_eq_some_iff.1 ha).1
  rw [pfroms_L0, if_pos (by omega), idx_at ha, Option.bind_some, gd_pos (show acc.length < 1048576 by omega), gd_pos (fI (by omega))]) (fun d acc => by rw [pfroms_L0, if_neg (Int.lt_irrefl _)]) (by omega)
theorem head_zero {l : List Tf} (h : l ≠ []) : ∃ t, l[0]? = some t ∧ cropsN l = t.Rates.length := by
 cases l with
 | nil => exact absurd rfl h
 | cons t l => exact ⟨t, rfl, rfl⟩
theorem sameCrops_ev {l : List Tf} (h : l ≠ []) {t : Tf} : Ev (psameCrops l t) (t.Rates.length = cropsN l) := by
 obtain ⟨u, h1, h2⟩ := head_zero h
 exact Ev.bind (idx_zero h1) (Ev.dec (by rw [h2]; exact Int.ofNat_inj))
theorem not_many {l : List Tf} (h : ¬ ManyN l) : l.length ≤ 3 ∧ ∀ t ∈ l, ¬ tooManyN t := by
 unfold ManyN at h
 exact ⟨by rcases Nat.lt_or_ge 3 l.length with h1 | h1; exact absurd (.inl h1) h; exact h1, fun t ht h1 => h (.inr ⟨t, ht, h1⟩)⟩
theorem tfsValid_ev {l : List Tf} (h : ¬ ManyN l) : Ev (ptfsValid l) (VL l) := by
 obtain ⟨h3, ht⟩ := not_many h
 have hs : shrt l := fewS h3 (by omega)
 have key : Ev (ptfsValid l) ((∀ t ∈ l, VT t) ∧ ((l.map (·.From)).Pairwise (· < ·) ∧ (l.map (·.From)).head? = some 0) ∧ ∀ t ∈ l, t.Rates.length = cropsN l) := by
  refine Ev.and (eachTf_ev (fun t h' => tfValid_ev (ht t h')) hs) fun _ => Ev.bind (froms_eq hs) (Ev.and (rises_ev (by unfold shrt; rw [List.length_map]; exact hs)) fun hr => (eachTf_ev (fun t _ => sameCrops_ev (fun e => by rw [e] at hr; cases hr.2)) hs).ret)
 exact key.imp ⟨fun ⟨h1, h2, h4⟩ => ⟨fun e => (by rw [e] at h2; cases h2.2), h1, h2.1, h2.2, h4⟩, fun h => ⟨h.vt, ⟨h.pw, h.hd⟩, h.crp⟩⟩
theorem check_eq {l : List Tf} : pcheck l = some (faultN l) := by
 unfold pcheck
 refine tooMany_ev.pick (fun h => ?_) fun h => ?_
 ·rw [if_pos rfl]; unfold faultN; rw [if_pos h]
 ·rw [if_neg (by simp)]
  refine (tfsValid_ev h).pick (fun hv => ?_) fun hv => ?_
  ·rw [if_pos rfl]; unfold faultN; rw [if_neg h, if_pos hv]
  ·rw [if_neg (by simp)]; unfold faultN; rw [if_neg h, if_neg hv]
def okAt (l : List Tf) (j : Nat) (t : Tf) : Prop := VT t ∧ t.Rates.length = cropsN l ∧ (j = 0 → t.From = 0) ∧ (0 < j → ∀ u, l[j - 1]? = some u → u.From < t.From)
theorem fault_L1 {l : List Tf} (h : ¬ ManyN l) (hne : l ≠ []) : ((∀ j, j < l.length → ∀ t, l[j]? = some t → okAt l j t) → prFault_L1 l (l.length + 1) 0 = some 0) ∧ (¬ (∀ j, j < l.length → ∀ t, l[j]? = some t → okAt l j t) → prFault_L1 l (l.length + 1) 0 = some 1) := by
 obtain ⟨h3, ht⟩ := not_many h
 obtain ⟨u0, hu0, hcr⟩ := head_zero hne
 refine loopAll_tt (F := prFault_L1 l) (fun d k hk => ?_) (fun d => by rw [prFault_L1, if_neg (Int.lt_irrefl _), if_neg (by have := List.length_pos_iff.2 hne; omega)]) (Nat.lt_succ_self _)
 have hg := List.getElem?_eq_getElem hk
 generalize l[k] = t at hg
 have hT := rIsTariff_ev (ht t (List.mem_of_getElem? hg))
 have hgo : ∀ {P : Prop}, (∀ t', l[k]? = some t' → P) → P := fun f => f _ hg
 rw [prFault_L1, if_pos (by omega), idx_at hg, Option.bind_some]
 have hone : ∀ {P : Tf → Prop}, (∀ t', l[k]? = some t' → P t') ↔ P t := ⟨fun f => f _ hg, fun f t' ht' => by rw [hg] at ht'; cases ht'; exact f⟩
 rw [hone]
 have done : ∀ {o : Option Int}, (VT t → t.Rates.length = cropsN l → (k = 0 → t.From = 0) → (0 < k → ∀ u, l[k - 1]? = some u → u.From < t.From) → o = prFault_L1 l d ((k : Int) + 1)) → (¬ okAt l k t → o = some 1) → (okAt l k t → o = prFault_L1 l d ((k : Int) + 1)) ∧ (¬ okAt l k t → o = some 1) := fun a b => ⟨fun h => a h.1 h.2.1 h.2.2.1 h.2.2.2, b⟩
 obtain ⟨b, hb, hb2⟩ := hT
 rw [hb, Option.bind_some]
 cases b with
 | false => rw [if_neg (by simp)]; exact ⟨fun h => (by have := hb2.2 h.1; cases this), fun _ => rfl⟩
 | true =>
  have hv := hb2.1 rfl
  rw [if_pos rfl, Option.bind_some, idx_zero hu0, Option.bind_some]
  by_cases hr : t.Rates.length = u0.Rates.length
  ·rw [if_pos (by omega)]
   have hr' : t.Rates.length = cropsN l := by omega
   by_cases h0 : k = 0
   ·rw [if_pos (by omega), Option.bind_some]
    by_cases hf : t.From = 0
    ·rw [if_pos hf, if_neg (by omega), gd_pos (fI (by omega))]
     exact ⟨fun _ => rfl, fun hn => absurd ⟨hv, hr', fun _ => hf, fun h' => by omega⟩ hn⟩
    ·rw [if_neg hf]
     exact ⟨fun h' => absurd (h'.2.2.1 h0) hf, fun _ => rfl⟩
   ·rw [if_neg (by omega), if_pos (by omega), Option.bind_some, gd_pos (fI (by omega))]
    have hp : k - 1 < l.length := by omega
    have hgp := List.getElem?_eq_getElem hp
    generalize l[k - 1] = u at hgp
    rw [idx_pred (by omega) hgp, Option.bind_some]
    by_cases hle : t.From ≤ u.From
    ·rw [if_pos hle]
     exact ⟨fun h' => by have := h'.2.2.2 (by omega) u hgp; omega, fun _ => rfl⟩
    ·rw [if_neg hle, gd_pos (fI (by omega))]
     exact ⟨fun _ => rfl, fun hn => absurd ⟨hv, hr', fun h' => absurd h' h0, fun _ u' hu' => by rw [hgp] at hu'; cases hu'; omega⟩ hn⟩
  ·rw [if_neg (by omega)]
   exact ⟨fun h' => by have := h'.2.1; omega, fun _ => rfl⟩
theorem okAt_iff {l : List Tf} (hne : l ≠ []) : (∀ j, j < l.length → ∀ t, l[j]? = some t → okAt l j t) ↔ VL l := by
 have hm : ∀ j t, l[j]? = some t → nth (l.map (·.From)) j = t.From := fun j t h => nth_of (by rw [List.getElem?_map, h]; rfl)
 constructor
 ·intro h
  refine ⟨hne, fun t ht => ?_, pw_steps fun j h0 hj => ?_, ?_, fun t ht => ?_⟩
  ·obtain ⟨i, hi⟩ := List.mem_iff_getElem?.1 ht
   exact (h i (List.getElem?_eq_some_iff.1 hi).1 t hi).1
  ·rw [List.length_map] at hj
   have h1 := List.getElem?_eq_getElem hj
   have h2 := List.getElem?_eq_getElem (show j - 1 < l.length by omega)
   rw [hm _ _ h1, hm _ _ h2]
   exact (h j hj _ h1).2.2.2 h0 _ h2
  ·obtain ⟨t, h1, _⟩ := head_zero hne
   have := (h 0 (List.getElem?_eq_some_iff.1 h1).1 t h1).2.2.1 rfl
   cases l with
   | nil => cases h1
   | cons a l => cases h1; simp [this]
  ·obtain ⟨i, hi⟩ := List.mem_iff_getElem?.1 ht
   exact (h i (List.getElem?_eq_some_iff.1 hi).1 t hi).2.1
 ·intro h j hj t ht
  refine ⟨h.vt t (List.mem_of_getElem? ht), h.crp t (List.mem_of_getElem? ht), fun h0 => ?_, fun h0 u hu => ?_⟩
  ·subst h0
   have := h.hd
   cases l with
   | nil => cases ht
   | cons a l => cases ht; simpa using this
  ·have := pw_steps_iff.2 h.pw j h0 (by rw [List.length_map]; exact hj)
   rwa [hm _ _ ht, hm _ _ hu] at this
theorem rFault_eq {l : List Tf} : prFault l = some (faultN l) := by
 unfold prFault
 by_cases h1 : (3 : Int) < (l.length : Int)
 ·rw [if_pos h1]; unfold faultN; rw [if_pos (.inl (by omega))]
 ·rw [if_neg h1]
  have key := loopAll_tt (n := l.length) (F := fun d x => prFault_L0 l d 0 x) (ok := fun j => ∀ t, l[j]? = some t → ¬ tooManyN t) (bad := some 3) (fin := prFault_L1 l (l.length + 1) 0) (fun d k hk => by
   have hg := List.getElem?_eq_getElem hk
   generalize l[k] = t at hg
   have hone : (∀ t', l[k]? = some t' → ¬ tooManyN t') ↔ ¬ tooManyN t := ⟨fun f => f _ hg, fun f t' ht' => by rw [hg] at ht'; cases ht'; exact f⟩
   rw [hone, prFault_L0, if_pos (by omega), idx_at hg, Option.bind_some]
   unfold tooManyN
   by_cases h4 : (4 : Int) < (t.Weeks.length : Int)
   ·rw [if_pos h4]; exact ⟨fun h => by omega, fun _ => rfl⟩
   ·rw [if_neg h4, Option.bind_some]
    by_cases h5 : (5 : Int) < (t.Counts.length : Int)
    ·rw [if_pos h5]; exact ⟨fun h => by omega, fun _ => rfl⟩
    ·rw [if_neg h5, Option.bind_some]
     by_cases h6 : (3 : Int) < (t.Rates.length : Int)
     ·rw [if_pos h6]; exact ⟨fun h => by omega, fun _ => rfl⟩
     ·rw [if_neg h6, gd_pos (fI (by omega))]; exact ⟨fun _ => rfl, fun h => by omega⟩) (fun d => by rw [prFault_L0, if_neg (Int.lt_irrefl _)]) (d := l.length + 1) (by omega)
  rw [mem_iff_nat (P := fun t => ¬ tooManyN t)] at key
  by_cases hm : ManyN l
  ·unfold faultN
   rw [if_pos hm]
   refine key.2 fun hh => ?_
   rcases hm with hm | ⟨t, ht, hm⟩
   ·omega
   ·exact hh t ht hm
  ·refine (key.1 (not_many hm).2).trans ?_
   unfold faultN
   rw [if_neg hm]
   by_cases hne : l = []
   ·subst hne
    rw [if_neg fun h => h.ne rfl]
    rfl
   ·obtain ⟨q1, q2⟩ := fault_L1 hm hne
    rw [okAt_iff hne] at q1 q2
    by_cases hv : VL l
    ·rw [if_pos hv, q1 hv]
    ·rw [if_neg hv, q2 hv]
theorem lFault_eq {l : List Tf} : plFault l = some (faultN l) := by unfold plFault; rw [rFault_eq]; rfl
end
end Go.Proofs.Ytbhdgedghfibcaa

namespace Go.Proofs.Ytbhdgedghfibcaa
open _root_.Go.Proofs.Try
open Go.Abs
set_option maxRecDepth 100000
noncomputable section
structure ThinT (t : Tf) : Prop where
 w : t.Weeks.length ≤ 7
 c : t.Counts.length ≤ 7
 r : t.Rates.length ≤ 5
 rr : ∀ c ∈ t.Rates, c.length ≤ 7 ∧ ∀ w ∈ c, w.length ≤ 7
def ThinN (l : List Tf) : Prop := l.length ≤ 5 ∧ ∀ t ∈ l, ThinT t
theorem hone {α : Type} {l : List α} {k : Nat} {a : α} (h : l[k]? = some a) {P : α → Prop} : (∀ x, l[k]? = some x → P x) ↔ P a := ⟨fun f => f _ h, fun f x hx => by rw [h] at hx; cases hx; exact f⟩
theorem thin_L2 {l : List Tf} {i c : Nat} {t : Tf} {wks : List (List Int)} (hi : l[i]? = some t) (hc : t.Rates[c]? = some wks) (h7 : wks.length ≤ 7) (h5 : c < 5) {K : Bool → Int → Option Bool} {b : Bool} :
  ((∀ w ∈ wks, w.length ≤ 7) → plThin_L2 l (i : Int) (c : Int) K 1000000 b 0 = K b ((c : Int) + 1)) ∧ (¬ (∀ w ∈ wks, w.length ≤ 7) → plThin_L2 l (i : Int) (c : Int) K 1000000 b 0 = some false) := by
 have key := loopAll_tt (n := wks.length) (F := fun d x => plThin_L2 l (i : Int) (c : Int) K d b x) (ok := fun j => ∀ w, wks[j]? = some w → w.length ≤ 7) (bad := some false) (fin := K b ((c : Int) + 1)) (fun d k hk => by
  have hg := List.getElem?_eq_getElem hk
  generalize wks[k] = w at hg
  rw [hone hg (P := fun w => w.length ≤ 7), plThin_L2, idx_at hi, Option.bind_some, idx_at hc, Option.bind_some, if_pos (by omega), Option.bind_some, idx_at hc, Option.bind_some, idx_at hg, Option.bind_some]
  by_cases h : (7 : Int) < (w.length : Int)
  ·rw [if_pos h]; exact ⟨fun h => by omega, fun _ => rfl⟩
  ·rw [if_neg h, gd_pos (fI (by omega))]; exact ⟨fun _ => rfl, fun h => by omega⟩) (fun d => by rw [plThin_L2, idx_at hi, Option.bind_some, idx_at hc, Option.bind_some, if_neg (Int.lt_irrefl _), gd_pos (fI (by omega))]) (d := 1000000) (by omega)
 rw [mem_iff_nat (l := wks) (P := fun w : List Int => w.length ≤ 7)] at key
 exact key
theorem thin_L1 {l : List Tf} {i : Nat} {t : Tf} (hi : l[i]? = some t) (h5 : t.Rates.length ≤ 5) (hi5 : i < 5) {K : Bool → Int → Option Bool} {b : Bool} :
  ((∀ c ∈ t.Rates, c.length ≤ 7 ∧ ∀ w ∈ c, w.length ≤ 7) → plThin_L1 l (i : Int) K 1000000 b 0 = K b ((i : Int) + 1)) ∧ (¬ (∀ c ∈ t.Rates, c.length ≤ 7 ∧ ∀ w ∈ c, w.length ≤ 7) → plThin_L1 l (i : Int) K 1000000 b 0 = some false) := by
 have key := loopAll_tt (n := t.Rates.length) (F := fun d x => plThin_L1 l (i : Int) K d b x) (ok := fun j => ∀ c, t.Rates[j]? = some c → c.length ≤ 7 ∧ ∀ w ∈ c, w.length ≤ 7) (bad := some false) (fin := K b ((i : Int) + 1)) (fun d k hk => by
  have hg := List.getElem?_eq_getElem hk
  generalize t.Rates[k] = c at hg
  rw [hone hg (P := fun c => c.length ≤ 7 ∧ ∀ w ∈ c, w.length ≤ 7), plThin_L1, idx_at hi, Option.bind_some, if_pos (by omega), Option.bind_some, idx_at hg, Option.bind_some]
  by_cases h : (7 : Int) < (c.length : Int)
  ·rw [if_pos h]; exact ⟨fun h => by omega, fun _ => rfl⟩
  ·rw [if_neg h]
   obtain ⟨q1, q2⟩ := thin_L2 (K := plThin_L1 l (i : Int) K d) (b := b) hi hg (by omega) (by omega)
   exact ⟨fun h' => q1 h'.2, fun h' => q2 fun h2 => h' ⟨by omega, h2⟩⟩) (fun d => by rw [plThin_L1, idx_at hi, Option.bind_some, if_neg (Int.lt_irrefl _), gd_pos (fI (by omega))]) (d := 1000000) (by omega)
 rw [mem_iff_nat (l := t.Rates) (P := fun c : List (List Int) => c.length ≤ 7 ∧ ∀ w ∈ c, w.length ≤ 7)] at key
 exact key
theorem thin_ev {l : List Tf} : Ev (plThin l) (ThinN l) := by
 unfold plThin ThinN
 refine (Ev.itn (p := (5 : Int) < (l.length : Int)) (K := ∀ t ∈ l, ThinT t) fun h5 => ?_).imp (and_congr (by omega) Iff.rfl)
 have key := Ev.loop (n := l.length) (F := fun d x => plThin_L0 l d false x) (ok := fun j => ∀ t, l[j]? = some t → ThinT t) (fin := some true) (P := True) (fun d k hk => by
  have hg := List.getElem?_eq_getElem hk
  generalize l[k] = t at hg
  rw [hone hg (P := ThinT), plThin_L0, if_pos (by omega), idx_at hg, Option.bind_some]
  by_cases h1 : (7 : Int) < (t.Weeks.length : Int)
  ·rw [if_pos h1]; exact ⟨fun h => by have := h.w; omega, fun _ => rfl⟩
  ·rw [if_neg h1, Option.bind_some]
   by_cases h2 : (7 : Int) < (t.Counts.length : Int)
   ·rw [if_pos h2]; exact ⟨fun h => by have := h.c; omega, fun _ => rfl⟩
   ·rw [if_neg h2, Option.bind_some]
    by_cases h3 : (5 : Int) < (t.Rates.length : Int)
    ·rw [if_pos h3]; exact ⟨fun h => by have := h.r; omega, fun _ => rfl⟩
    ·rw [if_neg h3]
     obtain ⟨q1, q2⟩ := thin_L1 (K := plThin_L0 l d) (b := false) hg (by omega) (by omega)
     exact ⟨fun h => q1 h.rr, fun h => q2 fun h' => h ⟨by omega, by omega, by omega, h'⟩⟩) (fun d => by rw [plThin_L0, if_neg (Int.lt_irrefl _)]) (d := l.length + 1) (by omega) fun _ => Ev.tt trivial
 exact key.imp ⟨fun h => mem_iff_nat.1 h.1, fun h => ⟨mem_iff_nat.2 h, trivial⟩⟩
theorem list_eq {l : List Int} (h : l.length ≤ 1048576) : plList l = some l := by unfold plList; rw [gd_pos (by simp; omega)]; simp
theorem tar_L2 {l : List Tf} {i c : Nat} {t : Tf} {wks : List (List Int)} (hi : l[i]? = some t) (hc : t.Rates[c]? = some wks) (h7 : wks.length ≤ 7) (hw : ∀ w ∈ wks, w.length ≤ 7) (h5 : c < 5) {a1 : Int} {a2 : Bool} {a3 : Int} {a4 : List (List (List Int))} (h4 : a4.length < 5) {K : Int → Bool → Int → List (List (List Int)) → Int → Option (List Tf)} :
  plTariffs_L2 l (i : Int) a1 a2 a3 a4 (c : Int) K 1000000 [] 0 = K a1 a2 a3 (a4 ++ [wks]) ((c : Int) + 1) := by
 have key := loopApp0 (l := wks) (fun w => w) (F := fun d acc x => plTariffs_L2 l (i : Int) a1 a2 a3 a4 (c : Int) K d acc x) (fun acc => K a1 a2 a3 (a4 ++ [acc]) ((c : Int) + 1)) (fun d k acc a ha hac => by
  have hk := (List.getElem?_eq_some_iff.1 ha).1
  have hs := hw a (List.mem_of_getElem? ha)
  rw [plTariffs_L2, idx_at hi, Option.bind_some, idx_at hc, Option.bind_some, if_pos (by omega), Option.bind_some, idx_at hc, Option.bind_some, idx_at ha, Option.bind_some, list_eq (by omega), Option.bind_some, gd_pos (show acc.length < 1048576 by omega), gd_pos (fI (by omega))]) (fun d acc => by
  rw [plTariffs_L2, idx_at hi, Option.bind_some, idx_at hc, Option.bind_some, if_neg (Int.lt_irrefl _), gd_pos (show a4.length < 1048576 by omega), gd_pos (fI (by omega))]) (d := 1000000) (by omega)
 rw [List.map_id'] at key
 exact key
theorem tar_L1 {l out : List Tf} {i : Nat} {t : Tf} (hi : l[i]? = some t) (ht : ThinT t) (hi5 : i < 5) (ho : out.length < 5) {r1 r2 : List Int} {a1 : Int} {a2 : Bool} {a3 : Int} {K : List Tf → Int → Option (List Tf)} :
  plTariffs_L1 l out (i : Int) r1 r2 K 1000000 a1 a2 a3 [] 0 = K (out ++ [⟨a1, a2, a3, r1, r2, t.Rates⟩]) ((i : Int) + 1) := by
 have hr := ht.r
 have key := loopApp0 (l := t.Rates) (fun w => w) (F := fun d acc x => plTariffs_L1 l out (i : Int) r1 r2 K d a1 a2 a3 acc x) (fun acc => K (out ++ [⟨a1, a2, a3, r1, r2, acc⟩]) ((i : Int) + 1)) (fun d k acc a ha hac => by
  have hk := (List.getElem?_eq_some_iff.1 ha).1
  obtain ⟨q1, q2⟩ := ht.rr a (List.mem_of_getElem? ha)
  rw [plTariffs_L1, idx_at hi, Option.bind_some, if_pos (by omega), tar_L2 hi ha q1 q2 (by omega) (by omega)]) (fun d acc => by
  rw [plTariffs_L1, idx_at hi, Option.bind_some, if_neg (Int.lt_irrefl _), gd_pos (show out.length < 1048576 by omega), gd_pos (fI (by omega))]) (d := 1000000) (by omega)
 rw [List.map_id'] at key
 exact key
theorem lTariffs_eq {l : List Tf} (h : ThinN l) : plTariffs l = some l := by
 obtain ⟨h5, ht⟩ := h
 have key := loopApp0 (l := l) (fun w => w) (F := plTariffs_L0 l) some (fun d k acc a ha hac => by
  have hk := (List.getElem?_eq_some_iff.1 ha).1
  have hT := ht a (List.mem_of_getElem? ha)
  have h1 := hT.w
  have h2 := hT.c
  rw [plTariffs_L0, if_pos (by omega), idx_at ha]
  simp only [Option.bind_some]
  rw [list_eq (by omega), Option.bind_some, list_eq (by omega), Option.bind_some, tar_L1 ha hT (by omega) (by omega)]) (fun d acc => by rw [plTariffs_L0, if_neg (Int.lt_irrefl _)]) (d := l.length + 1) (by omega)
 rw [List.map_id'] at key
 exact key
theorem rLast_go {l : List Int} {n : Int} (hl : l.length ≤ 1000) : ∀ d (k : Nat), k < l.length → l.length - k ≤ d → prLast_L0 l n d (k : Int) = some (((k + lastN (l.drop k) n : Nat) : Int))
 | 0, k, hk, h => by omega
 | d + 1, k, hk, h => by
  rw [prLast_L0, gd_pos (fI (by omega))]
  by_cases h1 : k + 1 < l.length
  ·have e1 := List.getElem?_eq_getElem h1
   rw [if_pos (by omega), gd_pos (fI (by omega)), show (k : Int) + 1 = ((k + 1 : Nat) : Int) by omega, idx_at e1, Option.bind_some]
   have hd : l.drop k = l[k] :: l[k + 1] :: l.drop (k + 2) := by rw [List.drop_eq_getElem_cons hk, List.drop_eq_getElem_cons h1]
   have hd1 : l.drop (k + 1) = l[k + 1] :: l.drop (k + 2) := List.drop_eq_getElem_cons h1
   by_cases hle : l[k + 1] ≤ n
   ·rw [if_pos hle, gd_pos (fI (by omega)), rLast_go hl d (k + 1) h1 (by omega), hd, lastN, if_pos hle, hd1]
    congr 2; omega
   ·rw [if_neg hle, hd, lastN, if_neg hle]; rfl
  ·rw [if_neg (by omega)]
   have hd : l.drop k = [l[k]] := by rw [List.drop_eq_getElem_cons hk, List.drop_eq_nil_of_le (by omega)]
   rw [hd]; rfl
theorem rLast_eq {l : List Int} {n : Int} (hl : l.length ≤ 1000) (hne : l ≠ []) : prLast l n = some (lastN l n : Int) := by
 have hlen := List.length_pos_iff.2 hne
 have h := rLast_go (n := n) hl 1000000 0 hlen (by omega)
 rw [List.drop_zero, Nat.zero_add] at h
 exact h
theorem rOf_eq {l : List Tf} (h : VL l) (hl : l.length ≤ 3) (d : Int) : prOf l d = some (ofN l d) := by
 have hne : l.map (·.From) ≠ [] := fun e => h.ne (List.map_eq_nil_iff.1 e)
 obtain ⟨h1, _⟩ := h.of d
 refine (loopApp0 (l := l) (fun t : Tf => t.From) (F := prOf_L0 l d) (fun acc => ((prLast acc d).bind fun r => (idx l r).bind fun v => some v)) (fun d k acc a ha hac => by
  have hk := (List.getElem?_eq_some_iff.1 ha).1
  rw [prOf_L0, if_pos (by omega), idx_at ha, Option.bind_some, gd_pos (show acc.length < 1048576 by omega), gd_pos (fI (by omega))]) (fun d acc => by rw [prOf_L0, if_neg (Int.lt_irrefl _)]) (d := l.length + 1) (by omega)).trans ?_
 rw [rLast_eq (by rw [List.length_map]; omega) hne, Option.bind_some, idx_at h1, Option.bind_some]
theorem prod_le {x y : Int} (hx : 0 ≤ x ∧ x ≤ 100) (hy : 0 ≤ y ∧ y ≤ 100) : 0 ≤ x * y ∧ x * y ≤ 10000 := by
 refine ⟨Int.mul_nonneg hx.1 hy.1, ?_⟩
 have h1 : x * y ≤ 100 * y := Int.mul_le_mul_of_nonneg_right hx.2 hy.1
 omega
theorem line_rng {a b x y n : Int} (h1 : 0 ≤ a ∧ a ≤ n) (h2 : n ≤ b ∧ b ≤ 100) (hab : a < b) (hx : 0 ≤ x ∧ x ≤ 100) (hy : 0 ≤ y ∧ y ≤ 100) : 0 ≤ lineN a b x y n ∧ lineN a b x y n ≤ 100 :=
 ⟨line_ge h1.2 h2.1 hab (Int.le_refl _) hx.1 hy.1, line_le h1.2 h2.1 hab hx.1 hy.1 hx.2 hy.2⟩
theorem Cnt.rng {t : Tf} (h : VT t) {i : Nat} (hi : i < t.Counts.length) : 0 ≤ nth t.Counts i ∧ nth t.Counts i ≤ 100 := h.cts.2.2 _ (List.mem_of_getElem? (nth_some hi))
theorem rLoss_eq {t : Tf} (h : VT t) (hf : ¬ tooManyN t) {crop day n : Int} (h0 : 0 ≤ crop) (h1 : crop < t.Rates.length) (hn : 0 ≤ n) (h100 : n ≤ 100) : prLoss t crop day n = some (lossN t.Counts (ratesN t crop day) n) := by
 have hfew := few hf
 obtain ⟨wks, q1, q2, q3⟩ := h.rates h0 h1 day
 obtain ⟨b1, b2⟩ := q3.btw hn h100
 have hl := q3.lt n
 have hlr : lastN t.Counts n < (ratesN t crop day).length := by rw [q3.len]; exact hl
 have hi := q3.at hl
 unfold prLoss
 rw [show crop = ((crop.toNat : Nat) : Int) by omega, idx_at q1, Option.bind_some, rLast_eq (by omega) (ne_of_head h.wks.2.1), Option.bind_some, ← show crop = ((crop.toNat : Nat) : Int) by omega, idx_at q2, Option.bind_some, rLast_eq (by omega) h.cnt.ne, Option.bind_some, nth_at hl, Option.bind_some]
 unfold lossN
 dsimp only
 by_cases he : nth t.Counts (lastN t.Counts n) = n
 ·rw [if_pos he, if_pos he, nth_at hlr, Option.bind_some]
 ·obtain ⟨b3, b4⟩ := b2 he
  have hlr2 : lastN t.Counts n + 1 < (ratesN t crop day).length := by rw [q3.len]; exact b3
  have hi2 := q3.at b3
  have c1 := Cnt.rng h hl
  have c2 := Cnt.rng h b3
  have hcast : ((lastN t.Counts n : Nat) : Int) + 1 = ((lastN t.Counts n + 1 : Nat) : Int) := by omega
  rw [if_neg he, if_neg he, gd_pos (fI (by omega)), hcast, nth_at b3, Option.bind_some, nth_at hlr, Option.bind_some, nth_at hlr2]
  have hline := line_rng ⟨c1.1, b1⟩ ⟨Int.le_of_lt b4, c2.2⟩ (by omega) hi hi2
  unfold lineN at hline ⊢
  generalize nth t.Counts (lastN t.Counts n) = a at *
  generalize nth t.Counts (lastN t.Counts n + 1) = b at *
  generalize nth (ratesN t crop day) (lastN t.Counts n) = x at *
  generalize nth (ratesN t crop day) (lastN t.Counts n + 1) = y at *
  have p1 := prod_le hi (show 0 ≤ b - n ∧ b - n ≤ 100 by omega)
  have p2 := prod_le hi2 (show 0 ≤ n - a ∧ n - a ≤ 100 by omega)
  rw [gd_pos (fI (by omega)), gd_pos (by omega), gd_pos (by omega), gd_pos (fI (by omega)), gd_pos (fI (by omega)), Option.bind_some, gd_pos (fI (by omega)), gd_pos (by omega), gd_pos (by omega), gd_pos (fI (by omega)), gd_pos (fI (by omega)), gd_pos (fI (by omega)), gd_pos (by omega), gd_pos (by omega), gd_pos (fI (by omega))]
theorem rPart_eq {l : List Tf} (hf : faultN l = 0) {crop day n : Int} (h0 : 0 ≤ crop) (h1 : crop < cropsN l) (hn : 0 ≤ n) (h100 : n ≤ 100) : prPart l crop day n = some (partN l crop day n) := by
 obtain ⟨hm, hv⟩ := faultN_zero.1 hf
 obtain ⟨h3, ht⟩ := not_many hm
 have hT := hv.vof day
 obtain ⟨r1, r2⟩ := (hv.rts h0 h1 day).loss_rng hn h100
 have hls := hT.lst
 unfold prPart
 rw [rOf_eq hv h3, Option.bind_some, rLoss_eq hT (ht _ (hv.of day).2) h0 (by rw [hv.cof]; exact h1) hn h100, Option.bind_some]
 unfold partN partT payTN
 generalize lossN (ofN l day).Counts (ratesN (ofN l day) crop day) n = x at *
 generalize (ofN l day).Least = y at *
 by_cases h4 : x < y
 ·rw [if_pos h4, if_pos h4]
 ·rw [if_neg h4, if_neg h4]
  by_cases h5 : (ofN l day).Whole = true
  ·rw [if_pos h5, if_pos h5]
  ·rw [if_neg h5, if_neg h5, gd_pos (fI (by omega))]
theorem rCrops_eq {l : List Tf} (h : l ≠ []) : prCrops l = some (cropsN l : Int) := by
 obtain ⟨t, h1, h2⟩ := head_zero h
 unfold prCrops; rw [idx_zero h1, Option.bind_some, h2]
end
end Go.Proofs.Ytbhdgedghfibcaa

namespace Go.Proofs.Ytbhdgedghfibcaa
open _root_.Go.Proofs.Try
open Go.Abs
set_option maxRecDepth 100000
noncomputable section
theorem isNaN_eq {x : Int} : pisNaN x = some false := by unfold pisNaN; simp
theorem sNaN_eq {x : Int} : psNaN x = some false := by unfold psNaN; simp
theorem less_ev {x y : Int} : Ev (pless x y) (x < y) := by
 unfold pless
 rw [isNaN_eq, Option.bind_some, if_neg (by simp)]
 exact Ev.dec Iff.rfl
theorem fU {n : Int} (h : 0 ≤ n ∧ n < 18446744073709551616) : fitsP .u64 n := h
theorem nth_le {l : List Int} (hp : l.Pairwise (· < ·)) {i j : Nat} (hij : i ≤ j) (hj : j < l.length) : nth l i ≤ nth l j := by
 rcases Nat.lt_or_ge i j with h | h
 ·exact Int.le_of_lt (pw_lt hp (nth_some (by omega)) (nth_some hj) h)
 ·rw [show i = j by omega]; exact Int.le_refl _
theorem bsearch_go {l : List Int} {x : Int} (hp : l.Pairwise (· < ·)) (hl : l.length ≤ 1048576) : ∀ d (i j : Nat), i ≤ j → j ≤ l.length → j - i < d → (∀ m, m < i → nth l m < x) → (∀ m, j ≤ m → m < l.length → x ≤ nth l m) →
  ∃ (k : Nat) (f : Bool), pbsearch_L0 l x d (i : Int) (j : Int) = some ((k : Int), f) ∧ k ≤ l.length ∧ (∀ m, m < k → nth l m < x) ∧ (∀ m, k ≤ m → m < l.length → x ≤ nth l m) ∧ (f = true ↔ k < l.length ∧ nth l k = x)
 | 0, i, j, _, _, h, _, _ => by omega
 | d + 1, i, j, hij, hj, h, hlo, hhi => by
  rw [pbsearch_L0]
  by_cases hlt : i < j
  ·have e1 : wrapZ .u64 ((i : Int) + (j : Int)) = ((i + j : Nat) : Int) := by rw [wz (fU (by omega))]; omega
   have e2 : ((i + j : Nat) : Int) / 2 = (((i + j) / 2 : Nat) : Int) := by omega
   have hm : (i + j) / 2 < l.length := by omega
   have e3 : wrapZ .i64 (((i + j) / 2 : Nat) : Int) = (((i + j) / 2 : Nat) : Int) := wz (fI (by omega))
   rw [if_pos (by omega), gd_pos (fI (by omega)), e1, gd_pos (by omega), gd_pos (by omega), gd_pos (by omega), e2, gd_pos (fU (by omega)), e3, nth_at hm, Option.bind_some]
   generalize hmid : (i + j) / 2 = md at *
   obtain ⟨b, h1, h2⟩ := less_ev (x := nth l md) (y := x)
   rw [h1, Option.bind_some]
   cases b with
   | true =>
    rw [if_pos rfl, gd_pos (fI (by omega)), show (md : Int) + 1 = ((md + 1 : Nat) : Int) by omega]
    have h3 := h2.1 rfl
    exact bsearch_go hp hl d (md + 1) j (by omega) hj (by omega) (fun m hm' => by have := nth_le hp (show m ≤ md by omega) hm; omega) hhi
   | false =>
    rw [if_neg (by simp)]
    have h3 : x ≤ nth l md := by
     rcases Int.lt_or_le (nth l md) x with h4 | h4
     ·have := h2.2 h4; cases this
     ·exact h4
    exact bsearch_go hp hl d i md (by omega) (by omega) (by omega) hlo (fun m hm' hml => by have := nth_le hp hm' hml; omega)
  ·have hij' : i = j := by omega
   subst hij'
   rw [if_neg (Int.lt_irrefl _)]
   by_cases hil : i < l.length
   ·rw [if_pos (by omega), nth_at hil, Option.bind_some]
    by_cases he : nth l i = x
    ·rw [if_pos he]; exact ⟨i, true, rfl, hj, hlo, hhi, ⟨fun _ => ⟨hil, he⟩, fun _ => rfl⟩⟩
    ·rw [if_neg he, Option.bind_some, sNaN_eq, Option.bind_some, if_neg (by simp)]
     exact ⟨i, false, rfl, hj, hlo, hhi, ⟨fun h => (by cases h), fun h => absurd h.2 he⟩⟩
   ·rw [if_neg (by omega)]
    exact ⟨i, false, rfl, hj, hlo, hhi, ⟨fun h => (by cases h), fun h => absurd h.1 hil⟩⟩
theorem bsearch_eq {l : List Int} {x : Int} (hp : l.Pairwise (· < ·)) (hl : l.length ≤ 1048576) :
  ∃ (k : Nat) (f : Bool), pbsearch l x = some ((k : Int), f) ∧ k ≤ l.length ∧ (∀ m, m < k → nth l m < x) ∧ (∀ m, k ≤ m → m < l.length → x ≤ nth l m) ∧ (f = true ↔ k < l.length ∧ nth l k = x) :=
 bsearch_go hp hl (l.length + 1) 0 l.length (Nat.zero_le _) (Nat.le_refl _) (by omega) (fun m h => by omega) (fun m h1 h2 => by omega)
theorem head_nth {l : List Int} {z : Int} (h : l.head? = some z) : nth l 0 = z ∧ 0 < l.length := by
 cases l with
 | nil => cases h
 | cons a l => cases h; exact ⟨rfl, Nat.succ_pos _⟩
theorem last_eq {l : List Int} {n : Int} (hp : l.Pairwise (· < ·)) (hh : l.head? = some 0) (hl : l.length ≤ 1000) (hn : 0 ≤ n ∧ n ≤ 1000) : plast l n = some (lastN l n : Int) := by
 obtain ⟨k, f, h1, h2, h3, h4, _⟩ := bsearch_eq (x := n + 1) hp (by omega)
 obtain ⟨e0, l0⟩ := head_nth hh
 have hk : 0 < k := by
  rcases Nat.eq_zero_or_pos k with h | h
  ·have := h4 0 (by omega) l0; omega
  ·exact h
 have hu : lastN l n = k - 1 := lastN_uniq hp (by omega) (fun x hx => by rw [← nth_of hx]; have := h3 (k - 1) (by omega); omega) (fun x hx => by
  have hlt := (List.getElem?_eq_some_iff.1 hx).1
  rw [← nth_of hx]; have := h4 (k - 1 + 1) (by omega) hlt; omega) (fun x hx => by rw [hh] at hx; cases hx; exact hn.1)
 unfold plast
 rw [gd_pos (fI (by omega)), h1, Option.bind_some, gd_pos (fI (by show _ ≤ (k : Int) - 1 ∧ _; omega)), hu]
 congr 1
 show (k : Int) - 1 = _
 omega
theorem tfOf_eq {l : List Tf} (h : VL l) (hl : l.length ≤ 3) {d : Int} (hd : 0 ≤ d ∧ d ≤ 120) : ptfOf l d = some (ofN l d) := by
 obtain ⟨h1, _⟩ := h.of d
 unfold ptfOf
 rw [froms_eq (fewS hl (by omega)), Option.bind_some, last_eq h.pw h.hd (by rw [List.length_map]; omega) (by omega), Option.bind_some, idx_at h1, Option.bind_some]
theorem loss_eq {t : Tf} (h : VT t) (hf : ¬ tooManyN t) {hh : Ht} (h0 : 0 ≤ hh.crop) (h1 : hh.crop < t.Rates.length) (hn : 0 ≤ hh.Count) (h100 : hh.Count ≤ 100) (hd : 0 ≤ hh.Day ∧ hh.Day ≤ 120) : ploss t hh = some (lossN t.Counts (ratesN t hh.crop hh.Day) hh.Count) := by
 obtain ⟨day, n, crop⟩ := hh
 dsimp only at h0 h1 hn h100 hd
 have hfew := few hf
 obtain ⟨wks, q1, q2, q3⟩ := h.rates h0 h1 day
 have hc := h.cnt
 obtain ⟨b1, b2⟩ := q3.btw hn h100
 obtain ⟨k, f, k1, k2, k3, k4, k5⟩ := bsearch_eq (x := n) h.cts.1 (show t.Counts.length ≤ 1048576 by omega)
 obtain ⟨e0, l0⟩ := head_nth h.cts.2.1
 unfold ploss
 dsimp only
 rw [show idx t.Rates crop = idx t.Rates ((crop.toNat : Nat) : Int) by rw [Int.toNat_of_nonneg h0], idx_at q1, Option.bind_some, last_eq h.wks.1 h.wks.2.1 (by omega) (by omega), Option.bind_some, idx_at q2, Option.bind_some, k1, Option.bind_some]
 dsimp only
 by_cases hfl : f = true
 ·obtain ⟨c1, c2⟩ := k5.1 hfl
  have hu : lastN t.Counts n = k := by rw [← c2]; exact hc.last_at c1
  rw [if_pos hfl, nth_at (by rw [q3.len]; exact c1), Option.bind_some]
  unfold lossN
  dsimp only
  rw [hu, if_pos c2]
 ·have hne : ∀ m, m < t.Counts.length → nth t.Counts m ≠ n := fun m hm he => by
   rcases Nat.lt_or_ge m k with h6 | h6
   ·have := k3 m h6; omega
   ·rcases Nat.lt_or_ge k m with h7 | h7
    ·have h8 := k4 k (Nat.le_refl _) (by omega)
     have := pw_lt h.cts.1 (nth_some (show k < t.Counts.length by omega)) (nth_some hm) h7
     omega
    ·have : m = k := by omega
     subst this
     exact hfl (k5.2 ⟨hm, he⟩)
  obtain ⟨b3, b4⟩ := b2 (hne _ (hc.lt n))
  have hu : lastN t.Counts n + 1 = k := by
   rcases Nat.lt_trichotomy (lastN t.Counts n + 1) k with h6 | h6 | h6
   ·have := k3 _ h6; omega
   ·exact h6
   ·have := k4 (lastN t.Counts n) (by omega) (hc.lt n)
    have := hne _ (hc.lt n)
    omega
  subst hu
  have hl := hc.lt n
  have hlr : lastN t.Counts n < (ratesN t crop day).length := by rw [q3.len]; exact hl
  have hlr2 : lastN t.Counts n + 1 < (ratesN t crop day).length := by rw [q3.len]; exact b3
  have hi := q3.at hl
  have hi2 := q3.at b3
  have c1 := Cnt.rng h hl
  have c2 := Cnt.rng h b3
  have hcast : ((lastN t.Counts n + 1 : Nat) : Int) - 1 = ((lastN t.Counts n : Nat) : Int) := by omega
  rw [if_neg hfl, gd_pos (fI (by omega)), hcast, nth_at hl, Option.bind_some, nth_at b3, Option.bind_some, gd_pos (fI (by omega)), nth_at hlr, Option.bind_some, nth_at hlr2]
  have hline := line_rng ⟨c1.1, b1⟩ ⟨Int.le_of_lt b4, c2.2⟩ (by omega) hi hi2
  unfold lossN
  dsimp only
  rw [if_neg (hne _ hl)]
  unfold lineN at hline ⊢
  generalize nth t.Counts (lastN t.Counts n) = a at *
  generalize nth t.Counts (lastN t.Counts n + 1) = b at *
  generalize nth (ratesN t crop day) (lastN t.Counts n) = x at *
  generalize nth (ratesN t crop day) (lastN t.Counts n + 1) = y at *
  have p1 := prod_le hi (show 0 ≤ b - n ∧ b - n ≤ 100 by omega)
  have p2 := prod_le hi2 (show 0 ≤ n - a ∧ n - a ≤ 100 by omega)
  rw [gd_pos (fI (by omega)), gd_pos (by omega), gd_pos (by omega), gd_pos (fI (by omega)), Option.bind_some, gd_pos (fI (by omega)), gd_pos (by omega), gd_pos (by omega), gd_pos (fI (by omega)), gd_pos (fI (by omega)), gd_pos (fI (by omega)), gd_pos (by omega), gd_pos (by omega), gd_pos (fI (by omega))]
theorem tfPart_eq {t : Tf} (h : VT t) (hf : ¬ tooManyN t) {hh : Ht} (h0 : 0 ≤ hh.crop) (h1 : hh.crop < t.Rates.length) (hn : 0 ≤ hh.Count) (h100 : hh.Count ≤ 100) (hd : 0 ≤ hh.Day ∧ hh.Day ≤ 120) : ptfPart t hh = some (partT t hh.crop hh.Day hh.Count) := by
 obtain ⟨_, _, _, q3⟩ := h.rates h0 h1 hh.Day
 have hr := q3.loss_rng hn h100
 have hls := h.lst
 unfold ptfPart partT payTN
 rw [loss_eq h hf h0 h1 hn h100 hd, Option.bind_some]
 generalize lossN t.Counts (ratesN t hh.crop hh.Day) hh.Count = x at *
 by_cases h4 : x < t.Least
 ·rw [if_pos h4, if_pos h4]
 ·rw [if_neg h4, if_neg h4]
  unfold pmanner
  by_cases h5 : t.Whole = true
  ·rw [if_pos h5, if_pos h5, Option.bind_some]; rfl
  ·rw [if_neg h5, if_neg h5, Option.bind_some]
   show Option.bind (paboveLeast t x) _ = _
   unfold paboveLeast
   rw [gd_pos (fI (by omega)), Option.bind_some]
end
end Go.Proofs.Ytbhdgedghfibcaa

namespace Go.Proofs.Ytbhdgedghfibcaa
open _root_.Go.Proofs.Try
open Go.Abs
set_option maxRecDepth 100000
noncomputable section
def MemoOk (l : List Tf) (M : Option (Ht → Option Int)) : Prop := ∃ f, M = some f ∧ ∀ h v, f h = some v → v = partN l h.crop h.Day h.Count
structure HtOk (l : List Tf) (h : Ht) : Prop where
 c : 0 ≤ h.crop ∧ h.crop < cropsN l
 n : 0 ≤ h.Count ∧ h.Count ≤ 100
 d : 0 ≤ h.Day ∧ h.Day ≤ 120
theorem crops_rng {l : List Tf} (hf : faultN l = 0) : 0 < cropsN l ∧ cropsN l ≤ 3 := by
 obtain ⟨hm, hv⟩ := faultN_zero.1 hf
 obtain ⟨h3, ht⟩ := not_many hm
 obtain ⟨t, h1, h2⟩ := head_zero hv.ne
 have hmem := List.mem_of_getElem? h1
 have := few (ht t hmem)
 have := List.length_pos_iff.2 (hv.vt t hmem).rne
 omega
theorem part_eq {l : List Tf} (hf : faultN l = 0) {M : Option (Ht → Option Int)} (hM : MemoOk l M) {h : Ht} (hh : HtOk l h) : ∃ M', ppart ⟨l, M⟩ h = some (partN l h.crop h.Day h.Count, M') ∧ MemoOk l M' := by
 obtain ⟨hm, hv⟩ := faultN_zero.1 hf
 obtain ⟨h3, ht⟩ := not_many hm
 have hcr := crops_rng hf
 obtain ⟨f, rfl, hf2⟩ := hM
 have hc := hh.c
 have hn := hh.n
 have hd := hh.d
 unfold ppart
 rw [gd_pos (show MK.fit h from ⟨fI (by omega), fI (by omega), fI (by omega), trivial⟩)]
 cases hg : mget (some f) h with
 | some v =>
  rw [mcase_some rfl]
  have : v = _ := hf2 h v hg
  subst this
  exact ⟨_, rfl, f, rfl, hf2⟩
 | none =>
  rw [mcase_none rfl, tfOf_eq hv h3 hd, Option.bind_some, tfPart_eq (hv.vof _) (ht _ (hv.of _).2) hc.1 (by rw [hv.cof]; exact hc.2) hn.1 hn.2 hd, Option.bind_some, gd_pos (show MK.fit h from ⟨fI (by omega), fI (by omega), fI (by omega), trivial⟩)]
  refine ⟨_, rfl, _, rfl, fun k v hk => ?_⟩
  by_cases hkh : k = h
  ·subst hkh
   rw [if_pos rfl] at hk
   exact (Option.some.inj hk).symm
  ·rw [if_neg hkh] at hk; exact hf2 k v hk
theorem memo0 {l : List Tf} : MemoOk l (some fun _ => none) := ⟨_, rfl, fun _ _ h => by cases h⟩
theorem open_bad {l : List Tf} (hf : faultN l ≠ 0) : popen l = some (⟨[], none⟩, faultN l) := by unfold popen; rw [check_eq, Option.bind_some, if_neg hf]
theorem open_ok {l : List Tf} (hf : faultN l = 0) : popen l = some (⟨l, some fun _ => none⟩, 0) := by unfold popen; rw [check_eq, Option.bind_some, if_pos hf]
theorem hasCrop_ev {l : List Tf} (hf : faultN l = 0) {n : Int} : Ev (phasCrop l n) (0 ≤ n ∧ n < cropsN l) := by
 obtain ⟨hm, hv⟩ := faultN_zero.1 hf
 obtain ⟨t, h1, h2⟩ := head_zero hv.ne
 have := crops_rng hf
 refine Ev.bind (idx_zero h1) ?_
 rw [← h2]
 exact (isIndex_ev (by omega)).ret
structure ClaimN (l : List Tf) (c : Clm) : Prop where
 crop : 0 ≤ c.Crop ∧ c.Crop < cropsN l
 val : 0 ≤ c.Value ∧ c.Value ≤ 100000
 day : 0 ≤ c.Day.Lo ∧ c.Day.Lo ≤ c.Day.Hi ∧ c.Day.Hi ≤ 120 ∧ c.Day.Hi - c.Day.Lo ≤ 10
 cnt : 0 ≤ c.Count.Lo ∧ c.Count.Lo ≤ c.Count.Hi ∧ c.Count.Hi ≤ 100
theorem within_ev {r : Rg} {p : Int → Option Bool} {q : Int → Prop} (hp : ∀ n, Ev (p n) (q n)) : Ev (pwithin r p) (r.Lo ≤ r.Hi ∧ q r.Lo ∧ q r.Hi) := Ev.ite fun _ => Ev.and (hp _) fun _ => (hp _).ret
theorem validClaim_ev {l : List Tf} (hf : faultN l = 0) {c : Clm} : Ev (pvalidClaim l c) (ClaimN l c) := by
 refine Ev.imp (Ev.and (hasCrop_ev hf) fun _ => Ev.and has_ev fun _ => Ev.and (K := c.Day.Hi - c.Day.Lo ≤ 10 ∧ (c.Count.Lo ≤ c.Count.Hi ∧ (0 ≤ c.Count.Lo ∧ c.Count.Lo ≤ 100) ∧ (0 ≤ c.Count.Hi ∧ c.Count.Hi ≤ 100))) (within_ev (fun _ => isDay_ev)) fun hd => Ev.gd (fI (by omega)) (Ev.ite fun _ => (within_ev (fun _ => isCount_ev)).ret)) ?_
 dsimp only
 exact ⟨fun ⟨h1, h2, h3, h4⟩ => ⟨h1, h2, by omega, by omega⟩, fun h => by
  have h3 := h.day
  have h4 := h.cnt
  exact ⟨h.crop, h.val, by omega, by omega⟩⟩
theorem rIsClaim_ev {l : List Tf} (hf : faultN l = 0) {c : Clm} : Ev (prIsClaim l c) (ClaimN l c) := by
 obtain ⟨hm, hv⟩ := faultN_zero.1 hf
 have hcr := crops_rng hf
 refine Ev.imp (P := (0 ≤ c.Crop ∧ c.Crop ≤ (cropsN l : Int) - 1) ∧ (0 ≤ c.Value ∧ c.Value ≤ 100000) ∧ 0 ≤ c.Day.Lo ∧ c.Day.Lo ≤ c.Day.Hi ∧ c.Day.Hi ≤ 120 ∧ c.Day.Hi - c.Day.Lo ≤ 10 ∧ 0 ≤ c.Count.Lo ∧ c.Count.Lo ≤ c.Count.Hi ∧ c.Count.Hi ≤ 100) (Ev.bind (rCrops_eq hv.ne) (Ev.gd (fI (by omega)) (Ev.and In_ev fun _ => Ev.and In_ev fun _ => Ev.ite fun h0 => Ev.ite fun h1 => Ev.ite fun h2 => Ev.gd (fI (by omega)) (Ev.ite fun _ => Ev.ite fun _ => Ev.ite fun _ => Ev.dec Iff.rfl)))) ?_
 exact ⟨fun ⟨h1, h2, h3⟩ => ⟨by omega, h2, by omega, by omega⟩, fun h => by
  have h1 := h.crop
  have h3 := h.day
  have h4 := h.cnt
  exact ⟨by omega, h.val, by omega⟩⟩
open Classical in
def claimN (l : List Tf) (c : Clm) : Int := if faultN l = 0 then (if ClaimN l c then 0 else 2) else faultN l
theorem lClaimed_eq {l : List Tf} {c : Clm} : plClaimed l c = some (claimN l c) := by
 unfold plClaimed claimN
 rw [lFault_eq, Option.bind_some]
 by_cases hf : faultN l = 0
 ·rw [if_pos hf, if_pos hf]
  refine (rIsClaim_ev hf).pick (fun h => ?_) fun h => ?_
  ·rw [if_pos rfl, if_pos h]
  ·rw [if_neg (by simp), if_neg h]
 ·rw [if_neg hf, if_neg hf]
theorem claimN_zero {l : List Tf} {c : Clm} : claimN l c = 0 ↔ faultN l = 0 ∧ ClaimN l c := by
 unfold claimN
 by_cases hf : faultN l = 0
 ·rw [if_pos hf]
  by_cases h : ClaimN l c
  ·rw [if_pos h]; exact ⟨fun _ => ⟨hf, h⟩, fun _ => rfl⟩
  ·rw [if_neg h]; exact ⟨fun h' => by omega, fun h' => absurd h'.2 h⟩
 ·rw [if_neg hf]; exact ⟨fun h => absurd h hf, fun h => absurd h.1 hf⟩
def TruthN (c : Clm) (t : Tr) : Prop := (c.Day.Lo ≤ t.Day ∧ t.Day ≤ c.Day.Hi) ∧ (c.Count.Lo ≤ t.Count ∧ t.Count ≤ c.Count.Hi)
def payN (l : List Tf) (c : Clm) (t : Tr) : Int := c.Value * partN l c.Crop t.Day t.Count / 100
theorem openFor_eq {l : List Tf} {cs : List Clm} (hf : faultN l = 0) (h5 : cs.length ≤ 5) (hc : ∀ c ∈ cs, ClaimN l c) : popenFor l cs = some (⟨l, some fun _ => none⟩, 0) := by
 unfold popenFor
 rw [open_ok hf, Option.bind_some, if_pos rfl, if_neg (by omega), (eachCl_ev (fun c _ => validClaim_ev hf) (fewS h5 (by omega))).some_of hc, Option.bind_some, if_pos rfl]
theorem openFor_no {l : List Tf} {cs : List Clm} (hf : faultN l = 0) (h5 : cs.length ≤ 5) (hc : ¬ ∀ c ∈ cs, ClaimN l c) : popenFor l cs = some (⟨[], none⟩, 2) := by
 unfold popenFor
 rw [open_ok hf, Option.bind_some, if_pos rfl, if_neg (by omega), (eachCl_ev (fun c _ => validClaim_ev hf) (fewS h5 (by omega))).some_not hc, Option.bind_some, if_neg (by simp)]
theorem openFor_bad {l : List Tf} {cs : List Clm} (hf : faultN l ≠ 0) : popenFor l cs = some (⟨[], none⟩, faultN l) := by
 unfold popenFor
 rw [open_bad hf, Option.bind_some, if_neg hf]
theorem htOk {l : List Tf} {c : Clm} (hc : ClaimN l c) {t : Tr} (ht : TruthN c t) : HtOk l ⟨t.Day, t.Count, c.Crop⟩ := by
 have h1 := hc.day
 have h2 := hc.cnt
 obtain ⟨h3, h4⟩ := ht
 exact ⟨hc.crop, by show 0 ≤ t.Count ∧ t.Count ≤ 100; omega, by show 0 ≤ t.Day ∧ t.Day ≤ 120; omega⟩
theorem part_htOk {l : List Tf} (hf : faultN l = 0) {h : Ht} (hh : HtOk l h) : 0 ≤ partN l h.crop h.Day h.Count ∧ partN l h.crop h.Day h.Count ≤ 100 :=
 (faultN_zero.1 hf).2.part_rng hh.c.1 hh.c.2 hh.n.1 hh.n.2 _
theorem val_le {v p : Int} (hv : 0 ≤ v ∧ v ≤ 100000) (hp : 0 ≤ p ∧ p ≤ 100) : 0 ≤ v * p ∧ v * p ≤ 10000000 := by
 refine ⟨Int.mul_nonneg hv.1 hp.1, ?_⟩
 have h1 : v * p ≤ 100000 * p := Int.mul_le_mul_of_nonneg_right hv.2 hp.1
 omega
theorem payment_eq {l : List Tf} (hf : faultN l = 0) {M : Option (Ht → Option Int)} (hM : MemoOk l M) {c : Clm} (hc : ClaimN l c) {t : Tr} (ht : TruthN c t) : ∃ M', ppayment ⟨l, M⟩ c t = some (payN l c t, M') ∧ MemoOk l M' := by
 have hh := htOk hc ht
 obtain ⟨M', h1, h2⟩ := part_eq hf hM hh
 have hp := part_htOk hf hh
 have hv := val_le hc.val hp
 have hval := hc.val
 refine ⟨M', ?_, h2⟩
 unfold ppayment
 rw [h1, Option.bind_some]
 dsimp only at hp hv ⊢
 rw [gd_pos (by omega), gd_pos (by omega), gd_pos (fI (by omega)), gd_pos (by omega), gd_pos (by omega), gd_pos (fI (by omega))]
 rfl
theorem rPay_eq {l : List Tf} (hf : faultN l = 0) {c : Clm} (hc : ClaimN l c) {t : Tr} (ht : TruthN c t) : prPay l c t = some (payN l c t) := by
 have hh := htOk hc ht
 have hp := part_htOk hf hh
 have hv := val_le hc.val hp
 have hval := hc.val
 unfold prPay
 rw [rPart_eq hf hh.c.1 hh.c.2 hh.n.1 hh.n.2, Option.bind_some]
 dsimp only at hp hv ⊢
 rw [gd_pos (by omega), gd_pos (by omega), gd_pos (fI (by omega)), gd_pos (by omega), gd_pos (by omega), gd_pos (fI (by omega))]
 rfl
theorem lClaim_eq {c : Clm} : plClaim c = some c := rfl
theorem Least_go {l : List Tf} (hf : faultN l = 0) {c d : Int} (hc : 0 ≤ c ∧ c < cropsN l) (hd : 0 ≤ d ∧ d ≤ 120) {r : Wk × Int} (hr : r.1.tariffs = l) : ∀ fu (k : Nat) M, k ≤ 101 → 101 - k < fu → MemoOk l M → (∀ j : Int, 0 ≤ j → j < k → partN l c d j = 0) →
  (∃ n : Int, 0 ≤ n ∧ n ≤ 100 ∧ pLeast_L0 c d r fu M (k : Int) = some (n, 0) ∧ 0 < partN l c d n ∧ ∀ j, 0 ≤ j → j < n → partN l c d j = 0) ∨ (pLeast_L0 c d r fu M (k : Int) = some (0, 7) ∧ ∀ j, 0 ≤ j → j ≤ 100 → partN l c d j = 0)
 | 0, k, M, _, h, _, _ => by omega
 | fu + 1, k, M, hk, h, hM, hz => by
  rw [pLeast_L0]
  by_cases h1 : k = 101
  ·subst h1
   rw [if_neg (by omega)]
   exact .inr ⟨rfl, fun j h2 h3 => hz j h2 (by omega)⟩
  ·have hh : HtOk l ⟨d, k, c⟩ := ⟨hc, by show 0 ≤ (k : Int) ∧ (k : Int) ≤ 100; omega, hd⟩
   obtain ⟨M', h2, h3⟩ := part_eq hf hM hh
   have hp := part_htOk hf hh
   dsimp only at h2 hp
   rw [if_pos (by omega), hr, h2, Option.bind_some]
   dsimp only
   by_cases h4 : 0 < partN l c d k
   ·rw [if_pos h4]
    exact .inl ⟨k, by omega, by omega, rfl, h4, hz⟩
   ·rw [if_neg h4, gd_pos (fI (by omega)), show (k : Int) + 1 = ((k + 1 : Nat) : Int) by omega]
    exact Least_go hf hc hd hr fu (k + 1) M' (by omega) (by omega) h3 fun j h5 h6 => by
     rcases Int.lt_or_le j k with h7 | h7
     ·exact hz j h5 h7
     ·have : j = k := by omega
      subst this; omega
theorem Least_ok {l : List Tf} (hf : faultN l = 0) {c d : Int} (hc : 0 ≤ c ∧ c < cropsN l) (hd : 0 ≤ d ∧ d ≤ 120) :
  (∃ n : Int, 0 ≤ n ∧ n ≤ 100 ∧ pLeast l c d = some (n, 0) ∧ 0 < partN l c d n ∧ ∀ j, 0 ≤ j → j < n → partN l c d j = 0) ∨ (pLeast l c d = some (0, 7) ∧ ∀ j, 0 ≤ j → j ≤ 100 → partN l c d j = 0) := by
 have h := Least_go hf hc hd (r := (⟨l, some fun _ => none⟩, 0)) rfl 102 0 _ (by omega) (by omega) memo0 (fun j h1 h2 => by omega)
 unfold pLeast
 rw [open_ok hf, Option.bind_some, if_pos rfl, (hasCrop_ev hf).some_of hc, Option.bind_some, if_pos rfl, isDay_ev.some_of hd, Option.bind_some, if_pos rfl]
 exact h
end
end Go.Proofs.Ytbhdgedghfibcaa

namespace Go.Proofs.Ytbhdgedghfibcaa
open _root_.Go.Proofs.Try
open Go.Abs
set_option maxRecDepth 100000
noncomputable section
theorem aw : pawake = some true := rfl
def OkL (l : List Tf) : Prop := l.length ≤ maxLen ∧ ∀ a ∈ l, ok_Tf a
end
end Go.Proofs.Ytbhdgedghfibcaa

namespace Go.Proofs.Ytbhdgedghfibcaa
open _root_.Go.Proofs.Try
open Go.Abs
set_option maxRecDepth 100000
noncomputable section
theorem loopFold {α β S : Type} {l : List α} (f : S → α → S) (F : Nat → S → Int → Option β) (fin : S → Option β)
  (hstep : ∀ d (k : Nat) s a, l[k]? = some a → F (d + 1) s (k : Int) = F d (f s a) ((k : Int) + 1)) (hend : ∀ d s, F (d + 1) s (l.length : Int) = fin s) :
  ∀ d (k : Nat) s, k ≤ l.length → l.length - k < d → F d s (k : Int) = fin ((l.drop k).foldl f s)
 | 0, k, _, _, h => by omega
 | d + 1, k, s, hk, h => by
  by_cases hkn : k = l.length
  ·subst hkn
   rw [hend, List.drop_length]; rfl
  ·have hlt : k < l.length := by omega
   rw [hstep d k s _ (List.getElem?_eq_getElem hlt), show (k : Int) + 1 = ((k + 1 : Nat) : Int) by omega, loopFold f F fin hstep hend d (k + 1) _ (by omega) (by omega), List.drop_eq_getElem_cons hlt]; rfl
def minL : List Int → Int | [] => 0 | x :: l => l.foldl min x
def maxL : List Int → Int | [] => 0 | x :: l => l.foldl max x
theorem foldl_min : ∀ (l : List Int) (x : Int), (l.foldl min x = x ∨ l.foldl min x ∈ l) ∧ l.foldl min x ≤ x ∧ ∀ y ∈ l, l.foldl min x ≤ y
 | [], x => ⟨.inl rfl, Int.le_refl _, by simp⟩
 | a :: l, x => by
  obtain ⟨h1, h2, h3⟩ := foldl_min l (min x a)
  refine ⟨?_, ?_, ?_⟩
  ·show l.foldl min (min x a) = x ∨ l.foldl min (min x a) ∈ a :: l
   rcases h1 with h1 | h1
   ·rw [h1]
    rcases Int.le_total x a with h | h
    ·rw [Int.min_eq_left h]; exact .inl rfl
    ·rw [Int.min_eq_right h]; exact .inr (List.mem_cons_self ..)
   ·exact .inr (List.mem_cons_of_mem _ h1)
  ·show l.foldl min (min x a) ≤ x; omega
  ·intro y hy
   show l.foldl min (min x a) ≤ y
   rcases List.mem_cons.1 hy with rfl | hy
   ·omega
   ·exact h3 y hy
theorem foldl_max : ∀ (l : List Int) (x : Int), (l.foldl max x = x ∨ l.foldl max x ∈ l) ∧ x ≤ l.foldl max x ∧ ∀ y ∈ l, y ≤ l.foldl max x
 | [], x => ⟨.inl rfl, Int.le_refl _, by simp⟩
 | a :: l, x => by
  obtain ⟨h1, h2, h3⟩ := foldl_max l (max x a)
  refine ⟨?_, ?_, ?_⟩
  ·show l.foldl max (max x a) = x ∨ l.foldl max (max x a) ∈ a :: l
   rcases h1 with h1 | h1
   ·rw [h1]
    rcases Int.le_total x a with h | h
    ·rw [Int.max_eq_right h]; exact .inr (List.mem_cons_self ..)
    ·rw [Int.max_eq_left h]; exact .inl rfl
   ·exact .inr (List.mem_cons_of_mem _ h1)
  ·show x ≤ l.foldl max (max x a); omega
  ·intro y hy
   show y ≤ l.foldl max (max x a)
   rcases List.mem_cons.1 hy with rfl | hy
   ·omega
   ·exact h3 y hy
theorem minL_mem {l : List Int} (h : l ≠ []) : minL l ∈ l ∧ ∀ y ∈ l, minL l ≤ y := by
 cases l with
 | nil => exact absurd rfl h
 | cons x l =>
  obtain ⟨h1, h2, h3⟩ := foldl_min l x
  refine ⟨?_, fun y hy => ?_⟩
  ·show l.foldl min x ∈ _
   rcases h1 with h1 | h1
   ·rw [h1]; exact List.mem_cons_self ..
   ·exact List.mem_cons_of_mem _ h1
  ·rcases List.mem_cons.1 hy with rfl | hy
   ·exact h2
   ·exact h3 y hy
theorem maxL_mem {l : List Int} (h : l ≠ []) : maxL l ∈ l ∧ ∀ y ∈ l, y ≤ maxL l := by
 cases l with
 | nil => exact absurd rfl h
 | cons x l =>
  obtain ⟨h1, h2, h3⟩ := foldl_max l x
  refine ⟨?_, fun y hy => ?_⟩
  ·show l.foldl max x ∈ _
   rcases h1 with h1 | h1
   ·rw [h1]; exact List.mem_cons_self ..
   ·exact List.mem_cons_of_mem _ h1
  ·rcases List.mem_cons.1 hy with rfl | hy
   ·exact h2
   ·exact h3 y hy
theorem minimum_eq {l : List Int} (h : l ≠ []) (hl : shrt l) : pminimum l = some (minL l) := by
 have hl := hl.lt
 cases l with
 | nil => exact absurd rfl h
 | cons x l =>
  unfold pminimum
  rw [if_neg (by simp; omega), idx_zero rfl, Option.bind_some]
  have key := loopFold (l := x :: l) (fun s a => min s a) (fun d s k => pminimum_L0 (x :: l) d s k) some (fun d k s a ha => by
   have hk := (List.getElem?_eq_some_iff.1 ha).1
   rw [pminimum_L0, if_pos (by omega), idx_at ha, Option.bind_some]
   by_cases hc : a < s
   ·rw [if_pos hc, gd_pos (fI (by omega)), Int.min_eq_right (by omega)]
   ·rw [if_neg hc, gd_pos (fI (by omega)), Int.min_eq_left (by omega)]) (fun d s => by rw [pminimum_L0, if_neg (Int.lt_irrefl _)]) ((x :: l).length + 1) 0 x (Nat.zero_le _) (by omega)
  refine key.trans ?_
  rw [List.drop_zero]
  show some (l.foldl min (min x x)) = _
  rw [Int.min_self]; rfl
theorem max_eq {l : List Int} (h : l ≠ []) (hl : shrt l) : psMax l = some (maxL l) := by
 have hl := hl.lt
 cases l with
 | nil => exact absurd rfl h
 | cons x l =>
  unfold psMax
  rw [if_neg (by simp; omega), idx_zero rfl, Option.bind_some]
  have key := loopFold (l := x :: l) (fun s a => max s a) (fun d s k => psMax_L0 (x :: l) d s k) some (fun d k s a ha => by
   have hk := (List.getElem?_eq_some_iff.1 ha).1
   rw [psMax_L0, if_pos (by omega), idx_at ha, Option.bind_some, gd_pos (fI (by omega))]) (fun d s => by rw [psMax_L0, if_neg (Int.lt_irrefl _)]) ((((x :: l).length : Int) - 1).toNat + 1) 1 x (by simp) (by simp only [List.length_cons]; omega)
  exact key
def seg (lo : Int) : Nat → List Int
 | 0 => []
 | n + 1 => lo :: seg (lo + 1) n
theorem mem_seg {x : Int} : ∀ {n : Nat} {lo : Int}, x ∈ seg lo n ↔ lo ≤ x ∧ x < lo + n
 | 0, lo => by simp [seg]
 | n + 1, lo => by
  unfold seg
  rw [List.mem_cons, mem_seg]; omega
theorem seg_len : ∀ {n : Nat} {lo : Int}, (seg lo n).length = n
 | 0, _ => rfl
 | n + 1, lo => by unfold seg; rw [List.length_cons, seg_len]
def truthsL (c : Clm) : List Tr := (seg c.Day.Lo (c.Day.Hi - c.Day.Lo + 1).toNat).flatMap fun d => (seg c.Count.Lo (c.Count.Hi - c.Count.Lo + 1).toNat).map fun n => ⟨d, n⟩
theorem mem_truths {c : Clm} (h1 : c.Day.Lo ≤ c.Day.Hi) (h2 : c.Count.Lo ≤ c.Count.Hi) {t : Tr} : t ∈ truthsL c ↔ TruthN c t := by
 unfold truthsL TruthN
 rw [List.mem_flatMap]
 constructor
 ·rintro ⟨d, hd, ht⟩
  obtain ⟨n, hn, rfl⟩ := List.mem_map.1 ht
  have hd := mem_seg.1 hd
  have hn := mem_seg.1 hn
  dsimp only
  omega
 ·intro ⟨h3, h4⟩
  exact ⟨t.Day, mem_seg.2 (by omega), List.mem_map.2 ⟨t.Count, mem_seg.2 (by omega), rfl⟩⟩
theorem truths_L1 {c : Clm} {x : Int} (hx : -1000 ≤ x ∧ x ≤ 1000) (hh : -1000 ≤ c.Count.Lo ∧ c.Count.Hi ≤ 1000) {K : Int → Option (List Tr)} {r : List Tr} (hK : K (x + 1) = some r) : ∀ (d n : Nat) (k : Int), c.Count.Lo ≤ k → n < d → k + n = c.Count.Hi + 1 → ptruthsI_L1 c x K d k = some ((seg k n).map (fun n => ⟨x, n⟩) ++ r)
 | 0, n, k, _, h, _ => by omega
 | d + 1, 0, k, _, _, hk => by
  rw [ptruthsI_L1, if_neg (by omega), gd_pos (fI (by omega)), hK]; rfl
 | d + 1, n + 1, k, h0, h, hk => by
  rw [ptruthsI_L1, if_pos (by omega), gd_pos (fI (by omega)), truths_L1 hx hh hK d n (k + 1) (by omega) (by omega) (by omega), Option.bind_some]; rfl
theorem truths_L0 {c : Clm} (hd : -1000 ≤ c.Day.Lo ∧ c.Day.Hi ≤ 1000) (hh : -1000 ≤ c.Count.Lo ∧ c.Count.Hi ≤ 1000) (h2 : c.Count.Lo ≤ c.Count.Hi) : ∀ (d n : Nat) (x : Int), c.Day.Lo ≤ x → n < d → x + n = c.Day.Hi + 1 → ptruthsI_L0 c d x = some ((seg x n).flatMap fun d => (seg c.Count.Lo (c.Count.Hi - c.Count.Lo + 1).toNat).map fun n => ⟨d, n⟩)
 | 0, n, x, _, h, _ => by omega
 | d + 1, 0, x, _, _, hx => by rw [ptruthsI_L0, if_neg (by omega)]; rfl
 | d + 1, n + 1, x, h0, h, hx => by
  rw [ptruthsI_L0, if_pos (by omega), truths_L1 (by omega) hh (truths_L0 hd hh h2 d n (x + 1) (by omega) (by omega) (by omega)) _ (c.Count.Hi - c.Count.Lo + 1).toNat c.Count.Lo (Int.le_refl _) (by omega) (by omega)]; rfl
theorem truths_eq {l : List Tf} {c : Clm} (h : ClaimN l c) : ptruths c = some (truthsL c) := by
 have h1 := h.day
 have h2 := h.cnt
 unfold ptruths ptruthsI
 rw [truths_L0 (by omega) (by omega) (by omega) _ (c.Day.Hi - c.Day.Lo + 1).toNat c.Day.Lo (Int.le_refl _) (by omega) (by omega)]; rfl
theorem truths_len {l : List Tf} {c : Clm} (h : ClaimN l c) : 0 < (truthsL c).length ∧ (truthsL c).length ≤ 1111 := by
 have h1 := h.day
 have h2 := h.cnt
 have : (truthsL c).length = (c.Day.Hi - c.Day.Lo + 1).toNat * (c.Count.Hi - c.Count.Lo + 1).toNat := by
  unfold truthsL
  rw [List.length_flatMap]
  simp only [List.length_map, seg_len]
  generalize (c.Day.Hi - c.Day.Lo + 1).toNat = n
  generalize (c.Count.Hi - c.Count.Lo + 1).toNat = k
  generalize c.Day.Lo = x
  induction n generalizing x with
  | zero => simp [seg]
  | succ n ih => unfold seg; rw [List.map_cons, List.sum_cons, ih, Nat.succ_mul]; omega
 rw [this]
 have a1 : 1 ≤ (c.Day.Hi - c.Day.Lo + 1).toNat := by omega
 have a2 : (c.Day.Hi - c.Day.Lo + 1).toNat ≤ 11 := by omega
 have a3 : 1 ≤ (c.Count.Hi - c.Count.Lo + 1).toNat := by omega
 have a4 : (c.Count.Hi - c.Count.Lo + 1).toNat ≤ 101 := by omega
 exact ⟨Nat.mul_pos a1 a3, Nat.mul_le_mul a2 a4⟩
def bndN (l : List Tf) (c : Clm) : Rg := ⟨minL ((truthsL c).map (payN l c)), maxL ((truthsL c).map (payN l c))⟩
theorem pay_rng {l : List Tf} (hf : faultN l = 0) {c : Clm} (hc : ClaimN l c) {t : Tr} (ht : TruthN c t) : 0 ≤ payN l c t ∧ payN l c t ≤ 100000 := by
 have hp := part_htOk hf (htOk hc ht)
 have hv := val_le hc.val hp
 unfold payN
 dsimp only at hv
 omega
theorem bnd_spec {l : List Tf} {c : Clm} (hc : ClaimN l c) : (∀ t, TruthN c t → (bndN l c).Lo ≤ payN l c t ∧ payN l c t ≤ (bndN l c).Hi) ∧ (∃ t, TruthN c t ∧ payN l c t = (bndN l c).Lo) ∧ ∃ t, TruthN c t ∧ payN l c t = (bndN l c).Hi := by
 have h1 := hc.day
 have h2 := hc.cnt
 have hm : ∀ {t : Tr}, t ∈ truthsL c ↔ TruthN c t := mem_truths (by omega) (by omega)
 have hne : (truthsL c).map (payN l c) ≠ [] := fun e => by
  have := (truths_len hc).1
  rw [List.map_eq_nil_iff.1 e] at this
  simp at this
 obtain ⟨a1, a2⟩ := minL_mem hne
 obtain ⟨b1, b2⟩ := maxL_mem hne
 refine ⟨fun t ht => ⟨a2 _ (List.mem_map.2 ⟨t, hm.2 ht, rfl⟩), b2 _ (List.mem_map.2 ⟨t, hm.2 ht, rfl⟩)⟩, ?_, ?_⟩
 ·obtain ⟨t, h3, h4⟩ := List.mem_map.1 a1
  exact ⟨t, hm.1 h3, h4⟩
 ·obtain ⟨t, h3, h4⟩ := List.mem_map.1 b1
  exact ⟨t, hm.1 h3, h4⟩
theorem bnd_rng {l : List Tf} (hf : faultN l = 0) {c : Clm} (hc : ClaimN l c) : 0 ≤ (bndN l c).Lo ∧ (bndN l c).Lo ≤ 100000 ∧ 0 ≤ (bndN l c).Hi ∧ (bndN l c).Hi ≤ 100000 := by
 obtain ⟨_, ⟨t, h1, h2⟩, ⟨u, h3, h4⟩⟩ := bnd_spec (l := l) hc
 have := pay_rng hf hc h1
 have := pay_rng hf hc h3
 omega
theorem bounds_L0 {l : List Tf} (hf : faultN l = 0) {c : Clm} (hc : ClaimN l c) {w : Wk} (hw : w.tariffs = l) : ∀ (ts : List Tr) (acc : List Int) (M : Option (Ht → Option Int)), (∀ t ∈ ts, TruthN c t) → MemoOk l M → ts.length + acc.length ≤ 1111 → acc ++ ts.map (payN l c) ≠ [] →
  ∃ M', pbounds_L0 w c ts acc M = some (⟨minL (acc ++ ts.map (payN l c)), maxL (acc ++ ts.map (payN l c))⟩, M') ∧ MemoOk l M'
 | [], acc, M, _, hM, hl, hne => by
  rw [List.map_nil, List.append_nil] at hne ⊢
  have hs : shrt acc := Nat.le_trans (Nat.le_trans (Nat.le_add_left _ _) hl) (by omega)
  refine ⟨M, ?_, hM⟩
  rw [pbounds_L0, minimum_eq hne hs, Option.bind_some, max_eq hne hs, Option.bind_some]
 | t :: ts, acc, M, hts, hM, hl, hne => by
  obtain ⟨M1, h1, h2⟩ := payment_eq hf hM hc (hts t (List.mem_cons_self ..))
  rw [List.length_cons] at hl
  obtain ⟨M', h3, h4⟩ := bounds_L0 hf hc hw ts (acc ++ [payN l c t]) M1 (fun u hu => hts u (List.mem_cons_of_mem _ hu)) h2 (by rw [List.length_append]; simp; omega) (by simp)
  refine ⟨M', ?_, h4⟩
  rw [pbounds_L0, hw, h1, Option.bind_some]
  dsimp only
  rw [gd_pos (by omega), h3, List.append_assoc]; rfl
theorem bounds_eq {l : List Tf} (hf : faultN l = 0) {c : Clm} (hc : ClaimN l c) {M : Option (Ht → Option Int)} (hM : MemoOk l M) : ∃ M', pbounds ⟨l, M⟩ c = some (bndN l c, M') ∧ MemoOk l M' := by
 have h1 := hc.day
 have h2 := hc.cnt
 have hlen := truths_len hc
 unfold pbounds
 rw [truths_eq hc, Option.bind_some]
 exact bounds_L0 hf hc rfl (truthsL c) [] M (fun t ht => (mem_truths (by omega) (by omega)).1 ht) hM (by simp; omega) (by
  intro e
  rw [List.nil_append] at e
  rw [List.map_eq_nil_iff.1 e] at hlen
  exact absurd hlen.1 (by simp))
end
end Go.Proofs.Ytbhdgedghfibcaa

namespace Go.Proofs.Ytbhdgedghfibcaa
open _root_.Go.Proofs.Try
open Go.Abs
set_option maxRecDepth 100000
noncomputable section
theorem loopApp1 {α β : Type} {l : List α} {F : Nat → List α → Int → Option β} (fin : List α → Option β)
  (hstep : ∀ d (k : Nat) acc a, l[k]? = some a → acc.length = k → F (d + 1) acc (k : Int) = F d (acc ++ [a]) ((k : Int) + 1)) (hend : ∀ d acc, F (d + 1) acc (l.length : Int) = fin acc) {d : Nat} (hd : l.length < d) : F d [] 0 = fin l := by
 have h := loopApp0 (l := l) (fun a => a) fin hstep hend hd
 rwa [List.map_id'] at h
theorem lClaims_eq {cs : List Clm} (h : cs.length ≤ 1000) : plClaims cs = some cs :=
 loopApp1 (F := plClaims_L0 cs) some (fun d k acc a ha hac => by
  have hk := (List.getElem?_eq_some_iff.1 ha).1
  rw [plClaims_L0, if_pos (by omega), idx_at ha, Option.bind_some, lClaim_eq, Option.bind_some, gd_pos (show acc.length < 1048576 by omega), gd_pos (fI (by omega))]) (fun d acc => by rw [plClaims_L0, if_neg (Int.lt_irrefl _)]) (Nat.lt_succ_self _)
def sumN (l : List Tf) (cs : List Clm) : Rg := ⟨(cs.map fun c => (bndN l c).Lo).sum, (cs.map fun c => (bndN l c).Hi).sum⟩
theorem total_L0 {l : List Tf} (hf : faultN l = 0) {cs : List Clm} (h5 : cs.length ≤ 5) (hc : ∀ c ∈ cs, ClaimN l c) {r : Wk × Int} (hr : r.1.tariffs = l) : ∀ d (k : Nat) (a b : Int) M, k ≤ cs.length → cs.length - k < d → 0 ≤ a ∧ a ≤ 100000 * k → 0 ≤ b ∧ b ≤ 100000 * k → MemoOk l M →
  pTotal_L0 cs r d a b M (k : Int) = some (⟨a + ((cs.drop k).map fun c => (bndN l c).Lo).sum, b + ((cs.drop k).map fun c => (bndN l c).Hi).sum⟩, 0)
 | 0, k, _, _, _, _, h, _, _, _ => by omega
 | d + 1, k, a, b, M, hk, h, ha, hb, hM => by
  by_cases hkn : k = cs.length
  ·subst hkn
   rw [pTotal_L0, if_neg (Int.lt_irrefl _), List.drop_length]; simp
  ·have hlt : k < cs.length := by omega
   have hget := List.getElem?_eq_getElem hlt
   have hck := hc _ (List.getElem_mem hlt)
   obtain ⟨M', h1, h2⟩ := bounds_eq hf hck hM
   have hr2 := bnd_rng hf hck
   rw [pTotal_L0, if_pos (by omega), idx_at hget, Option.bind_some, hr, h1, Option.bind_some]
   dsimp only
   rw [gd_pos (fI (by omega)), gd_pos (fI (by omega)), gd_pos (fI (by omega)), show (k : Int) + 1 = ((k + 1 : Nat) : Int) by omega, total_L0 hf h5 hc hr d (k + 1) _ _ M' (by omega) (by omega) (by omega) (by omega) h2, List.drop_eq_getElem_cons hlt]
   simp only [List.map_cons, List.sum_cons]
   rw [Int.add_assoc, Int.add_assoc]
theorem Total_ok {l : List Tf} (hf : faultN l = 0) {cs : List Clm} (h5 : cs.length ≤ 5) (hc : ∀ c ∈ cs, ClaimN l c) : pTotal l cs = some (sumN l cs, 0) := by
 unfold pTotal
 rw [openFor_eq hf h5 hc, Option.bind_some, if_pos rfl]
 have h := total_L0 hf h5 hc (r := (⟨l, some fun _ => none⟩, 0)) rfl (cs.length + 1) 0 0 0 _ (Nat.zero_le _) (by omega) (by omega) (by omega) memo0
 rw [List.drop_zero, Int.zero_add, Int.zero_add] at h
 exact h
theorem sum_rng {l : List Tf} (hf : faultN l = 0) : ∀ {cs : List Clm}, (∀ c ∈ cs, ClaimN l c) → 0 ≤ (sumN l cs).Lo ∧ (sumN l cs).Lo ≤ 100000 * cs.length ∧ 0 ≤ (sumN l cs).Hi ∧ (sumN l cs).Hi ≤ 100000 * cs.length
 | [], _ => by simp [sumN]
 | c :: cs, h => by
  have h1 := sum_rng hf (cs := cs) fun c hc => h c (List.mem_cons_of_mem _ hc)
  have h2 := bnd_rng hf (h c (List.mem_cons_self ..))
  unfold sumN at h1 ⊢
  simp only [List.map_cons, List.sum_cons, List.length_cons] at h1 ⊢
  omega
end
end Go.Proofs.Ytbhdgedghfibcaa

namespace Go.Proofs.Ytbhdgedghfibcaa
open _root_.Go.Proofs.Try
open Go.Abs
set_option maxRecDepth 100000
noncomputable section
def amin (l : List Tf) (c : Clm) (b a : Tr) : Tr := if payN l c a < payN l c b then a else b
def amax (l : List Tf) (c : Clm) (b a : Tr) : Tr := if payN l c b < payN l c a then a else b
def argmin (l : List Tf) (c : Clm) : List Tr → Tr | [] => ⟨0, 0⟩ | t :: ts => ts.foldl (amin l c) t
def argmax (l : List Tf) (c : Clm) : List Tr → Tr | [] => ⟨0, 0⟩ | t :: ts => ts.foldl (amax l c) t
theorem amin_fold {l : List Tf} {c : Clm} : ∀ (ts : List Tr) (t : Tr), payN l c (ts.foldl (amin l c) t) = (ts.map (payN l c)).foldl min (payN l c t) ∧ (ts.foldl (amin l c) t = t ∨ ts.foldl (amin l c) t ∈ ts)
 | [], t => ⟨rfl, .inl rfl⟩
 | a :: ts, t => by
  obtain ⟨h1, h2⟩ := amin_fold (l := l) (c := c) ts (amin l c t a)
  have e : payN l c (amin l c t a) = min (payN l c t) (payN l c a) := by
   unfold amin
   split <;> omega
  refine ⟨?_, ?_⟩
  ·show payN l c (ts.foldl (amin l c) (amin l c t a)) = (ts.map (payN l c)).foldl min (min (payN l c t) (payN l c a))
   rw [h1, e]
  ·show ts.foldl (amin l c) (amin l c t a) = t ∨ ts.foldl (amin l c) (amin l c t a) ∈ a :: ts
   rcases h2 with h2 | h2
   ·rw [h2]; unfold amin
    split
    ·exact .inr (List.mem_cons_self ..)
    ·exact .inl rfl
   ·exact .inr (List.mem_cons_of_mem _ h2)
theorem amax_fold {l : List Tf} {c : Clm} : ∀ (ts : List Tr) (t : Tr), payN l c (ts.foldl (amax l c) t) = (ts.map (payN l c)).foldl max (payN l c t) ∧ (ts.foldl (amax l c) t = t ∨ ts.foldl (amax l c) t ∈ ts)
 | [], t => ⟨rfl, .inl rfl⟩
 | a :: ts, t => by
  obtain ⟨h1, h2⟩ := amax_fold (l := l) (c := c) ts (amax l c t a)
  have e : payN l c (amax l c t a) = max (payN l c t) (payN l c a) := by
   unfold amax
   split <;> omega
  refine ⟨?_, ?_⟩
  ·show payN l c (ts.foldl (amax l c) (amax l c t a)) = (ts.map (payN l c)).foldl max (max (payN l c t) (payN l c a))
   rw [h1, e]
  ·show ts.foldl (amax l c) (amax l c t a) = t ∨ ts.foldl (amax l c) (amax l c t a) ∈ a :: ts
   rcases h2 with h2 | h2
   ·rw [h2]; unfold amax
    split
    ·exact .inr (List.mem_cons_self ..)
    ·exact .inl rfl
   ·exact .inr (List.mem_cons_of_mem _ h2)
theorem truths_cons {l : List Tf} {c : Clm} (hc : ClaimN l c) : ∃ t ts, truthsL c = t :: ts := by
 have := (truths_len hc).1
 cases h : truthsL c with
 | nil => rw [h] at this; simp at this
 | cons t ts => exact ⟨t, ts, rfl⟩
theorem truthsL_iff {l : List Tf} {c : Clm} (hc : ClaimN l c) {t : Tr} : t ∈ truthsL c ↔ TruthN c t := by
 have h1 := hc.day
 have h2 := hc.cnt
 exact mem_truths (by omega) (by omega)
theorem argmin_spec {l : List Tf} {c : Clm} (hc : ClaimN l c) : TruthN c (argmin l c (truthsL c)) ∧ payN l c (argmin l c (truthsL c)) = (bndN l c).Lo := by
 obtain ⟨t, ts, h⟩ := truths_cons hc
 obtain ⟨h1, h2⟩ := amin_fold (l := l) (c := c) ts t
 refine ⟨(truthsL_iff hc).1 ?_, ?_⟩
 ·rw [h]
  show ts.foldl (amin l c) t ∈ _
  rcases h2 with h2 | h2
  ·rw [h2]; exact List.mem_cons_self ..
  ·exact List.mem_cons_of_mem _ h2
 ·unfold bndN; rw [h]; exact h1
theorem argmax_spec {l : List Tf} {c : Clm} (hc : ClaimN l c) : TruthN c (argmax l c (truthsL c)) ∧ payN l c (argmax l c (truthsL c)) = (bndN l c).Hi := by
 obtain ⟨t, ts, h⟩ := truths_cons hc
 obtain ⟨h1, h2⟩ := amax_fold (l := l) (c := c) ts t
 refine ⟨(truthsL_iff hc).1 ?_, ?_⟩
 ·rw [h]
  show ts.foldl (amax l c) t ∈ _
  rcases h2 with h2 | h2
  ·rw [h2]; exact List.mem_cons_self ..
  ·exact List.mem_cons_of_mem _ h2
 ·unfold bndN; rw [h]; exact h1
structure BS where
 lo : Int
 hi : Int
 ld : Int
 ln : Int
 hd : Int
 hn : Int
def stepB (l : List Tf) (c : Clm) (s : BS) (t : Tr) : BS :=
 ⟨if payN l c t < s.lo then payN l c t else s.lo, if s.hi < payN l c t then payN l c t else s.hi, if payN l c t < s.lo then t.Day else s.ld, if payN l c t < s.lo then t.Count else s.ln, if s.hi < payN l c t then t.Day else s.hd, if s.hi < payN l c t then t.Count else s.hn⟩
theorem rB_L1 {l : List Tf} (hf : faultN l = 0) {c : Clm} (hc : ClaimN l c) {x : Int} (hx : c.Day.Lo ≤ x ∧ x ≤ c.Day.Hi) {K : Int → Int → Int → Int → Int → Int → Int → Option (Rg × Tr × Tr)} : ∀ (d n : Nat) (k : Int) (s : BS), c.Count.Lo ≤ k → n < d → k + n = c.Count.Hi + 1 →
  prBounds_L1 l c x K d s.lo s.hi s.ld s.ln s.hd s.hn k = (fun s : BS => K s.lo s.hi s.ld s.ln s.hd s.hn (x + 1)) (((seg k n).map fun n => (⟨x, n⟩ : Tr)).foldl (stepB l c) s)
 | 0, n, k, s, _, h, _ => by omega
 | d + 1, 0, k, s, _, _, hk => by
  have h1 := hc.day
  rw [prBounds_L1, if_neg (by omega), gd_pos (fI (by omega))]; rfl
 | d + 1, n + 1, k, s, h0, h, hk => by
  have h2 := hc.cnt
  have ht : TruthN c ⟨x, k⟩ := ⟨hx, by dsimp only; omega⟩
  have ih := rB_L1 hf hc hx (K := K) d n (k + 1) (stepB l c s ⟨x, k⟩) (by omega) (by omega) (by omega)
  rw [prBounds_L1, if_pos (by omega), rPay_eq hf hc ht, Option.bind_some]
  show _ = (fun s : BS => K s.lo s.hi s.ld s.ln s.hd s.hn (x + 1)) (((seg (k + 1) n).map fun n => (⟨x, n⟩ : Tr)).foldl (stepB l c) (stepB l c s ⟨x, k⟩))
  rw [← ih]
  unfold stepB
  dsimp only
  by_cases q1 : payN l c ⟨x, k⟩ < s.lo
  ·by_cases q2 : s.hi < payN l c ⟨x, k⟩
   ·simp only [if_pos q1, if_pos q2]; rw [gd_pos (fI (by omega))]
   ·simp only [if_pos q1, if_neg q2]; rw [gd_pos (fI (by omega))]
  ·by_cases q2 : s.hi < payN l c ⟨x, k⟩
   ·simp only [if_neg q1, if_pos q2]; rw [gd_pos (fI (by omega))]
   ·simp only [if_neg q1, if_neg q2]; rw [gd_pos (fI (by omega))]
theorem rB_L0 {l : List Tf} (hf : faultN l = 0) {c : Clm} (hc : ClaimN l c) : ∀ (d n : Nat) (x : Int) (s : BS), c.Day.Lo ≤ x → n < d → x + n = c.Day.Hi + 1 →
  prBounds_L0 l c d s.lo s.hi s.ld s.ln s.hd s.hn x = (fun s : BS => some ((⟨s.lo, s.hi⟩ : Rg), (⟨s.ld, s.ln⟩ : Tr), (⟨s.hd, s.hn⟩ : Tr))) (((seg x n).flatMap fun d => (seg c.Count.Lo (c.Count.Hi - c.Count.Lo + 1).toNat).map fun n => (⟨d, n⟩ : Tr)).foldl (stepB l c) s)
 | 0, n, x, s, _, h, _ => by omega
 | d + 1, 0, x, s, _, _, hx => by rw [prBounds_L0, if_neg (by omega)]; rfl
 | d + 1, n + 1, x, s, h0, h, hx => by
  have h2 := hc.cnt
  rw [prBounds_L0, if_pos (by omega), rB_L1 hf hc (by omega) 1000000 (c.Count.Hi - c.Count.Lo + 1).toNat c.Count.Lo s (Int.le_refl _) (by omega) (by omega)]
  dsimp only
  rw [rB_L0 hf hc d n (x + 1) _ (by omega) (by omega) (by omega)]
  rw [show seg x (n + 1) = x :: seg (x + 1) n from rfl, List.flatMap_cons, List.foldl_append]
theorem stepB_fold {l : List Tf} {c : Clm} : ∀ (ts : List Tr) (u v : Tr), ts.foldl (stepB l c) ⟨payN l c u, payN l c v, u.Day, u.Count, v.Day, v.Count⟩ =
  ⟨payN l c (ts.foldl (amin l c) u), payN l c (ts.foldl (amax l c) v), (ts.foldl (amin l c) u).Day, (ts.foldl (amin l c) u).Count, (ts.foldl (amax l c) v).Day, (ts.foldl (amax l c) v).Count⟩
 | [], u, v => rfl
 | a :: ts, u, v => by
  show ts.foldl (stepB l c) (stepB l c ⟨payN l c u, payN l c v, u.Day, u.Count, v.Day, v.Count⟩ a) = _
  have e : stepB l c ⟨payN l c u, payN l c v, u.Day, u.Count, v.Day, v.Count⟩ a = ⟨payN l c (amin l c u a), payN l c (amax l c v a), (amin l c u a).Day, (amin l c u a).Count, (amax l c v a).Day, (amax l c v a).Count⟩ := by
   unfold stepB amin amax
   dsimp only
   by_cases q1 : payN l c a < payN l c u
   ·by_cases q2 : payN l c v < payN l c a
    ·simp only [if_pos q1, if_pos q2]
    ·simp only [if_pos q1, if_neg q2]
   ·by_cases q2 : payN l c v < payN l c a
    ·simp only [if_neg q1, if_pos q2]
    ·simp only [if_neg q1, if_neg q2]
  rw [e]
  exact stepB_fold ts _ _
theorem rBounds_eq {l : List Tf} (hf : faultN l = 0) {c : Clm} (hc : ClaimN l c) : prBounds l c = some (bndN l c, argmin l c (truthsL c), argmax l c (truthsL c)) := by
 have h1 := hc.day
 obtain ⟨t, ts, h⟩ := truths_cons hc
 have ht : TruthN c t := (truthsL_iff hc).1 (by rw [h]; exact List.mem_cons_self ..)
 have hp := pay_rng hf hc ht
 have key := rB_L0 hf hc 1000000 (c.Day.Hi - c.Day.Lo + 1).toNat c.Day.Lo ⟨1099511627776, -1, 0, 0, 0, 0⟩ (Int.le_refl _) (by omega) (by omega)
 have hL : ((seg c.Day.Lo (c.Day.Hi - c.Day.Lo + 1).toNat).flatMap fun d => (seg c.Count.Lo (c.Count.Hi - c.Count.Lo + 1).toNat).map fun n => (⟨d, n⟩ : Tr)) = t :: ts := h
 rw [hL] at key
 have e : (t :: ts).foldl (stepB l c) ⟨1099511627776, -1, 0, 0, 0, 0⟩ = ts.foldl (stepB l c) ⟨payN l c t, payN l c t, t.Day, t.Count, t.Day, t.Count⟩ := by
  show ts.foldl (stepB l c) (stepB l c _ t) = _
  congr 1
  unfold stepB
  dsimp only
  rw [if_pos (by omega), if_pos (by omega), if_pos (by omega), if_pos (by omega), if_pos (by omega), if_pos (by omega)]
 rw [e, stepB_fold] at key
 have a2 := (argmin_spec (l := l) hc).2
 have b2 := (argmax_spec (l := l) hc).2
 rw [h] at a2 b2
 refine Eq.trans key ?_
 rw [h]
 show some ((⟨payN l c (argmin l c (t :: ts)), payN l c (argmax l c (t :: ts))⟩ : Rg), _, _) = _
 rw [a2, b2]; rfl
theorem lTo_eq {r : Rg} : plTo r = some r := rfl
end
end Go.Proofs.Ytbhdgedghfibcaa

namespace Go.Proofs.Ytbhdgedghfibcaa
open _root_.Go.Proofs.Try
open Go.Abs
set_option maxRecDepth 100000
noncomputable section
def gTot (l : List Tf) (claims : List Clm) (r47 : Rg × Int) : Nat → Int → Int → Int → Int → Option (Bool)
 | 0, _, _, _, _ => none
 | d103 + 1, y101, y102, x43, x44 => (if x44 < (claims.length : Int) then (if x43 = (0 : Int) then ((idx claims x44).bind fun v106 => ((plClaimed l v106).bind fun r109 => (if r109 = (0 : Int) then ((idx claims x44).bind fun v117 => ((prBounds l v117).bind fun r120 => (gd (fitsP .i64 (y101 + r120.1.Lo)) (gd (fitsP .i64 (y102 + r120.1.Hi)) (gd (fitsP .i64 (x44 + (1 : Int))) (gTot l claims r47 d103 (y101 + r120.1.Lo) (y102 + r120.1.Hi) r109 (x44 + (1 : Int)))))))) else (gd (fitsP .i64 (x44 + (1 : Int))) (gTot l claims r47 d103 y101 y102 r109 (x44 + (1 : Int))))))) else (if r47.2 = x43 then (gd (fitsP .i64 r47.1.Lo) (gd (fitsP .i64 (0 : Int)) (gd (fitsP .i64 r47.1.Hi) (gd (fitsP .i64 (0 : Int)) (if ((decide (r47.1.Lo = (0 : Int))) && (decide (r47.1.Hi = (0 : Int)))) = true then ((pawake).bind fun r197 => (some r197)) else (some false)))))) else (some false))) else (if x43 = (0 : Int) then (if r47.2 = (0 : Int) then ((plTo ({ Lo := y101, Hi := y102 } : Rg)).bind fun r219 => (gd (fitsP .i64 r47.1.Lo) (gd (fitsP .i64 r219.Lo) (gd (fitsP .i64 r47.1.Hi) (gd (fitsP .i64 r219.Hi) (if ((decide (r47.1.Lo = r219.Lo)) && (decide (r47.1.Hi = r219.Hi))) = true then ((pawake).bind fun r231 => (some r231)) else (some false))))))) else (some false)) else (if r47.2 = x43 then (gd (fitsP .i64 r47.1.Lo) (gd (fitsP .i64 (0 : Int)) (gd (fitsP .i64 r47.1.Hi) (gd (fitsP .i64 (0 : Int)) (if ((decide (r47.1.Lo = (0 : Int))) && (decide (r47.1.Hi = (0 : Int)))) = true then ((pawake).bind fun r211 => (some r211)) else (some false)))))) else (some false))))
theorem eT0 {l : List Tf} {claims : List Clm} {r : Rg × Int} : ∀ {d : Nat} {a b e i : Int}, pTariffTotals_L0 l claims r d a b e i = gTot l claims r d a b e i
 | 0, _, _, _, _ => rfl
 | d + 1, a, b, e, i => by unfold pTariffTotals_L0 gTot; simp only [eT0 (d := d)]
theorem eT1 {l : List Tf} {claims : List Clm} {r : Rg × Int} : ∀ {d : Nat} {a b e i : Int}, pTariffTotals_L1 l claims r d a b e i = gTot l claims r d a b e i
 | 0, _, _, _, _ => rfl
 | d + 1, a, b, e, i => by unfold pTariffTotals_L1 gTot; simp only [eT1 (d := d)]
theorem eT3 {l : List Tf} {claims : List Clm} {r : Rg × Int} : ∀ {d : Nat} {a b e i : Int}, pTariffTotals_L3 l claims r d a b e i = gTot l claims r d a b e i
 | 0, _, _, _, _ => rfl
 | d + 1, a, b, e, i => by unfold pTariffTotals_L3 gTot; simp only [eT3 (d := d)]
theorem eT4 {l : List Tf} {claims : List Clm} {r : Rg × Int} : ∀ {d : Nat} {a b e i : Int}, pTariffTotals_L4 l claims r d a b e i = gTot l claims r d a b e i
 | 0, _, _, _, _ => rfl
 | d + 1, a, b, e, i => by unfold pTariffTotals_L4 gTot; simp only [eT4 (d := d)]
theorem eT6 {l : List Tf} {claims : List Clm} {r : Rg × Int} : ∀ {d : Nat} {a b e i : Int}, pTariffTotals_L6 l claims r d a b e i = gTot l claims r d a b e i
 | 0, _, _, _, _ => rfl
 | d + 1, a, b, e, i => by unfold pTariffTotals_L6 gTot; simp only [eT6 (d := d)]
theorem eT7 {l : List Tf} {claims : List Clm} {r : Rg × Int} : ∀ {d : Nat} {a b e i : Int}, pTariffTotals_L7 l claims r d a b e i = gTot l claims r d a b e i
 | 0, _, _, _, _ => rfl
 | d + 1, a, b, e, i => by unfold pTariffTotals_L7 gTot; simp only [eT7 (d := d)]
theorem eT9 {l : List Tf} {claims : List Clm} {r : Rg × Int} : ∀ {d : Nat} {a b e i : Int}, pTariffTotals_L9 l claims r d a b e i = gTot l claims r d a b e i
 | 0, _, _, _, _ => rfl
 | d + 1, a, b, e, i => by unfold pTariffTotals_L9 gTot; simp only [eT9 (d := d)]
theorem eT10 {l : List Tf} {claims : List Clm} {r : Rg × Int} : ∀ {d : Nat} {a b e i : Int}, pTariffTotals_L10 l claims r d a b e i = gTot l claims r d a b e i
 | 0, _, _, _, _ => rfl
 | d + 1, a, b, e, i => by unfold pTariffTotals_L10 gTot; simp only [eT10 (d := d)]
theorem eT14 {l : List Tf} {claims : List Clm} {r : Rg × Int} : ∀ {d : Nat} {a b e i : Int}, pTariffTotals_L14 l claims r d a b e i = gTot l claims r d a b e i
 | 0, _, _, _, _ => rfl
 | d + 1, a, b, e, i => by unfold pTariffTotals_L14 gTot; simp only [eT14 (d := d)]
theorem tot_end {l : List Tf} {claims : List Clm} {r : Rg × Int} {e : Int} (he : e ≠ 0) (hr : r = (⟨0, 0⟩, e)) {d : Nat} {a b i : Int} : gTot l claims r (d + 1) a b e i = some true := by
 subst hr
 have z : fitsP .i64 0 := fI (by omega)
 rw [gTot]
 simp only [if_neg he, if_true, gd_pos z, decide_true, Bool.and_self, aw, Option.bind_some, ite_self]
theorem tot_go {l : List Tf} (hf : faultN l = 0) {claims : List Clm} (h5 : claims.length ≤ 5) {r : Rg × Int} (hno : ¬ (∀ c ∈ claims, ClaimN l c) → r = (⟨0, 0⟩, 2)) (hyes : (∀ c ∈ claims, ClaimN l c) → r = (sumN l claims, 0)) : ∀ d (k : Nat) (a b : Int), k ≤ claims.length → claims.length - k < d → 0 ≤ a ∧ a ≤ 100000 * k → 0 ≤ b ∧ b ≤ 100000 * k → (∀ j, j < k → ∀ c, claims[j]? = some c → ClaimN l c) →
  a + ((claims.drop k).map fun c => (bndN l c).Lo).sum = (sumN l claims).Lo → b + ((claims.drop k).map fun c => (bndN l c).Hi).sum = (sumN l claims).Hi → gTot l claims r d a b 0 (k : Int) = some true
 | 0, k, _, _, _, h, _, _, _, _, _ => by omega
 | d + 1, k, a, b, hk, h, ha, hb, hall, e1, e2 => by
  rw [gTot]
  by_cases hkn : k = claims.length
  ·subst hkn
   have hc : ∀ c ∈ claims, ClaimN l c := mem_iff_nat.1 hall
   rw [hyes hc]
   have s := sum_rng hf hc
   rw [List.drop_length, List.map_nil, List.sum_nil, Int.add_zero] at e1 e2
   rw [if_neg (Int.lt_irrefl _), if_pos rfl, if_pos rfl, lTo_eq, Option.bind_some]
   dsimp only
   rw [gd_pos (fI (by omega)), gd_pos (fI (by omega)), gd_pos (fI (by omega)), gd_pos (fI (by omega)), if_pos (by rw [e1, e2]; simp), aw, Option.bind_some]
  ·have hlt : k < claims.length := by omega
   have hg := List.getElem?_eq_getElem hlt
   have hd := List.drop_eq_getElem_cons hlt
   have hmem := List.getElem_mem hlt
   rw [hd] at e1 e2
   generalize claims[k] = c at *
   rw [if_pos (by omega), if_pos rfl, idx_at hg, Option.bind_some, lClaimed_eq, Option.bind_some]
   by_cases hc : ClaimN l c
   ·rw [if_pos (claimN_zero.2 ⟨hf, hc⟩), Option.bind_some, rBounds_eq hf hc, Option.bind_some]
    have hr2 := bnd_rng hf hc
    simp only [List.map_cons, List.sum_cons] at e1 e2
    dsimp only
    rw [gd_pos (fI (by omega)), gd_pos (fI (by omega)), gd_pos (fI (by omega)), claimN_zero.2 ⟨hf, hc⟩, show (k : Int) + 1 = ((k + 1 : Nat) : Int) by omega]
    exact tot_go hf h5 hno hyes d (k + 1) _ _ (by omega) (by omega) (by omega) (by omega) (fun j hj u hu => by
     rcases Nat.lt_or_ge j k with h1 | h1
     ·exact hall j h1 u hu
     ·rw [show j = k by omega, hg] at hu; cases hu; exact hc) (by omega) (by omega)
   ·have hcl : claimN l c = 2 := by unfold claimN; rw [if_pos hf, if_neg hc]
    rw [hcl, if_neg (by decide), gd_pos (fI (by omega))]
    obtain ⟨d', rfl⟩ : ∃ d', d = d' + 1 := ⟨d - 1, by omega⟩
    exact tot_end (by decide) (hno fun hh => hc (hh c hmem))
theorem Total_no {l : List Tf} (hf : faultN l = 0) {cs : List Clm} (h5 : cs.length ≤ 5) (hc : ¬ ∀ c ∈ cs, ClaimN l c) : pTotal l cs = some (⟨0, 0⟩, 2) := by
 unfold pTotal; rw [openFor_no hf h5 hc, Option.bind_some, if_neg (by decide)]
theorem Total_bad {l : List Tf} (hf : faultN l ≠ 0) {cs : List Clm} : pTotal l cs = some (⟨0, 0⟩, faultN l) := by
 unfold pTotal; rw [openFor_bad hf, Option.bind_some, if_neg hf]
theorem Total_many {l : List Tf} (hf : faultN l = 0) {cs : List Clm} (h5 : 5 < cs.length) : pTotal l cs = some (⟨0, 0⟩, 3) := by
 unfold pTotal popenFor
 rw [open_ok hf, Option.bind_some, if_pos rfl, if_pos (by omega), Option.bind_some, if_neg (by decide)]
theorem rLeast_go {l : List Tf} (hf : faultN l = 0) {c d : Int} (hc : 0 ≤ c ∧ c < cropsN l) : ∀ fu (k : Nat), k ≤ 101 → 101 - k < fu → (∀ j : Int, 0 ≤ j → j < k → partN l c d j = 0) →
  (∃ n : Int, 0 ≤ n ∧ n ≤ 100 ∧ prLeast_L0 l c d fu (k : Int) = some n ∧ 0 < partN l c d n ∧ ∀ j, 0 ≤ j → j < n → partN l c d j = 0) ∨ (prLeast_L0 l c d fu (k : Int) = some (-1) ∧ ∀ j, 0 ≤ j → j ≤ 100 → partN l c d j = 0)
 | 0, k, _, h, _ => by omega
 | fu + 1, k, hk, h, hz => by
  rw [prLeast_L0]
  by_cases h1 : k = 101
  ·subst h1
   rw [if_neg (by omega)]
   exact .inr ⟨rfl, fun j h2 h3 => hz j h2 (by omega)⟩
  ·have hp := (faultN_zero.1 hf).2.part_rng hc.1 hc.2 (show 0 ≤ (k : Int) by omega) (show (k : Int) ≤ 100 by omega) d
   rw [if_pos (by omega), rPart_eq hf hc.1 hc.2 (by omega) (by omega), Option.bind_some]
   by_cases h4 : 0 < partN l c d k
   ·rw [if_pos h4]
    exact .inl ⟨k, by omega, by omega, rfl, h4, hz⟩
   ·rw [if_neg h4, gd_pos (fI (by omega)), show (k : Int) + 1 = ((k + 1 : Nat) : Int) by omega]
    exact rLeast_go hf hc fu (k + 1) (by omega) (by omega) fun j h5 h6 => by
     rcases Int.lt_or_le j k with h7 | h7
     ·exact hz j h5 h7
     ·have : j = k := by omega
      subst this; omega
theorem Least_both {l : List Tf} (hf : faultN l = 0) {c d : Int} (hc : 0 ≤ c ∧ c < cropsN l) (hd : 0 ≤ d ∧ d ≤ 120) : (∃ n : Int, 0 ≤ n ∧ prLeast l c d = some n ∧ pLeast l c d = some (n, 0)) ∨ (prLeast l c d = some (-1) ∧ pLeast l c d = some (0, 7)) := by
 have h := rLeast_go hf hc (d := d) (((100 : Int) - (0 : Int) + 1).toNat + 1) 0 (by omega) (by decide) (fun j h1 h2 => by omega)
 have h : (∃ n : Int, 0 ≤ n ∧ n ≤ 100 ∧ prLeast l c d = some n ∧ 0 < partN l c d n ∧ ∀ j, 0 ≤ j → j < n → partN l c d j = 0) ∨ (prLeast l c d = some (-1) ∧ ∀ j, 0 ≤ j → j ≤ 100 → partN l c d j = 0) := h
 rcases h with ⟨n, n0, n1, n2, n3, n4⟩ | ⟨n2, n3⟩
 ·rcases Least_ok hf hc hd with ⟨k, k0, k1, k2, k3, k4⟩ | ⟨k2, k3⟩
  ·have : k = n := by
    rcases Int.lt_trichotomy k n with h1 | h1 | h1
    ·have := n4 k k0 h1; omega
    ·exact h1
    ·have := k4 n n0 h1; omega
   subst this
   exact .inl ⟨k, k0, n2, k2⟩
  ·have := k3 n n0 n1; omega
 ·rcases Least_ok hf hc hd with ⟨k, k0, k1, k2, k3, k4⟩ | ⟨k2, k3⟩
  ·have := n3 k k0 k1; omega
  ·exact .inr ⟨n2, k2⟩
theorem Least_bad {l : List Tf} (hf : faultN l ≠ 0) {c d : Int} : pLeast l c d = some (0, faultN l) := by unfold pLeast; rw [open_bad hf, Option.bind_some, if_neg hf]
theorem Least_out {l : List Tf} (hf : faultN l = 0) {c d : Int} (h : ¬ ((0 ≤ c ∧ c < cropsN l) ∧ (0 ≤ d ∧ d ≤ 120))) : pLeast l c d = some (0, 2) := by
 unfold pLeast
 rw [open_ok hf, Option.bind_some, if_pos rfl]
 refine (hasCrop_ev hf).pick (fun h1 => ?_) fun _ => by rw [if_neg (by simp)]
 rw [if_pos rfl]
 refine isDay_ev.pick (fun h2 => absurd ⟨h1, h2⟩ h) fun _ => by rw [if_neg (by simp)]
theorem m_TariffTotals {l : List Tf} {claims : List Clm} {crop day : Int} (_ : OkL l) (_ : claims.length ≤ maxLen ∧ ∀ a ∈ claims, ok_Clm a) (_ : fitsP .i64 crop) (_ : fitsP .i64 day) : pTariffTotals l claims crop day = some true := by
 unfold pTariffTotals
 refine thin_ev.pick (fun ht => ?_) fun _ => by rw [if_neg (by simp), aw, Option.bind_some]
 rw [if_pos rfl]
 by_cases h7 : claims.length ≤ 7
 ·rw [if_neg (by omega)]
  simp only [lTariffs_eq ht, lClaims_eq (show claims.length ≤ 1000 by omega), Option.bind_some, lFault_eq]
  simp only [eT0, eT1, eT3, eT4, eT6, eT7, eT9, eT10, eT14]
  by_cases hf : faultN l = 0
  ·have hcr := crops_rng hf
   have hne := (faultN_zero.1 hf).2.ne
   obtain ⟨r, hr, hgo⟩ : ∃ r, pTotal l claims = some r ∧ (if (5 : Int) < (claims.length : Int) then gTot l claims r (claims.length + 1) 0 0 3 0 else gTot l claims r (claims.length + 1) 0 0 0 0) = some true := by
    by_cases h5 : 5 < claims.length
    ·exact ⟨_, Total_many hf h5, by rw [if_pos (by omega)]; exact tot_end (by decide) rfl⟩
    ·by_cases hc : ∀ c ∈ claims, ClaimN l c
     ·refine ⟨_, Total_ok hf (by omega) hc, ?_⟩
      rw [if_neg (by omega)]
      exact tot_go hf (by omega) (fun h => absurd hc h) (fun _ => rfl) (claims.length + 1) 0 0 0 (Nat.zero_le _) (by omega) (by omega) (by omega) (fun j hj => by omega) (by rw [List.drop_zero, Int.zero_add]; rfl) (by rw [List.drop_zero, Int.zero_add]; rfl)
     ·refine ⟨_, Total_no hf (by omega) hc, ?_⟩
      rw [if_neg (by omega)]
      exact tot_go hf (by omega) (fun _ => rfl) (fun h => absurd h hc) (claims.length + 1) 0 0 0 (Nat.zero_le _) (by omega) (by omega) (by omega) (fun j hj => by omega) (by rw [List.drop_zero, Int.zero_add]; rfl) (by rw [List.drop_zero, Int.zero_add]; rfl)
   have hin : ∀ {P : Prop}, Ev (prIn crop 0 ((cropsN l : Int) - 1)) (0 ≤ crop ∧ crop < cropsN l) := fun {_} => In_ev.imp (by omega)
   have hgd : fitsP .i64 ((cropsN l : Int) - 1) := fI (by omega)
   simp only [hr, Option.bind_some, hf, if_true, rCrops_eq hne, gd_pos hgd]
   by_cases h : (0 ≤ crop ∧ crop < cropsN l) ∧ (0 ≤ day ∧ day ≤ 120)
   ·rcases Least_both hf h.1 h.2 with ⟨n, n0, n1, n2⟩ | ⟨n1, n2⟩
    ·simp only [n1, n2, Option.bind_some, (hin (P := True)).some_of h.1, In_ev.some_of h.2, if_true]
     rw [if_neg (show ¬ n < 0 by omega), if_pos (by omega)]
     exact hgo
    ·simp only [n1, n2, Option.bind_some, (hin (P := True)).some_of h.1, In_ev.some_of h.2, if_true]
     rw [if_pos (by decide), if_pos (by decide)]
     exact hgo
   ·simp only [Least_out hf h, Option.bind_some, if_true]
    refine (hin (P := True)).pick (fun h1 => ?_) fun _ => by rw [if_neg (by simp)]; exact hgo
    rw [if_pos rfl]
    refine In_ev.pick (fun h2 => absurd ⟨h1, h2⟩ h) fun _ => by rw [if_neg (by simp)]; exact hgo
  ·simp only [Total_bad hf, Least_bad hf, Option.bind_some, if_neg hf, if_true]
   exact tot_end hf rfl
 ·rw [if_pos (by omega), aw, Option.bind_some]
end
end Go.Proofs.Ytbhdgedghfibcaa

namespace Go.Proofs.Ytbhdgedghfibcaa
open _root_.Go.Proofs.Try
open Go.ChangeShapes Go.WideShapes Go.ChangeAt Go.RowKit Go.Abs
set_option maxRecDepth 100000
theorem op3 : Opens prog 3 Int (fitsP .i64) := opens_int (by kernel_rfl)
theorem op4 : Opens prog 4 Bool (fun _ => True) := opens_bool (by kernel_rfl)
theorem op73 : Opens prog 73 (List Int) (fun l => l.length ≤ maxLen ∧ ∀ a0 ∈ l, fitsP .i64 a0) := opens_slice (by kernel_rfl) (by kernel_rfl) op3
theorem op77 : Opens prog 77 (List (List Int)) (fun l => l.length ≤ maxLen ∧ ∀ a0 ∈ l, a0.length ≤ maxLen ∧ ∀ a1 ∈ a0, fitsP .i64 a1) := opens_slice (by kernel_rfl) (by kernel_rfl) op73
theorem op74 : Opens prog 74 (List (List (List Int))) (fun l => l.length ≤ maxLen ∧ ∀ a0 ∈ l, a0.length ≤ maxLen ∧ ∀ a1 ∈ a0, a1.length ≤ maxLen ∧ ∀ a2 ∈ a1, fitsP .i64 a2) := opens_slice (by kernel_rfl) (by kernel_rfl) op77
theorem op84 : Opens prog 84 Tf ok_Tf := opens_struct (fs := [(3, 0), (4, 1), (3, 2), (73, 3), (73, 4), (74, 5)]) (by kernel_rfl) (by kernel_rfl) (opensFs_cons (α := Int) (ok := fitsP .i64) (k := 1) op3 (by kernel_rfl) rfl (opensFs_cons (α := Bool) (ok := (fun _ => True)) (k := 1) op4 (by kernel_rfl) rfl (opensFs_cons (α := Int) (ok := fitsP .i64) (k := 1) op3 (by kernel_rfl) rfl (opensFs_cons (α := List Int) (ok := (fun l => l.length ≤ maxLen ∧ ∀ a0 ∈ l, fitsP .i64 a0)) (k := 1) op73 (by kernel_rfl) rfl (opensFs_cons (α := List Int) (ok := (fun l => l.length ≤ maxLen ∧ ∀ a0 ∈ l, fitsP .i64 a0)) (k := 1) op73 (by kernel_rfl) rfl (opensFs_cons (α := List (List (List Int))) (ok := (fun l => l.length ≤ maxLen ∧ ∀ a0 ∈ l, a0.length ≤ maxLen ∧ ∀ a1 ∈ a0, a1.length ≤ maxLen ∧ ∀ a2 ∈ a1, fitsP .i64 a2)) (k := 1) op74 (by kernel_rfl) rfl opensFs_nil)))))) (by kernel_rfl) fun m vs h => by
 obtain ⟨a0, c0, r0, m0, h0, p0, k0, s0, ⟨a1, c1, r1, m1, h1, p1, k1, s1, ⟨a2, c2, r2, m2, h2, p2, k2, s2, ⟨a3, c3, r3, m3, h3, p3, k3, s3, ⟨a4, c4, r4, m4, h4, p4, k4, s4, ⟨a5, c5, r5, m5, h5, p5, k5, s5, rfl⟩⟩⟩⟩⟩⟩ := h
 have p0 : c0 = [.int .i64 a0] := p0; subst p0
 have p1 : c1 = [.bool a1] := p1; subst p1
 have p2 : c2 = [.int .i64 a2] := p2; subst p2
 obtain ⟨d3, rfl, p3⟩ := p3
 obtain ⟨d4, rfl, p4⟩ := p4
 obtain ⟨d5, rfl, p5⟩ := p5
 subst h5 h4 h3 h2 h1 h0
 exact ⟨⟨a0, a1, a2, a3, a4, a5⟩, ⟨_, _, _, rfl, p3, p4, p5⟩, ⟨k0, k1, k2, k3, k4, k5⟩⟩
theorem op22 : Opens prog 22 (List Tf) (fun l => l.length ≤ maxLen ∧ ∀ a0 ∈ l, ok_Tf a0) := opens_slice (by kernel_rfl) (by kernel_rfl) op84
theorem op37 : Opens prog 37 Rg ok_Rg := opens_struct (fs := [(3, 0), (3, 1)]) (by kernel_rfl) (by kernel_rfl) (opensFs_cons (α := Int) (ok := fitsP .i64) (k := 1) op3 (by kernel_rfl) rfl (opensFs_cons (α := Int) (ok := fitsP .i64) (k := 1) op3 (by kernel_rfl) rfl opensFs_nil)) (by kernel_rfl) fun m vs h => by
 obtain ⟨a0, c0, r0, m0, h0, p0, k0, s0, ⟨a1, c1, r1, m1, h1, p1, k1, s1, rfl⟩⟩ := h
 have p0 : c0 = [.int .i64 a0] := p0; subst p0
 have p1 : c1 = [.int .i64 a1] := p1; subst p1
 subst h1 h0
 exact ⟨⟨a0, a1⟩, rfl, ⟨k0, k1⟩⟩
theorem op39 : Opens prog 39 Clm ok_Clm := opens_struct (fs := [(3, 0), (3, 1), (37, 2), (37, 4)]) (by kernel_rfl) (by kernel_rfl) (opensFs_cons (α := Int) (ok := fitsP .i64) (k := 1) op3 (by kernel_rfl) rfl (opensFs_cons (α := Int) (ok := fitsP .i64) (k := 1) op3 (by kernel_rfl) rfl (opensFs_cons (α := Rg) (ok := ok_Rg) (k := 2) op37 (by kernel_rfl) rfl (opensFs_cons (α := Rg) (ok := ok_Rg) (k := 2) op37 (by kernel_rfl) rfl opensFs_nil)))) (by kernel_rfl) fun m vs h => by
 obtain ⟨a0, c0, r0, m0, h0, p0, k0, s0, ⟨a1, c1, r1, m1, h1, p1, k1, s1, ⟨a2, c2, r2, m2, h2, p2, k2, s2, ⟨a3, c3, r3, m3, h3, p3, k3, s3, rfl⟩⟩⟩⟩ := h
 have p0 : c0 = [.int .i64 a0] := p0; subst p0
 have p1 : c1 = [.int .i64 a1] := p1; subst p1
 have p2 : c2 = [.int .i64 a2.Lo, .int .i64 a2.Hi] := p2; subst p2
 have p3 : c3 = [.int .i64 a3.Lo, .int .i64 a3.Hi] := p3; subst p3
 subst h3 h2 h1 h0
 exact ⟨⟨a0, a1, a2, a3⟩, rfl, ⟨k0, k1, k2, k3⟩⟩
theorem op64 : Opens prog 64 (List Clm) (fun l => l.length ≤ maxLen ∧ ∀ a0 ∈ l, ok_Clm a0) := opens_slice (by kernel_rfl) (by kernel_rfl) op39
theorem laid : laidOutB prog = true := by kernel_rfl
theorem ownNone : ownKnob prog.godebug = none := by kernel_rfl
theorem TariffTotals_lifted (os : Os) (started : os.Started) (H : Type) (enc : TypeId × Value → H) :
    ReturnsInHanded {} Try.checked os 6 .any (Rows.tariffTotalsSpec.pre6 enc Try.prog Try.f6 Rows.tariffTotalsRow.domain false) (Rows.tariffTotalsSpec.post enc Try.prog Try.f6 false true false false) := by
  refine returnsInHanded_of_change (C := Try.checked) ownNone started (by kernel_rfl) Try.func6
    (ChangeSpec.witness6 (enc := enc) (C := Try.checked) false ⟨#[], #[.slice none 0 0, .slice none 0 0, .int .i64 0, .int .i64 0], []⟩ 8 (by kernel_rfl) (by kernel_rfl) (by kernel_rfl) (by kernel_rfl)) ?_
  intro W base args ds gs before hval0 hW hcnd _
  have hval : ∀ (j : Nat) t v, Try.f6.params[j]? = some t → args[j]? = some v → Value.okWide Try.prog W .any base t v := hval0
  have hW' := hW
  obtain ⟨p, q, hA0, hV, rfl, hfz, hnd⟩ := hW
  have hA : DataW.TrodAll enc Try.prog W 0 (fun _ => true) true Try.f6.params.toList args.toList ds p := hA0
  rw [Try.params6] at hA hval
  obtain ⟨v0, v1, v2, v3, d0, d1, d2, d3, p0, p1, p2, p3, rfl, rfl, rfl, h0, h1, h2, h3⟩ := trodAll_four hA
  obtain ⟨rfl, rfl⟩ := trodVars_none hV
  obtain ⟨a0, len0, cap0, hv0⟩ := okWide_slice Try.underlying22 (hval 0 22 v0 rfl rfl)
  obtain ⟨a1, len1, cap1, hv1⟩ := okWide_slice Try.underlying64 (hval 1 64 v1 rfl rfl)
  obtain ⟨n2, hv2⟩ := okWide_int Try.underlying3 (hval 2 3 v2 rfl rfl)
  obtain ⟨n3, hv3⟩ := okWide_int Try.underlying3 (hval 3 3 v3 rfl rfl)
  have hlt : ∀ x ∈ p0 ++ p1 ++ p2 ++ p3, x.block < W.heap.size := fun x hx => by simpa using hW'.lt x (by simpa using hx)
  obtain ⟨fu0, hf0⟩ := id h0
  obtain ⟨fu1, hf1⟩ := id h1
  obtain ⟨fu2, hf2⟩ := id h2
  obtain ⟨fu3, hf3⟩ := id h3
  clear hA0 hval0
  obtain ⟨e0, m0, w0, a_0, le0, sv0, lay0, cr0, rep0, ok0⟩ := op22 H enc W true _ _ _ hf0 _ _ (Lay.nil W)
  obtain ⟨e1, m1, w1, a_1, le1, sv1, lay1, cr1, rep1, ok1⟩ := op64 H enc W true _ _ _ hf1 e0 m0 lay0
  obtain ⟨e2, m2, w2, a_2, le2, sv2, lay2, cr2, rep2, ok2⟩ := op3 H enc W true _ _ _ hf2 e1 m1 lay1
  obtain ⟨e3, m3, w3, a_3, le3, sv3, lay3, cr3, rep3, ok3⟩ := op3 H enc W true _ _ _ hf3 e2 m2 lay2
  subst hv0
  obtain ⟨c0, rfl, rep0⟩ := rep0
  have cv0 : CR e3 c0 (.slice a0 len0 cap0) := by
    cases cr0 with
    | cons h _ => exact CR.mono ((le1.trans le2).trans le3) h
  subst hv1
  obtain ⟨c1, rfl, rep1⟩ := rep1
  have cv1 : CR e3 c1 (.slice a1 len1 cap1) := by
    cases cr1 with
    | cons h _ => exact CR.mono (le2.trans le3) h
  have rep2 : w2 = [.int .i64 a_2] := rep2
  subst rep2 hv2
  have ha2 : n2 = a_2 := by
    cases cr2 with
    | cons h _ => have h : Value.int .i64 n2 = .int .i64 a_2 := h; cases h; rfl
  subst ha2
  have rep3 : w3 = [.int .i64 a_3] := rep3
  subst rep3 hv3
  have ha3 : n3 = a_3 := by
    cases cr3 with
    | cons h _ => have h : Value.int .i64 n3 = .int .i64 a_3 := h; cases h; rfl
  subst ha3
  have hargs : All2 (VR e3) [.c c0, .c c1, .c (.int .i64 n2), .c (.int .i64 n3)] [.slice a0 len0 cap0, .slice a1 len1 cap1, .int .i64 n2, .int .i64 n3] := .cons cv0 (.cons cv1 (.cons rfl (.cons rfl .nil)))
  refine (callsIn_wide.1 (call_of fits htab (s_TariffTotals (l := a_0) (claims := a_1) (crop := n2) (day := n3) lay3.pre (((rep0.subv sv1).subv sv2).subv sv3) ((rep1.subv sv2).subv sv3) (m_TariffTotals ok0 ok1 ok2 ok3) (Q := fun v _ => v = .c (.bool true)) fun _ _ => rfl) lay3.hr (args' := #[.slice a0 len0 cap0, .slice a1 len1 cap1, .int .i64 n2, .int .i64 n3]) hargs 0)).mono fun en W' hp => ?_
  obtain ⟨v, v', e', m', rfl, hst, hvr, rfl⟩ := hp
  have hv' : v' = .bool true := hvr
  subst hv'
  have hbelow := lay3.below hst
  refine ⟨_, rfl, [d0, d1, d2, d3], [], p0 ++ p1 ++ p2 ++ p3, [], p0 ++ (p1 ++ (p2 ++ p3)), [], by simpa using hW', trodAll_mk1 (shut_bool Try.underlying4 _),
    trodAll_mk4 (Below.trod laid (by kernel_rfl) (of_decide_eq_true (by kernel_rfl)) h0 hbelow fun x hx => hlt x (by simp [hx])) (Below.trod laid (by kernel_rfl) (of_decide_eq_true (by kernel_rfl)) h1 hbelow fun x hx => hlt x (by simp [hx])) (Below.trod laid (by kernel_rfl) (of_decide_eq_true (by kernel_rfl)) h2 hbelow fun x hx => hlt x (by simp [hx])) (Below.trod laid (by kernel_rfl) (of_decide_eq_true (by kernel_rfl)) h3 hbelow fun x hx => hlt x (by simp [hx])), rfl, lay3.kept hst _, fun hc => by cases hc⟩
theorem TariffTotals_holds : Rows.TariffTotalsSaid :=
 OpenClaim.holds_of_wide 6 Try.f6 rfl rfl rfl rfl rfl rfl rfl ⟨rfl, rfl, rfl, rfl, rfl⟩ rfl rfl rfl rfl rfl (by kernel_rfl) Try.func6 (by kernel_rfl)
  (of_decide_eq_true (by kernel_rfl)) (by unfold Func.isWrapper; first | (rw [if_pos (by decide +kernel)]; kernel_rfl) | (rw [if_neg (by decide +kernel)]; exact ⟨rfl, rfl⟩))
  (fun os started H enc _ => TariffTotals_lifted os started H enc)
end Go.Proofs.Ytbhdgedghfibcaa

