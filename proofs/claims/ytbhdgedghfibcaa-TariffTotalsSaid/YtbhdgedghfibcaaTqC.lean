/- An evaluator of the code of a program, its soundness, what calls ask, memory, and what functions of the program do. Condition: none; a lemma text of this claim. -/
import Derived.Test.YtbhdgedghfibcaaTqB

namespace Go.Abs
noncomputable section
variable {P : Program} {w : World} {a : Act} {e : Env} {h : H} {tm : S3 V}
variable {e0 : Env} {h0 : H} {w0 : World} {N : Nat} {ro : Option Nat} {n : Nat} {rec : Rec}
/-- a block that only the model has -/
theorem HR.other (hr : HR e h w) (co : Obj) : HR e h (w.alloc co) ∧ Step e h w e h (w.alloc co) := by
  refine ⟨⟨hr.fresh, fun b o hb => ?_, hr.inj, hr.vws.to (.refl e) (by simp) (fun c hc => heap_alloc_old w co c (Nat.lt_of_lt_of_le hc hr.vws.lim)) hr.vws.own fun _ _ h => h⟩, ⟨.refl e, Nat.le_refl _, by simp, rfl, rfl, rfl, fun c hc _ => heap_alloc_old w co c hc, fun b o c hb hc => .inr ⟨b, o, hb, hc⟩, fun c r hc => ⟨r, by rw [heap_alloc_old w co c (Array.getElem?_eq_some_iff.1 hc).1]; exact hc⟩, fun _ _ => rfl⟩⟩
  obtain ⟨cb, h1, co', h2, h3⟩ := hr.live b o hb
  exact ⟨cb, h1, co', by rw [heap_alloc_old w co cb (Array.getElem?_eq_some_iff.1 h2).1]; exact h2, h3⟩
/-- a block that is forgotten is changed -/
theorem HR.gone (hr : HR e h w) {b : Nat} {o0 : AO} {c : Nat} (hb : get5 h.t b = some o0) (hc : e.ρ b = some c) (co : Obj) (hl : ∀ r : Loop, w.heap[c]? = some (Obj.loop r) → ∃ r', co = Obj.loop r') :
    HR e (hDel h b) (w.putObj c co) ∧ Step e h w e (hDel h b) (w.putObj c co) := by
  have hlt := hr.lt hb hc
  have hapart : ∀ {k o' x}, k ≠ b → get5 h.t k = some o' → e.ρ k = some x → x ≠ c := fun {k o' x} hk hg hx hxc => hk (hr.inj k b o' o0 c hg hb (by rw [← hxc]; exact hx) hc)
  refine ⟨⟨hr.fresh, fun k o' hk => ?_, fun k k' o1 o2 x h1 h2 => hr.inj k k' o1 o2 x (get5_del5 h1).2 (get5_del5 h2).2, hr.vws.to (.refl e) (by simp [World.putObj]) (fun x hx => World.putObj_heap_other fun hcc => by
      have := hr.vws.own b o0 c hb hc; omega) (fun k o' x hk hx => hr.vws.own k o' x (get5_del5 hk).2 hx) fun _ _ h => h⟩, ⟨.refl e, Nat.le_refl _, by simp [World.putObj], rfl, rfl, rfl, fun x hx hne => ?_, fun k o' x hk hx => .inr ⟨k, o', (get5_del5 hk).2, hx⟩, fun x r hx => ?_, fun _ _ => rfl⟩⟩
  · obtain ⟨h1, h2⟩ := get5_del5 hk
    obtain ⟨cb, h4, co', h5, h6⟩ := hr.live k o' h2
    exact ⟨cb, h4, co', by rw [World.putObj_heap_other (hapart h1 h2 h4)]; exact h5, h6⟩
  · exact World.putObj_heap_other (fun (hcc : x = c) => hne b o0 hb (by rw [hcc]; exact hc))
  · by_cases hxc : x = c
    · subst hxc
      obtain ⟨r', hr'⟩ := hl r hx
      exact ⟨r', by rw [World.putObj_heap_same hlt, hr']⟩
    · exact ⟨r, by rw [World.putObj_heap_other hxc]; exact hx⟩
theorem HR.loop (hr : HR e h w) {b : Nat} {st : LoopState} {pend : Option Code} {fn : FuncId} {tml : S3 V} {ps : List Nat} {as bd : Code} (hb : get5 h.t b = some (.loop st pend fn tml ps as bd)) {c : Nat} (hc : e.ρ b = some c) :
    ∃ r : Loop, w.heap[c]? = some (.loop r) ∧ LoopOk r ∧ r.state = st ∧ r.pending = pend ∧ TR e tml r.tmps ∧ r.params.toList = ps ∧ r.assign = as ∧ r.body = bd := by
  obtain ⟨cb, h1, co, h2, h3⟩ := hr.live b _ hb
  rw [hc] at h1; cases h1
  obtain ⟨r, rfl, h4⟩ := h3
  exact ⟨r, h2, h4⟩
theorem run_getLoop {c : Nat} {r : Loop} (hc : w.heap[c]? = some (.loop r)) : (Instr.getLoop c).run P w = .ok r w := by
  simp [Instr.getLoop, getObj, Sem.run, hc]
theorem run_setLoop {c : Nat} {r : Loop} (hc : w.heap[c]? = some (.loop r)) (o : Obj) : (setObj c o).run P w = .ok () (w.putObj c o) := by
  simp only [setObj, Sem.run, World.putObj]
  simp [hc]
theorem noFail_onLoop {h : H} {b : Nat} {s : LoopState → Option Code → FuncId → S3 V → List Nat → Code → Code → Out} (hn : NoFail (onLoop h b .fail s)) : ∃ st pend fn tml ps as bd, get5 h.t b = some (.loop st pend fn tml ps as bd) ∧ onLoop h b .fail s = s st pend fn tml ps as bd := by
  unfold onLoop at hn ⊢
  cases hg : get5 h.t b with
  | none => rw [hg] at hn; exact hn.elim
  | some o =>
    rw [hg] at hn
    cases o with
    | loop st pend fn tml ps as bd => exact ⟨st, pend, fn, tml, ps, as, bd, rfl, rfl⟩
    | _ => exact hn.elim
theorem range_sound (hsnd : Sound P rec) {f : Operand} {ps : Array Tmp} {as bd : Code} (hso : slotsOk N (.rangeFunc f ps as bd) = true) (hro : RoOk ro w0) (hi : Inv e0 h0 w0 N tm h a w) {v : V} (hv : opd tm f = some v)
    (hn : NoFail (onRange rec ps.toList as bd tm h v)) : (Code.rangeFunc f ps as bd).wpIn (fenceOf ro) n P (Post e0 h0 w0 N (onRange rec ps.toList as bd tm h v)) a w := by
  obtain ⟨e, hst, hr, ht, hm, hN⟩ := hi.out
  have hfr := opd_eq ht hv
  -- the function that is ranged over
  obtain ⟨g, fx, fy, rfl⟩ : ∃ g fx fy, v = .c (.fn (.func g) fx fy) := by
    cases v with
    | c x =>
      cases x with
      | fn fn fx fy =>
        cases fn with
        | func g => exact ⟨g, fx, fy, rfl⟩
        | yield l => cases fx with
          | nil => exact hn.elim
          | cons y ys => exact hn.elim
        | _ => exact hn.elim
      | _ => exact hn.elim
    | _ => exact hn.elim
  obtain ⟨f', x', y', hfn, hfe, hx, hy⟩ : ∃ f' a' b', FnR e (.func g) f' ∧ a.eval f = .func f' a' b' ∧ All2 (WR e) fx a'.toList ∧ All2 (WR e) fy b'.toList := hfr
  have hf' : f' = .func g := hfn
  subst hf'
  have hon : onRange rec ps.toList as bd tm h (.c (.fn (.func g) fx fy)) = bind (rec (.call g (appS (mapS wV fx) (appS [.c (.fn (.yield h.nxt) [] [])] (mapS wV fy)))) e3 (hNew h (.loop .ready none 0 tm ps.toList as bd))) (afterRange rec h.nxt tm) := rfl
  rw [hon] at hn ⊢
  obtain ⟨n1, n2⟩ := noFail_bind hn
  unfold slotsOk at hso
  simp only [Bool.and_eq_true] at hso
  obtain ⟨⟨hps, has⟩, hbd⟩ := hso
  -- what is laid before the record
  obtain ⟨wa, mark, dl, henter, hra, hsta, hma⟩ : ∃ (wa : World) (mark : List Deferred) (dl : Nat), (∀ fn, (Instr.enterLoop fn a.tmps ps as bd ro).run P w = .ok (wa.heap.size, mark) (wa.alloc (.loop { state := .ready, pending := none, fn, tmps := a.tmps, params := ps, assign := as, body := bd, defers := dl }))) ∧
      HR e h wa ∧ Step e h w e h wa ∧ MarksOk e h w0 wa (mark ++ a.defers) := by
    cases hroe : ro with
    | none =>
      obtain ⟨q1, q2⟩ := hr.other (.deferred (some []))
      refine ⟨w.alloc (.deferred (some [])), [markOf w.heap.size], w.heap.size, fun fn => ?_, q1, q2, ?_⟩
      · simp [Instr.enterLoop, markOf]
      · obtain ⟨ms, m1, m2, m3⟩ := hm.step q2
        obtain ⟨ms0, m10, m20, m30⟩ := hm
        have hms : ms = ms0 := by
          have : ms.map markOf = ms0.map markOf := by rw [← m1, ← m10]
          have hinj : ∀ (l r : List Nat), l.map markOf = r.map markOf → l = r := by
            intro l
            induction l with
            | nil => intro r hlr; cases r with
              | nil => rfl
              | cons _ _ => cases hlr
            | cons x xs ih =>
              intro r hlr
              cases r with
              | nil => cases hlr
              | cons y ys =>
                simp only [List.map_cons, List.cons.injEq] at hlr
                have hxy : x = y := by
                  have := congrArg Deferred.target hlr.1
                  simpa [markOf] using this
                rw [hxy, ih ys hlr.2]
          exact hinj _ _ this
        refine ⟨w.heap.size :: ms, by rw [m1]; rfl, List.nodup_cons.2 ⟨fun hmem => ?_, m2⟩, fun r hrm => ?_⟩
        · rw [hms] at hmem
          have := (m30 _ hmem).2.1
          have := (Array.getElem?_eq_some_iff.1 this).1
          omega
        · rcases List.mem_cons.1 hrm with rfl | hrm
          · exact ⟨hst.size, heap_alloc_new w _, fun b o hb hc => absurd (hr.lt hb hc) (by omega)⟩
          · exact m3 r hrm
    | some l0 =>
      obtain ⟨r0, hr0⟩ := (hro.step hst) l0 hroe
      refine ⟨w, [], r0.defers, fun fn => ?_, hr, .refl _ _ _, by rw [List.nil_append]; exact hm⟩
      simp [Instr.enterLoop, run_getLoop hr0]
  -- the record
  have hle := Env.put_le (hra.fresh h.nxt (Nat.le_refl _)) wa.heap.size 0 0
  refine wpIn_mono (Q := Post e0 h0 w0 N _) (wpIn_rangeFunc fun fn _ => ?_) (fun _ _ _ hq => hq)
  have hlo : LoopOk { state := .ready, pending := none, fn, tmps := a.tmps, params := ps, assign := as, body := bd, defers := dl } := by
    refine ⟨by show slotsOk a.tmps.size as = true; rw [hN]; exact has, by show slotsOk a.tmps.size bd = true; rw [hN]; exact hbd, fun p hp => ?_, fun c hc => by cases hc⟩
    have := List.all_eq_true.1 hps p hp
    show p < a.tmps.size
    rw [hN]
    have : Nat.ble (p + 1) N = true := this
    exact Nat.le_of_ble_eq_true this
  have hor : OR (e.put h.nxt wa.heap.size 0 0) h.nxt (.loop .ready none 0 tm ps.toList as bd) (.loop { state := .ready, pending := none, fn, tmps := a.tmps, params := ps, assign := as, body := bd, defers := dl }) :=
    ⟨_, rfl, hlo, rfl, rfl, TR.mono hle ht, rfl, rfl, rfl⟩
  obtain ⟨b1, b2⟩ := hra.new 0 0 hor
  have hargs : All2 (VR (e.put h.nxt wa.heap.size 0 0)) (appS (mapS wV fx) (appS [.c (.fn (.yield h.nxt) [] [])] (mapS wV fy))) (x' ++ #[Value.func (.yield wa.heap.size) #[] #[]] ++ y').toList := by
    rw [appS_eq, appS_eq, Array.toList_append, Array.toList_append, List.append_assoc]
    refine (all2_wv (hx.mono fun _ _ => WR.mono hle)).app (All2.app (.cons ?_ .nil) (all2_wv (hy.mono fun _ _ => WR.mono hle)))
    exact ⟨.yield wa.heap.size, #[], #[], ⟨wa.heap.size, Env.put_self _ _ _ _ _, rfl⟩, rfl, .nil, .nil⟩
  obtain ⟨⟨gf, hgf, hgb, hgn⟩, hcall⟩ := hsnd.call g _ e3 _ _ _ _ b1 hargs n1
  refine ⟨wa.heap.size, mark, (wa.alloc (.loop { state := .ready, pending := none, fn, tmps := a.tmps, params := ps, assign := as, body := bd, defers := dl })), { target := .fn (.func g) y', args := x' ++ #[Value.func (.yield wa.heap.size) #[] #[]] }, (wa.alloc (.loop { state := .ready, pending := none, fn, tmps := a.tmps, params := ps, assign := as, body := bd, defers := dl })), g, x' ++ #[Value.func (.yield wa.heap.size) #[] #[]] ++ y', (wa.alloc (.loop { state := .ready, pending := none, fn, tmps := a.tmps, params := ps, assign := as, body := bd, defers := dl })), henter fn, ?_, fun _ _ => trivial, ?_, (fun hx => absurd hx (by simp [fenceOf, Fence.wide])), CallsIn.mono (F := fenceOf ro) (hcall (n - 1)) (fun en w3 hp => ?_)⟩
  · have hmp : (#[Operand.const (Value.func (.yield wa.heap.size) #[] #[])].map a.eval) = #[Value.func (.yield wa.heap.size) #[] #[]] := by simp [Act.eval]
    simp only [resolve, hfe, hmp, Deferred.ofValue, Sem.run_pure]
  · simp only [invoke]
    exact run_callFunc hgf hgb hgn _
  · obtain ⟨v, v', tm', e', h', rfl, q0, q1, q2, q3⟩ := hp
    have hnr := n2 _ _ _ q0
    obtain ⟨st, pend, fn1, tml, ps1, as1, bd1, hg5, hoe⟩ := noFail_onLoop (show NoFail (onLoop h' h.nxt .fail _) from hnr)
    have hae : afterRange rec h.nxt tm (.val v) tm' h' = LoopState.rec (motive := fun _ => Out) (jumpO rec tm (hDel h' h.nxt) pend) .fail (jumpO rec tm (hDel h' h.nxt) pend) (jumpO rec tm (hDel h' h.nxt) pend) st := hoe
    have hρ : e'.ρ h.nxt = some wa.heap.size := q1.le.ρ _ _ (Env.put_self _ _ _ _ _)
    obtain ⟨r, hrl, hlk, hrs, hrp, _⟩ := q2.loop hg5 hρ
    have hnb : r.state ≠ .busy := fun hb => by
      rw [hae, ← hrs, hb] at hnr
      exact hnr.elim
    have hae' : afterRange rec h.nxt tm (.val v) tm' h' = jumpO rec tm (hDel h' h.nxt) pend := by
      rw [hae, ← hrs]
      cases hs : r.state with
      | busy => exact absurd hs hnb
      | _ => rfl
    have hend : (Instr.endLoop wa.heap.size).run P w3 = .ok r.pending (w3.putObj wa.heap.size (.loop { r with state := .exhausted })) := by
      simp [Instr.endLoop, run_getLoop hrl, hnb, run_setLoop hrl]
    obtain ⟨c1, c2⟩ := q2.gone hg5 hρ (.loop { r with state := .exhausted }) (fun r' _ => ⟨_, rfl⟩)
    have hall : Step e h wa e' (hDel h' h.nxt) (w3.putObj wa.heap.size (.loop { r with state := .exhausted })) := (b2.trans q1).trans c2
    have hinv : Inv e0 h0 w0 N tm (hDel h' h.nxt) { a with defers := mark ++ a.defers } (w3.putObj wa.heap.size (.loop { r with state := .exhausted })) :=
      .mk' (hst.trans (hsta.trans hall)) c1 (TR.mono hall.le ht) (hma.step hall) hN
    generalize (w3.putObj wa.heap.size (.loop { r with state := .exhausted })) = W4 at hend hinv
    refine ⟨r.pending, W4, hend, ?_⟩
    rw [hae'] at hnr
    cases hpe : r.pending with
    | none =>
      rw [← hrp, hpe] at hnr hae'
      exact ⟨.nrm, tm, hDel h' h.nxt, leaf_bind q0 (by rw [hae']; exact .ok _ _ _), rfl, hinv⟩
    | some c =>
      rw [← hrp, hpe] at hnr hae'
      rcases hlk.2.2.2 c hpe with rfl | ⟨id, rfl⟩
      · exact wpIn_ret ⟨.ret, tm, hDel h' h.nxt, leaf_bind q0 (by rw [hae']; exact .ok _ _ _), rfl, hinv⟩
      · exact wpIn_exit ⟨.exit id, tm, hDel h' h.nxt, leaf_bind q0 (by rw [hae']; exact .ok _ _ _), rfl, hinv⟩
theorem Inv.sub {tm' : S3 V} (hi : Inv e0 h0 w0 N tm h a w) (ht : ∀ k v, get3 tm' k = some v → get3 tm k = some v) : Inv e0 h0 w0 N tm' h a w := by
  obtain ⟨e, hst, hr, htr, hm, hN⟩ := hi.out
  exact .mk' hst hr (fun t v hv => htr t v (ht t v hv)) hm hN
theorem wpIn_scope {F : Fence} {c : Code} {Q : Exit → Act → World → Prop} (hh : c.wpIn F n P Q a w) (hq : ∀ l a w, ¬ Q (.goto l) a w) : (Code.scope c).wpIn F n P Q a w := by
  intro b k cs hro hb hr
  have h0 : (lone (b.atR a (.code (.scope c) :: k)) cs w).fenced P F := fenced_calm hb hr rfl
  have h1 : Go.step P (lone (b.atR a (.code (.scope c) :: k)) cs w) = .next (lone (b.atR a (.code c :: .inScope c :: k)) cs w) := step_lone_go (by simp [stepG, stepG.exec, Frame.atR])
  obtain ⟨e, a₁, w₁, hqe, harr⟩ := hh b (.inScope c :: k) cs hro hb hr
  cases e with
  | normal =>
    have h2 : Go.step P (lone (b.atR a₁ (.inScope c :: k)) cs w₁) = .next (lone (b.atR a₁ k) cs w₁) := step_lone_go (by simp [stepG, stepG.exec, Frame.atR])
    exact ⟨.normal, a₁, w₁, hqe, .head h0 h1 (StepsIn.trans harr (.one (fenced_calm hb hr rfl) h2))⟩
  | exit id =>
    have hx : exitTo id (.inScope c :: k) = exitTo id k := by simp [exitTo]
    exact ⟨.exit id, a₁, w₁, hqe, fun k' hk => .head h0 h1 (harr.1 k' (by rw [hx]; exact hk)), fun hr' hk => let ⟨k₁, p1, p2⟩ := harr.2 hr' (by rw [hx]; exact hk); ⟨k₁, p1, .head h0 h1 p2⟩⟩
  | goto l => exact absurd hqe (hq l a₁ w₁)
  | ret => exact ⟨_, a₁, w₁, hqe, .of_steps (.one h0 h1) harr⟩
  | panic ch => exact ⟨_, a₁, w₁, hqe, .of_steps (.one h0 h1) harr⟩
  | outgrown => exact ⟨_, a₁, w₁, hqe, .of_steps (.one h0 h1) harr⟩
theorem codeA_sound (hP : Fits P) (hsnd : Sound P rec) : ∀ (c : Code) {tm : S3 V} {h : H} {a : Act} {w : World}, slotsOk N c = true → RoOk ro w0 → Inv e0 h0 w0 N tm h a w → NoFail (codeA P rec c tm h) →
    c.wpIn (fenceOf ro) n P (Post e0 h0 w0 N (codeA P rec c tm h)) a w := by
  intro c
  induction c with
  | skip => intro tm h a w _ _ hi _; exact wpIn_skip ⟨.nrm, tm, h, .ok _ _ _, rfl, hi⟩
  | region id ops draw =>
    intro tm h a w hso _ hi hn
    have hd : ∀ o ∈ ops.toList, ∀ t, o.dst = some t → t < N := fun o ho t hto => by
      unfold slotsOk at hso
      have := List.all_eq_true.1 hso o ho
      rw [hto] at this
      have : Nat.ble (t + 1) N = true := this
      exact Nat.le_of_ble_eq_true this
    cases draw with
    | false => exact region_sound hP hsnd hd hi hn
    | true =>
      have hn' : NoFail (orF (drawnInfo ops.toList) fun l => opsD P rec ops.toList h.nxt l tm (hGrow h (nFlt l)) [] []) := hn
      obtain ⟨l, hl, h1⟩ := noFail_orF hn'
      have heq : codeA P rec (.region id ops true) tm h = opsD P rec ops.toList h.nxt l tm (hGrow h (nFlt l)) [] [] := by
        show orF (drawnInfo ops.toList) (fun l => opsD P rec ops.toList h.nxt l tm (hGrow h (nFlt l)) [] []) = _
        rw [hl]; rfl
      rw [heq]
      exact drawn_sound hP hsnd hl hd hi h1
  | seq x y ihx ihy =>
    intro tm h a w hso hro hi hn
    unfold slotsOk at hso
    rw [Bool.and_eq_true] at hso
    obtain ⟨n1, n2⟩ := noFail_bind (show NoFail (bind (codeA P rec x tm h) (afterSeq (codeA P rec y))) from hn)
    refine wpIn_seq (wpIn_mono (ihx hso.1 hro hi n1) fun ex a' w' hq => ?_)
    obtain ⟨exx, tm', h', q1, q2, q3⟩ := hq
    have hnk := n2 _ _ _ q1
    cases exx with
    | nrm =>
      have hxn : ex = .normal := q2
      subst hxn
      refine wpIn_mono (ihy hso.2 hro q3 hnk) fun x2 a2 w2 hq2 => ?_
      obtain ⟨ex2, tm2, h2, r1, r2, r3⟩ := hq2
      exact ⟨ex2, tm2, h2, leaf_bind q1 r1, r2, r3⟩
    | exit id => have hxn : ex = .exit id := q2; subst hxn; exact ⟨.exit id, tm', h', leaf_bind q1 (.ok _ _ _), rfl, q3⟩
    | ret => have hxn : ex = .ret := q2; subst hxn; exact ⟨.ret, tm', h', leaf_bind q1 (.ok _ _ _), rfl, q3⟩
    | val v => exact q2.elim
  | cond c x y ihx ihy =>
    intro tm h a w hso hro hi hn
    unfold slotsOk at hso
    rw [Bool.and_eq_true] at hso
    have hn' : NoFail (orF (opd tm c) fun v => vBool v .fail fun t => ifB t (codeA P rec x tm h) (codeA P rec y tm h)) := hn
    obtain ⟨v, hv, h1⟩ := noFail_orF hn'
    obtain ⟨t, rfl⟩ : ∃ t, v = .c (.bool t) := by
      cases v with
      | c z => cases z with
        | bool t => exact ⟨t, rfl⟩
        | _ => exact h1.elim
      | _ => exact h1.elim
    have heq : codeA P rec (.cond c x y) tm h = ifB t (codeA P rec x tm h) (codeA P rec y tm h) := by
      show orF (opd tm c) (fun v => vBool v .fail fun t => ifB t (codeA P rec x tm h) (codeA P rec y tm h)) = _
      rw [hv]; rfl
    rw [heq]
    obtain ⟨e, hst, hr, ht, hm, hN⟩ := hi.out
    have hce : a.eval c = .bool t := opd_eq ht hv
    cases t with
    | true => exact wpIn_cond hce (ihx hso.1 hro hi h1)
    | false => exact wpIn_cond hce (ihy hso.2 hro hi h1)
  | block id b ih =>
    intro tm h a w hso hro hi hn
    obtain ⟨n1, n2⟩ := noFail_bind (show NoFail (bind (codeA P rec b tm h) (afterBlock id)) from hn)
    refine wpIn_block (wpIn_mono (ih hso hro hi n1) fun ex a' w' hq => ?_)
    obtain ⟨exx, tm', h', q1, q2, q3⟩ := hq
    cases exx with
    | nrm => have hxn : ex = .normal := q2; subst hxn; exact ⟨.nrm, tm', h', leaf_bind q1 (.ok _ _ _), rfl, q3⟩
    | exit id' =>
      have hxn : ex = .exit id' := q2
      subst hxn
      show (if id' = id then Post e0 h0 w0 N (codeA P rec (.block id b) tm h) .normal a' w' else Post e0 h0 w0 N (codeA P rec (.block id b) tm h) (.exit id') a' w')
      by_cases hid : id' = id
      · rw [if_pos hid]
        refine ⟨.nrm, tm', h', leaf_bind q1 ?_, rfl, q3⟩
        show Leaf (ifB (Nat.beq id id') (.ok .nrm tm' h') (.ok (.exit id') tm' h')) _ _ _
        rw [hid, Nat.beq_refl]; exact .ok _ _ _
      · rw [if_neg hid]
        refine ⟨.exit id', tm', h', leaf_bind q1 ?_, rfl, q3⟩
        show Leaf (ifB (Nat.beq id id') (.ok .nrm tm' h') (.ok (.exit id') tm' h')) _ _ _
        have : Nat.beq id id' = false := by
          cases hb : Nat.beq id id' with
          | false => rfl
          | true => exact absurd (natBeq_iff.1 hb).symm hid
        rw [this]; exact .ok _ _ _
    | ret => have hxn : ex = .ret := q2; subst hxn; exact ⟨.ret, tm', h', leaf_bind q1 (.ok _ _ _), rfl, q3⟩
    | val v => exact q2.elim
  | loop b ih =>
    intro tm h a w hso hro hi hn
    obtain ⟨n1, n2⟩ := noFail_bind (show NoFail (bind (codeA P rec b (headS h b tm tm) h) (afterLoop rec b (headS h b tm tm))) from hn)
    refine loopIn_code (loopIn_round (wpIn_mono (ih hso hro (hi.sub fun _ _ => get3_headS) n1) fun ex a' w' hq => ?_))
    obtain ⟨exx, tm', h', q1, q2, q3⟩ := hq
    have hnk := n2 _ _ _ q1
    cases exx with
    | nrm =>
      have hxn : ex = .normal := q2
      subst hxn
      have hl := hsnd.loop b (headS h' b (headS h b tm tm) tm') h' e0 h0 w0 N ro a' w' n hro hso (q3.sub fun _ _ => get3_headS) hnk
      intro bb k cs b1 b2 b3
      obtain ⟨e2, a2, w2, hq2, harr⟩ := hl bb k cs b1 b2 b3
      obtain ⟨ex2, tm2, h2, r1, r2, r3⟩ := hq2
      exact ⟨e2, a2, w2, ⟨ex2, tm2, h2, leaf_bind q1 r1, r2, r3⟩, harr⟩
    | exit id => have hxn : ex = .exit id := q2; subst hxn; exact ⟨.exit id, tm', h', leaf_bind q1 (.ok _ _ _), rfl, q3⟩
    | ret => have hxn : ex = .ret := q2; subst hxn; exact ⟨.ret, tm', h', leaf_bind q1 (.ok _ _ _), rfl, q3⟩
    | val v => exact q2.elim
  | rangeFunc f ps x y _ _ =>
    intro tm h a w hso hro hi hn
    obtain ⟨v, hv, h1⟩ := noFail_orF (show NoFail (orF (opd tm f) fun v => onRange rec ps.toList x y tm h v) from hn)
    have heq : codeA P rec (.rangeFunc f ps x y) tm h = onRange rec ps.toList x y tm h v := by
      show orF (opd tm f) (fun v => onRange rec ps.toList x y tm h v) = _
      rw [hv]; rfl
    rw [heq]
    exact range_sound hsnd hso hro hi hv h1
  | exit id => intro tm h a w _ _ hi _; exact wpIn_exit ⟨.exit id, tm, h, .ok _ _ _, rfl, hi⟩
  | ret => intro tm h a w _ _ hi _; exact wpIn_ret ⟨.ret, tm, h, .ok _ _ _, rfl, hi⟩
  | scope b ih =>
    intro tm h a w hso hro hi hn
    unfold slotsOk at hso
    exact wpIn_scope (Q := Post e0 h0 w0 N (codeA P rec b tm h)) (ih hso hro hi hn) fun l a' w' hq => by
      obtain ⟨ex, _, _, _, hx, _⟩ := hq
      cases ex <;> first | cases hx | exact hx.elim
  | label l => intro tm h a w _ _ hi _; exact wpIn_label ⟨.nrm, tm, h, .ok _ _ _, rfl, hi⟩
  | goto l => intro tm h a w _ _ _ hn; exact hn.elim
  | refuse y => intro tm h a w _ _ _ hn; exact hn.elim
end
end Go.Abs

namespace Go.Abs
noncomputable section
variable {P : Program} {w : World} {a : Act} {e : Env} {h : H} {tm : S3 V}
variable {e0 : Env} {h0 : H} {w0 : World} {N : Nat} {ro : Option Nat} {n : Nat} {rec : Rec}
theorem merge2_vv (v v' : V) (tm tm' : S3 V) (h h' : H) : merge2 (.ok (.val v) tm h) (.ok (.val v') tm' h') = ifB (sameV v v') (.ok (.val v) e3 (mergeH h h')) (.or (.ok (.val v) tm h) (.ok (.val v') tm' h')) := rfl
theorem merge2_cases (x y : Out) : merge2 x y = .or x y ∨ ∃ v tm h tm' h', x = .ok (.val v) tm h ∧ y = .ok (.val v) tm' h' ∧ merge2 x y = .ok (.val v) e3 (mergeH h h') := by
  cases x with
  | fail => exact .inl rfl
  | or x1 x2 => exact .inl rfl
  | ok ex tm h =>
    cases ex with
    | nrm => exact .inl rfl
    | exit id => exact .inl rfl
    | ret => exact .inl rfl
    | val v =>
      cases y with
      | fail => exact .inl rfl
      | or y1 y2 => exact .inl rfl
      | ok ex' tm' h' =>
        cases ex' with
        | nrm => exact .inl rfl
        | exit id => exact .inl rfl
        | ret => exact .inl rfl
        | val v' =>
          rw [merge2_vv]
          cases hs : sameV v v' with
          | false => exact .inl (ifB_false _ _)
          | true =>
            have := sameV_eq hs
            subst this
            exact .inr ⟨v, tm, h, tm', h', rfl, rfl, ifB_true _ _⟩
theorem merge_or (x y : Out) : merge (.or x y) = merge2 (merge x) (merge y) := rfl
theorem merge_noFail {x : Out} : NoFail (merge x) → NoFail x := by
  induction x with
  | fail => exact id
  | ok ex tm h => exact id
  | or x y ihx ihy =>
    intro hn
    rw [merge_or] at hn
    rcases merge2_cases (merge x) (merge y) with h1 | ⟨v, tm, h, tm', h', h1, h2, h3⟩
    · rw [h1] at hn
      exact ⟨ihx hn.1, ihy hn.2⟩
    · refine ⟨ihx ?_, ihy ?_⟩
      · rw [h1]; trivial
      · rw [h2]; trivial
theorem merge_leaf {x : Out} {v : V} {tm : S3 V} {h : H} (hl : Leaf x (.val v) tm h) : ∃ tm' h', Leaf (merge x) (.val v) tm' h' ∧ h.nxt ≤ h'.nxt ∧ (∀ b o, get5 h'.t b = some o → get5 h.t b = some o) ∧ ∀ b q, h'.vw b = some q → h.vw b = some q := by
  induction x with
  | fail => cases hl
  | ok ex tm1 h1 =>
    obtain ⟨rfl, rfl, rfl⟩ := leaf_ok hl
    exact ⟨tm, h, Leaf.ok _ _ _, Nat.le_refl _, fun _ _ hb => hb, fun _ _ hb => hb⟩
  | or x y ihx ihy =>
    rw [merge_or]
    rcases leaf_or hl with hl | hl
    · obtain ⟨t1, h1, q1, q2, q3⟩ := ihx hl
      rcases merge2_cases (merge x) (merge y) with h4 | ⟨v', t2, h2, t3, h3, h4, h5, h6⟩
      · rw [h4]; exact ⟨t1, h1, .l q1, q2, q3⟩
      · rw [h6]
        rw [h4] at q1
        obtain ⟨r1, r2, r3⟩ := leaf_ok q1
        cases r1; subst r3
        exact ⟨_, _, Leaf.ok _ _ _, Nat.le_trans q2 mergeH_l.1, fun b o hb => q3.1 b o (mergeH_l.2 b o hb), fun b q hb => by cases hb⟩
    · obtain ⟨t1, h1, q1, q2, q3⟩ := ihy hl
      rcases merge2_cases (merge x) (merge y) with h4 | ⟨v', t2, h2, t3, h3, h4, h5, h6⟩
      · rw [h4]; exact ⟨t1, h1, .r q1, q2, q3⟩
      · rw [h6]
        rw [h5] at q1
        obtain ⟨r1, r2, r3⟩ := leaf_ok q1
        cases r1; subst r3
        exact ⟨_, _, Leaf.ok _ _ _, Nat.le_trans q2 mergeH_r.1, fun b o hb => q3.1 b o (mergeH_r.2 b o hb), fun b q hb => by cases hb⟩
def resF (tmps : Array Value) : ResultVar → Sem Value
  | .tmp t => pure (tmps.getD t undef)
  | .cell a t => do loadVar t (← asAddr (tmps.getD a undef))
theorem results_eq (fn : Func) (tmps : Array Value) : results fn tmps = (do
    let vs ← fn.results.mapM (resF tmps)
    pure (if h : vs.size = 1 then vs[0] else .tuple vs)) := rfl
theorem resF_run {r : ResultVar} {v : V} (hr : HR e h w) (ht : TR e tm a.tmps) (hv : resultV P h tm r = some v) : ∃ v', (resF a.tmps r).run P w = .ok v' w ∧ VR e v v' := by
  cases r with
  | tmp t => exact ⟨_, rfl, ht t v hv⟩
  | cell x t =>
    have h0 : optB (get3 tm x) none (fun p => vPtr p none fun b o => loadV P h t b o) = some v := hv
    obtain ⟨p, hp, h1⟩ := optB_eq h0
    obtain ⟨b, off, rfl, h2⟩ := vPtr_eq h1
    obtain ⟨cb, hc, hx⟩ : ∃ cb, e.ρ b = some cb ∧ a.tmps.getD x undef = .pointer (some ⟨cb, off, none⟩) := ht x _ hp
    obtain ⟨v', h3, h4⟩ := ok_loadV hr h2 hc
    refine ⟨v', ?_, h4⟩
    simp only [resF, hx]
    simp [asAddr, h3]
theorem resL_run {vs : List V} : ∀ {rs : List ResultVar}, HR e h w → TR e tm a.tmps → All2 (fun r v => resultV P h tm r = some v) rs vs → ∃ vs', (rs.mapM (resF a.tmps)).run P w = .ok vs' w ∧ All2 (VR e) vs vs' := by
  induction vs with
  | nil => intro rs hr ht hv; cases hv; exact ⟨[], rfl, .nil⟩
  | cons v vs ih =>
    intro rs hr ht hv
    cases hv with
    | cons h1 h2 =>
      obtain ⟨v', q1, q2⟩ := resF_run hr ht h1
      obtain ⟨vs', q3, q4⟩ := ih hr ht h2
      exact ⟨v' :: vs', by simp [q1, q3], .cons q2 q4⟩
theorem manyV_ok {vs : List V} {vs' : List Value} {v : V} (hv : All2 (VR e) vs vs') (hm : manyV vs = some v) : VR e v (if h : vs'.toArray.size = 1 then vs'.toArray[0] else .tuple vs'.toArray) := by
  cases hv with
  | nil => cases hm; exact ⟨#[], rfl, .nil⟩
  | cons h1 h2 =>
    cases h2 with
    | nil => cases hm; exact h1
    | cons h3 h4 =>
      rename_i x x' y y' r r'
      have hm' : optB (mapO vU (x :: y :: r)) none (fun us => some (.tup us)) = some v := hm
      obtain ⟨us, hus, hv⟩ := optB_eq hm'
      cases hv
      have hsz : ¬ (x' :: y' :: r').toArray.size = 1 := by simp
      rw [dif_neg hsz]
      refine ⟨_, rfl, ?_⟩
      have hall : All2 (VR e) (x :: y :: r) (x' :: y' :: r') := .cons h1 (.cons h3 h4)
      have hmu := mapO_eq hus
      have : ∀ {l : List V} {l' : List Value} {us : List U}, All2 (VR e) l l' → All2 (fun x y => vU x = some y) l us → All2 (UR e) us l' := by
        intro l l' us ha hb
        induction hb generalizing l' with
        | nil => cases ha; exact .nil
        | cons q1 _ ih =>
          cases ha with
          | cons p1 p2 => exact .cons (VR_uV.1 (by rw [← vU_eq q1]; exact p1)) (ih p2)
      simpa using this hall hmu
theorem results_run {fn : Func} {vs : List V} {v : V} (hr : HR e h w) (ht : TR e tm a.tmps) (h1 : mapO (resultV P h tm) fn.results.toList = some vs) (h2 : manyV vs = some v) :
    ∃ v', (results fn a.tmps).run P w = .ok v' w ∧ VR e v v' := by
  obtain ⟨vs', q1, q2⟩ := resL_run hr ht (mapO_eq h1)
  refine ⟨_, ?_, manyV_ok q2 h2⟩
  rw [results_eq, Array.mapM_eq_mapM_toList]
  simp only [Sem.run_bind, Sem.run_map, q1, Result.andThen_ok, Sem.run_pure]
theorem step_mark (hst : Step e0 h0 w0 e h w) (hr : HR e h w) {r : Nat} (h1 : w0.heap.size ≤ r) (h2 : w.heap[r]? = some (.deferred (some []))) (h3 : ∀ b o, get5 h.t b = some o → e.ρ b ≠ some r) :
    Step e0 h0 w0 e h (w.putObj r (.deferred none)) ∧ HR e h (w.putObj r (.deferred none)) := by
  refine ⟨⟨hst.le, hst.nxt, by simp [World.putObj]; exact hst.size, hst.tape, hst.os, hst.output, fun c hc hn => ?_, hst.org, fun c l hl => ?_, hst.low⟩, ⟨hr.fresh, fun b o hb => ?_, hr.inj, by simp [World.putObj]; exact hr.vws.lim, hr.vws.own, fun c cs t fr hc => ?_, hr.vws.view⟩⟩
  · rw [World.putObj_heap_other (fun (hcc : c = r) => by omega)]; exact hst.keep c hc hn
  · have := (Array.getElem?_eq_some_iff.1 hl).1
    rw [World.putObj_heap_other (fun (hcc : c = r) => by omega)]; exact hst.loops c l hl
  · obtain ⟨cb, q1, co, q2, q3⟩ := hr.live b o hb
    exact ⟨cb, q1, co, by rw [World.putObj_heap_other (fun (hcc : cb = r) => h3 b o hb (by rw [← hcc]; exact q1))]; exact q2, q3⟩
  · have h4 := hr.vws.kept c cs t fr hc
    rw [World.putObj_heap_other (fun (hcc : c = r) => by rw [hcc, h2] at h4; cases h4)]; exact h4
theorem run_takeDeferred {r : Nat} (h2 : w.heap[r]? = some (.deferred (some []))) : (Instr.takeDeferred r).run P w = .ok [] (w.putObj r (.deferred none)) := by
  simp only [Instr.takeDeferred, getObj, setObj, World.putObj]
  simp [Sem.run, h2]
theorem leaves_ok {F : Fence} {fn : Func} {tmps : Array Value} {R : Ending → World → Prop} : ∀ {ms : List Nat} {w : World}, Step e0 h0 w0 e h w → HR e h w → ms.Nodup →
    (∀ r ∈ ms, w0.heap.size ≤ r ∧ w.heap[r]? = some (.deferred (some [])) ∧ ∀ b o, get5 h.t b = some o → e.ρ b ≠ some r) →
    (∀ w', Step e0 h0 w0 e h w' → HR e h w' → ∃ v, (results fn tmps).run P w' = .ok v w' ∧ R (.returned v) w') → LeavesInM F n P fn tmps R (ms.map markOf) .returning w
  | [], w, hst, hr, _, _, hK => hK w hst hr
  | r :: ms, w, hst, hr, hd, hm, hK => by
    obtain ⟨h1, h2, h3⟩ := hm r (List.mem_cons_self ..)
    obtain ⟨q1, q2⟩ := step_mark hst hr h1 h2 h3
    rw [List.nodup_cons] at hd
    rw [List.map_cons]
    unfold LeavesInM
    refine ⟨(fun hc => by cases hc), Or.inl ⟨r, _, rfl, run_takeDeferred h2, leaves_ok q1 q2 hd.2 (fun r' hr' => ?_) hK⟩⟩
    obtain ⟨p1, p2, p3⟩ := hm r' (List.mem_cons_of_mem _ hr')
    exact ⟨p1, by rw [World.putObj_heap_other (fun (hcc : r' = r) => hd.1 (by rw [← hcc]; exact hr'))]; exact p2, p3⟩
theorem enter_get {args : List V} : ∀ {i : Nat} {t : S3 V} {k : Nat} {v : V}, get3 (enterTm args i t) k = some v → (∃ j, k = i + j ∧ args[j]? = some v) ∨ get3 t k = some v := by
  induction args with
  | nil => intro i t k v hg; exact .inr hg
  | cons x xs ih =>
    intro i t k v hg
    rcases ih (show get3 (enterTm xs (Nat.succ i) (set3 t i x)) k = some v from hg) with ⟨j, rfl, hj⟩ | h1
    · exact .inl ⟨j + 1, by omega, by simpa using hj⟩
    · rcases get3_set3 h1 with ⟨rfl, rfl⟩ | ⟨_, h2⟩
      · exact .inl ⟨0, rfl, rfl⟩
      · exact .inr h2
theorem enter_ok {args : List V} {args' : Array Value} (ha : All2 (VR e) args args'.toList) (m : Nat) : TR e (enterTm args 0 e3) (args' ++ Array.replicate m undef) := fun t v hg => by
  rcases enter_get hg with ⟨j, hj, h1⟩ | h1
  · rw [Nat.zero_add] at hj
    subst hj
    obtain ⟨y, h2, h3⟩ := ha.get h1
    have h4 : args'[t]? = some y := by rw [← Array.getElem?_toList]; exact h2
    have hlt := (Array.getElem?_eq_some_iff.1 h4).1
    rw [Array.getD_eq_getD_getElem?, Array.getElem?_append_left hlt, h4]
    exact h3
  · rw [get3_e3] at h1; cases h1
theorem setParams_ok {ps : List Nat} : ∀ {args : List V} {args' : List Value} {tm tm' : S3 V} {tmps : Array Value}, All2 (VR e) args args' → TR e tm tmps → (∀ p ∈ ps, p < tmps.size) → setParams ps args tm = some tm' →
    ps.length = args'.length ∧ TR e tm' ((ps.zip args').foldl (fun ts x => ts.setIfInBounds x.1 x.2) tmps) ∧ ((ps.zip args').foldl (fun ts x => ts.setIfInBounds x.1 x.2) tmps).size = tmps.size := by
  induction ps with
  | nil =>
    intro args args' tm tm' tmps ha ht _ hs
    cases ha with
    | nil => cases hs; exact ⟨rfl, ht, rfl⟩
    | cons _ _ => cases hs
  | cons p ps ih =>
    intro args args' tm tm' tmps ha ht hp hs
    cases ha with
    | nil => cases hs
    | cons h1 h2 =>
      rename_i x y xs ys
      have hs' : setParams ps xs (set3 tm p x) = some tm' := hs
      have hput := (TR.put (a := { tmps := tmps, defers := [] }) ht h1 (d := some p) (fun t ht => by cases ht; exact hp p (List.mem_cons_self ..)))
      obtain ⟨q1, q2, q3⟩ := ih h2 (tmps := tmps.setIfInBounds p y) hput.1 (fun t ht => by simpa using hp t (List.mem_cons_of_mem _ ht)) hs'
      exact ⟨by simp [q1], q2, by rw [List.zip_cons_cons, List.foldl_cons, q3]; simp⟩
end
end Go.Abs

namespace Go.Abs
noncomputable section
variable {P : Program} {w : World} {a : Act} {e : Env} {h : H} {tm : S3 V}
variable {e0 : Env} {h0 : H} {w0 : World} {N : Nat} {ro : Option Nat} {n : Nat} {rec : Rec}
theorem call_sound (hP : Fits P) (hs : Sound P rec) {f : FuncId} {args : List V} {args' : Array Value} (hr : HR e h w) (ha : All2 (VR e) args args'.toList) (hn : NoFail (callF P rec args h P.funcs[f]?)) :
    (∃ fn, P.funcs[f]? = some fn ∧ fn.body.isNone = false ∧ (fn.name == "runtime.NumGoroutine") = false) ∧ ∀ n, CallsIn Fence.wide n P f args' w (CallPost e h w (callF P rec args h P.funcs[f]?)) := by
  obtain ⟨fn, hf, hn1⟩ := noFail_orF (show NoFail (orF P.funcs[f]? _) from hn)
  have heq : callF P rec args h P.funcs[f]? = orF fn.body fun c => ifB (fnOk fn) (ifB (Nat.ble (lenS args) fn.ntmps) (merge (bind (codeA P rec c (enterTm args 0 e3) h) (finishCall P fn))) .fail) .fail := by rw [hf]; rfl
  obtain ⟨c, hb, hn2⟩ := noFail_orF hn1
  rw [hb, orF_some] at heq
  cases hok : fnOk fn with
  | false => rw [hok] at hn2; exact hn2.elim
  | true =>
    rw [hok, ifB_true] at hn2 heq
    cases hle : Nat.ble (lenS args) fn.ntmps with
    | false => rw [hle] at hn2; exact hn2.elim
    | true =>
      rw [hle, ifB_true] at hn2 heq
      rw [heq]
      unfold fnOk at hok
      rw [hb] at hok
      have hok' : (slotsOk fn.ntmps c && fn.name != "runtime.NumGoroutine") = true := hok
      rw [Bool.and_eq_true] at hok'
      have hnm : (fn.name == "runtime.NumGoroutine") = false := by
        have := hok'.2
        rw [bne, Bool.not_eq_true'] at this
        exact this
      refine ⟨⟨fn, hf, by rw [hb]; rfl, hnm⟩, fun n => ?_⟩
      obtain ⟨m1, m2⟩ := noFail_bind (merge_noFail hn2)
      have hlen : args'.size ≤ fn.ntmps := by
        have h1 := Nat.le_of_ble_eq_true hle
        rw [lenS_eq, ha.length, Array.length_toList] at h1
        exact h1
      have hinv : Inv e h w fn.ntmps (enterTm args 0 e3) h { tmps := args' ++ Array.replicate (fn.ntmps - args'.size) undef, defers := [] } w := by
        refine .mk' (.refl e h w) hr (enter_ok ha _) ⟨[], rfl, .nil, fun r hr => by cases hr⟩ ?_
        simp only [Array.size_append, Array.size_replicate]
        omega
      refine callsIn_of_wp_marks (F := Fence.wide) hf hb trivial (wpIn_mono (codeA_sound (ro := none) (n := n) hP hs c hok'.1 (fun l hl => by cases hl) hinv m1) fun x a' w' hq => ?_)
      obtain ⟨ex, tm', h', q1, q2, q3⟩ := hq
      have hnk := m2 _ _ _ q1
      obtain ⟨e', hst, hr', ht, hm, _⟩ := q3.out
      have hfin : ∀ (hret : NoFail (retOf P fn tm' h')) (hl : ∀ ex tm2 h2, Leaf (retOf P fn tm' h') ex tm2 h2 → Leaf (bind (codeA P rec c (enterTm args 0 e3) h) (finishCall P fn)) ex tm2 h2),
          LeavesInM Fence.wide n P fn a'.tmps (CallPost e h w (merge (bind (codeA P rec c (enterTm args 0 e3) h) (finishCall P fn)))) a'.defers .returning w' := by
        intro hret hl
        obtain ⟨vs, hvs, hret1⟩ := noFail_orF (show NoFail (orF (mapO (resultV P h' tm') fn.results.toList) fun vs => orF (manyV vs) fun v => .ok (.val v) e3 h') from hret)
        obtain ⟨v, hv, _⟩ := noFail_orF hret1
        have hreq : retOf P fn tm' h' = .ok (.val v) e3 h' := by
          show orF (mapO (resultV P h' tm') fn.results.toList) (fun vs => orF (manyV vs) fun v => .ok (.val v) e3 h') = _
          rw [hvs, orF_some, hv, orF_some]
        rw [hreq] at hl
        obtain ⟨tm2, h2, r1, r2, r3⟩ := merge_leaf (hl _ _ _ (Leaf.ok _ _ _))
        obtain ⟨ms, hms, hnd, hma⟩ := hm
        rw [hms]
        refine leaves_ok hst hr' hnd hma fun w2 p1 p2 => ?_
        obtain ⟨v', s1, s2⟩ := results_run (P := P) p2 ht hvs hv
        obtain ⟨t1, t2⟩ := p2.less r2 r3.1 r3.2
        exact ⟨v', s1, v, v', tm2, e', h2, rfl, r1, p1.trans t2, t1, s2⟩
      cases ex with
      | nrm =>
        have hxn : x = .normal := q2
        subst hxn
        exact hfin hnk (fun ex tm2 h2 hl => leaf_bind q1 hl)
      | exit id => exact hnk.elim
      | ret =>
        have hxn : x = .ret := q2
        subst hxn
        exact hfin hnk (fun ex tm2 h2 hl => leaf_bind q1 hl)
      | val v => exact q2.elim
theorem fenceOf_round (l : Nat) : fenceOf (some l) = Fence.wide.inRound l := rfl
theorem loopIn_mono {F : Fence} {c : Code} {Q Q' : Exit → Act → World → Prop} (hh : LoopIn F n P c Q a w) (hq : ∀ x a w, Q x a w → Q' x a w) : LoopIn F n P c Q' a w := by
  intro b k cs b1 b2 b3
  obtain ⟨e2, a2, w2, hq2, harr⟩ := hh b k cs b1 b2 b3
  exact ⟨e2, a2, w2, hq _ _ _ hq2, harr⟩
theorem loopOk_pend {r : Loop} (hk : LoopOk r) (st : LoopState) (pend : Option Code) (hp : ∀ c, pend = some c → c = .ret ∨ ∃ id, c = .exit id) : LoopOk { r with state := st, pending := pend } := ⟨hk.1, hk.2.1, hk.2.2.1, hp⟩
theorem run_yield {c : Nat} {r : Loop} (hc : w.heap[c]? = some (.loop r)) {args : Array Value} (hz : args.size = r.params.size) : (Instr.yield c args).run P w = .ok (.round c r.fn ((r.params.zip args).foldl (fun tmps (t, a) => tmps.setIfInBounds t a) r.tmps) r.assign r.body) w := by
  simp [Instr.yield, run_getLoop hc, hz]
theorem run_beginRound {c : Nat} {r : Loop} (hc : w.heap[c]? = some (.loop r)) (hs : r.state = .ready) : (Instr.beginRound c).run P w = .ok () (w.putObj c (.loop { r with state := .busy })) := by
  simp [Instr.beginRound, run_getLoop hc, run_setLoop hc, hs]
theorem run_endRound {c : Nat} {r : Loop} (hc : w.heap[c]? = some (.loop r)) (j : Option Code) : (Instr.endRound c j).run P w = .ok (.bool j.isNone) (w.putObj c (.loop { r with state := if j.isNone then .ready else .done, pending := j })) := by
  simp [Instr.endRound, run_getLoop hc, run_setLoop hc]
theorem HR.setLoop (hr : HR e h w) {b : Nat} {o0 : AO} {c : Nat} (hb : get5 h.t b = some o0) (hc : e.ρ b = some c) {r : Loop} (hk : LoopOk r) {st : LoopState} {pend : Option Code} {fn : FuncId} {tml : S3 V} {ps : List Nat} {as bd : Code}
    (ht : TR e tml r.tmps) (h1 : r.params.toList = ps) (h2 : r.assign = as) (h3 : r.body = bd) (hp : ∀ c, pend = some c → c = .ret ∨ ∃ id, c = .exit id) :
    HR e (hSet h b (.loop st pend fn tml ps as bd)) (w.putObj c (.loop { r with state := st, pending := pend })) ∧ Step e h w e (hSet h b (.loop st pend fn tml ps as bd)) (w.putObj c (.loop { r with state := st, pending := pend })) :=
  hr.upd hb hc ⟨{ r with state := st, pending := pend }, rfl, loopOk_pend hk st pend hp, rfl, rfl, ht, h1, h2, h3⟩ (fun _ _ => ⟨_, rfl⟩)
theorem yield_sound (hP : Fits P) (hs : Sound P rec) {l : Nat} {args : List V} {cl : Nat} {args' : Array Value} (hcl : e.ρ l = some cl) (hr : HR e h w) (ha : All2 (VR e) args args'.toList) (hn : NoFail (yieldA P rec l args h)) :
    ∃ fn tmps assign body, (Instr.yield cl args').run P w = .ok (.round cl fn tmps assign body) w ∧ ∀ n, RoundIn Fence.wide n P cl fn tmps assign body w (CallPost e h w (yieldA P rec l args h)) := by
  obtain ⟨st, pend, fn1, tml, ps, as, bd, hg, heq⟩ := noFail_onLoop (show NoFail (onLoop h l .fail _) from hn)
  have heq1 : yieldA P rec l args h = LoopState.rec (motive := fun _ => Out) (orF (setParams ps args tml) fun tm' => bind (codeA P rec as tm' h) (bodyYield P rec l bd)) .fail .fail .fail st := heq
  obtain ⟨r, hw, hk, hst, hpe, htl, hps, has, hbd⟩ := hr.loop hg hcl
  rw [heq1] at hn ⊢
  cases st with
  | busy => exact hn.elim
  | done => exact hn.elim
  | exhausted => exact hn.elim
  | ready =>
    have hn1 : NoFail (orF (setParams ps args tml) fun tm' => bind (codeA P rec as tm' h) (bodyYield P rec l bd)) := hn
    obtain ⟨tm1, hset, hn2⟩ := noFail_orF hn1
    show ∃ fn tmps assign body, _ ∧ ∀ n, RoundIn Fence.wide n P cl fn tmps assign body w (CallPost e h w (orF (setParams ps args tml) fun tm' => bind (codeA P rec as tm' h) (bodyYield P rec l bd)))
    rw [hset, orF_some]
    obtain ⟨m1, m2⟩ := noFail_bind hn2
    obtain ⟨k1, k2, k3⟩ := setParams_ok ha htl (fun p hp => hk.2.2.1 p (by rw [hps]; exact hp)) hset
    have hz : args'.size = r.params.size := by
      rw [← Array.length_toList, ← Array.length_toList, ← k1, hps]
    have hfold : (r.params.zip args').foldl (fun tmps (t, a) => tmps.setIfInBounds t a) r.tmps = (ps.zip args'.toList).foldl (fun ts x => ts.setIfInBounds x.1 x.2) r.tmps := by
      rw [← Array.foldl_toList, Array.toList_zip, hps]
    refine ⟨_, _, _, _, run_yield hw hz, fun n => ?_⟩
    rw [hfold]
    generalize (ps.zip args'.toList).foldl (fun ts x => ts.setIfInBounds x.1 x.2) r.tmps = tmps0 at k2 k3
    have hinv : Inv e h w r.tmps.size tm1 h { tmps := tmps0, defers := [] } w := .mk' (.refl e h w) hr k2 ⟨[], rfl, .nil, fun r hr => by cases hr⟩ k3
    have hro : RoOk (some cl) w := fun l' hl' => by cases hl'; exact ⟨r, hw⟩
    refine roundIn_of_wpIn trivial ?_
    rw [← fenceOf_round]
    have hw1 := codeA_sound (ro := some cl) (n := n) hP hs as (by rw [← has]; exact hk.1) hro hinv m1
    rw [has]
    refine wpIn_mono hw1 fun x a1 w1 hq => ?_
    obtain ⟨ex, tm2, h2, q1, q2, q3⟩ := hq
    have hnk := m2 _ _ _ q1
    cases ex with
    | exit id => exact hnk.elim
    | ret => exact hnk.elim
    | val v => exact q2.elim
    | nrm =>
      have hxn : x = .normal := q2
      subst hxn
      obtain ⟨st2, pend2, fn2, tml2, ps2, as2, bd2, hg2, heq2⟩ := noFail_onLoop (show NoFail (onLoop h2 l .fail _) from hnk)
      have heq3 : bodyYield P rec l bd .nrm tm2 h2 = LoopState.rec (motive := fun _ => Out) (bind (codeA P rec bd tm2 (hSet h2 l (.loop .busy pend2 fn2 tml2 ps2 as2 bd2))) (endYield l)) .fail .fail .fail st2 := heq2
      obtain ⟨e1, hst1, hr1, ht1, hm1, hN1⟩ := q3.out
      have hcl1 : e1.ρ l = some cl := hst1.le.ρ _ _ hcl
      obtain ⟨r1, hw1, hk1, hs1, hp1, htl1, hps1, has1, hbd1⟩ := hr1.loop hg2 hcl1
      rw [heq3] at hnk
      cases st2 with
      | busy => exact hnk.elim
      | done => exact hnk.elim
      | exhausted => exact hnk.elim
      | ready =>
        refine ⟨_, run_beginRound hw1 hs1, ?_⟩
        obtain ⟨b1, b2⟩ := hr1.setLoop (st := .busy) (pend := pend2) (fn := fn2) hg2 hcl1 hk1 htl1 hps1 has1 hbd1 (fun c hc => hk1.2.2.2 c (by rw [hp1]; exact hc))
        have hsame : ({ r1 with state := .busy, pending := pend2 } : Loop) = { r1 with state := .busy } := by rw [← hp1]
        rw [hsame] at b1 b2
        obtain ⟨c1, c2⟩ := noFail_bind (show NoFail (bind (codeA P rec bd tm2 (hSet h2 l (.loop .busy pend2 fn2 tml2 ps2 as2 bd2))) (endYield l)) from hnk)
        have hinv2 : Inv e h w r.tmps.size tm2 (hSet h2 l (.loop .busy pend2 fn2 tml2 ps2 as2 bd2)) a1 (w1.putObj cl (.loop { r1 with state := .busy })) := .mk' (hst1.trans b2) b1 ht1 (hm1.step b2) hN1
        rw [hbd]
        have hlf : ∀ {ex tm3 h3}, Leaf (bind (codeA P rec bd tm2 (hSet h2 l (.loop .busy pend2 fn2 tml2 ps2 as2 bd2))) (endYield l)) ex tm3 h3 → Leaf (bind (codeA P rec as tm1 h) (bodyYield P rec l bd)) ex tm3 h3 := fun hl => leaf_bind q1 (by rw [heq3]; exact hl)
        refine wpIn_mono (codeA_sound (ro := some cl) (n := n) hP hs bd (by rw [← hbd]; exact hk.2.1) hro hinv2 c1) fun x3 a3 w3 hq3 => ?_
        obtain ⟨ex3, tm3, h3, s1, s2, s3⟩ := hq3
        have hnk3 := c2 _ _ _ s1
        obtain ⟨st4, pend4, fn4, tml4, ps4, as4, bd4, hg4, heq4⟩ := noFail_onLoop (show NoFail (onLoop h3 l .fail _) from hnk3)
        obtain ⟨e3', hst3, hr3, ht3, hm3, hN3⟩ := s3.out
        have hcl3 : e3'.ρ l = some cl := hst3.le.ρ _ _ hcl
        obtain ⟨r3, hw3, hk3, hs3, hp3, htl3, hps3, has3, hbd3⟩ := hr3.loop hg4 hcl3
        cases ex3 with
        | val v => exact s2.elim
        | nrm =>
          have hxn : x3 = .normal := s2
          subst hxn
          have heq5 : endYield l .nrm tm3 h3 = .ok (.val (.c (.bool true))) e3 (hSet h3 l (.loop .ready none fn4 tml4 ps4 as4 bd4)) := heq4
          obtain ⟨d1, d2⟩ := hr3.setLoop (st := .ready) (pend := none) (fn := fn4) hg4 hcl3 hk3 htl3 hps3 has3 hbd3 (fun c hc => by cases hc)
          refine ⟨_, _, run_endRound hw3 none, .c (.bool true), _, e3, e3', _, rfl, hlf (leaf_bind s1 (by rw [heq5]; exact Leaf.ok _ _ _)), hst3.trans d2, d1, rfl⟩
        | exit id =>
          have hxn : x3 = .exit id := s2
          subst hxn
          have heq5 : endYield l (.exit id) tm3 h3 = .ok (.val (.c (.bool false))) e3 (hSet h3 l (.loop .done (some (.exit id)) fn4 tml4 ps4 as4 bd4)) := heq4
          obtain ⟨d1, d2⟩ := hr3.setLoop (st := .done) (pend := some (.exit id)) (fn := fn4) hg4 hcl3 hk3 htl3 hps3 has3 hbd3 (fun c hc => by cases hc; exact .inr ⟨id, rfl⟩)
          refine ⟨_, _, run_endRound hw3 (some (.exit id)), .c (.bool false), _, e3, e3', _, rfl, hlf (leaf_bind s1 (by rw [heq5]; exact Leaf.ok _ _ _)), hst3.trans d2, d1, rfl⟩
        | ret =>
          have hxn : x3 = .ret := s2
          subst hxn
          have heq5 : endYield l .ret tm3 h3 = .ok (.val (.c (.bool false))) e3 (hSet h3 l (.loop .done (some .ret) fn4 tml4 ps4 as4 bd4)) := heq4
          obtain ⟨d1, d2⟩ := hr3.setLoop (st := .done) (pend := some .ret) (fn := fn4) hg4 hcl3 hk3 htl3 hps3 has3 hbd3 (fun c hc => by cases hc; exact .inl rfl)
          refine ⟨_, _, run_endRound hw3 (some .ret), .c (.bool false), _, e3, e3', _, rfl, hlf (leaf_bind s1 (by rw [heq5]; exact Leaf.ok _ _ _)), hst3.trans d2, d1, rfl⟩
theorem step_sound (hP : Fits P) (hs : Sound P rec) : Sound P (step P rec) where
  call := fun f args tm h e w args' hr ha hn => call_sound hP hs hr ha hn
  yield := fun l args tm h e w cl args' hcl hr ha hn => yield_sound hP hs hcl hr ha hn
  jump := fun c tm h e0 h0 w0 N ro a w n hro hso hi hn => codeA_sound hP hs c hso hro hi hn
  loop := fun c tm h e0 h0 w0 N ro a w n hro hso hi hn => by
    obtain ⟨n1, n2⟩ := noFail_bind (show NoFail (bind (codeA P rec c (headS h c tm tm) h) (afterLoop rec c (headS h c tm tm))) from hn)
    refine loopIn_round (wpIn_mono (codeA_sound hP hs c hso hro (hi.sub fun _ _ => get3_headS) n1) fun ex a' w' hq => ?_)
    obtain ⟨exx, tm', h', q1, q2, q3⟩ := hq
    have hnk := n2 _ _ _ q1
    cases exx with
    | nrm =>
      have hxn : ex = .normal := q2
      subst hxn
      refine loopIn_mono (hs.loop c (headS h' c (headS h c tm tm) tm') h' e0 h0 w0 N ro a' w' n hro hso (q3.sub fun _ _ => get3_headS) hnk) fun x a2 w2 hq2 => ?_
      obtain ⟨ex2, tm2, h2, r1, r2, r3⟩ := hq2
      exact ⟨ex2, tm2, h2, leaf_bind q1 r1, r2, r3⟩
    | exit id => have hxn : ex = .exit id := q2; subst hxn; exact ⟨.exit id, tm', h', leaf_bind q1 (.ok _ _ _), rfl, q3⟩
    | ret => have hxn : ex = .ret := q2; subst hxn; exact ⟨.ret, tm', h', leaf_bind q1 (.ok _ _ _), rfl, q3⟩
    | val v => exact q2.elim
theorem ev_sound (hP : Fits P) : ∀ k, Sound P (ev P k)
  | 0 => ⟨fun _ _ _ _ _ _ _ _ _ hn => hn.elim, fun _ _ _ _ _ _ _ _ _ _ _ hn => hn.elim, fun _ _ _ _ _ _ _ _ _ _ _ _ _ _ hn => hn.elim, fun _ _ _ _ _ _ _ _ _ _ _ _ _ _ hn => hn.elim⟩
  | k + 1 => step_sound hP (ev_sound hP k)
end
end Go.Abs

namespace Go.Abs
noncomputable section
variable {P : Program} {w : World} {a : Act} {e : Env} {h : H} {tm : S3 V}
variable {e0 : Env} {h0 : H} {w0 : World} {N : Nat} {ro : Option Nat} {n : Nat} {rec : Rec}
def tmOf (l : List (Nat × V)) : S3 V := List.rec (motive := fun _ => S3 V) e3 (fun x _ ih => set3 ih x.1 x.2) l
def blOf (l : List (Nat × AO)) : S5 AO := List.rec (motive := fun _ => S5 AO) e5 (fun x _ ih => set5 ih x.1 x.2) l
def hpOf (n : Nat) (l : List (Nat × AO)) : H := { nxt := n, t := blOf l, vw := fun _ => none }
/-- a piece ends, as it ends normally, in a state that is at least the one given -/
def covers (L : List (Nat × V)) (m : Nat) (M : List (Nat × AO)) (o : Out) : Bool :=
  Out.rec (motive := fun _ => Bool) false (fun ex tm h => exB ex
      (ifB (allS (fun x => optB (get3 tm x.1) false (sameV x.2)) L) (ifB (allS (fun x => optB (get5 h.t x.1) false (eqAO x.2)) M) (Nat.ble h.nxt m) false) false)
      (fun _ => false) false (fun _ => false))
    (fun _ _ a b => ifB a b false) o
def endsIn (v : V) (o : Out) : Bool := Out.rec (motive := fun _ => Bool) false (fun ex _ _ => exB ex false (fun _ => false) false (sameV v)) (fun _ _ a b => ifB a b false) o
theorem get3_tmOf : ∀ {l : List (Nat × V)} {k : Nat} {v : V}, get3 (tmOf l) k = some v → (k, v) ∈ l
  | [], k, v, hh => by rw [show tmOf [] = e3 from rfl, get3_e3] at hh; cases hh
  | x :: xs, k, v, hh => by
    rcases get3_set3 (show get3 (set3 (tmOf xs) x.1 x.2) k = some v from hh) with ⟨rfl, rfl⟩ | ⟨_, h2⟩
    · exact List.mem_cons_self ..
    · exact List.mem_cons_of_mem _ (get3_tmOf h2)
theorem get5_blOf : ∀ {l : List (Nat × AO)} {k : Nat} {v : AO}, get5 (blOf l) k = some v → (k, v) ∈ l
  | [], k, v, hh => by rw [show blOf [] = e5 from rfl, get5_e5] at hh; cases hh
  | x :: xs, k, v, hh => by
    rcases get5_set5 (show get5 (set5 (blOf xs) x.1 x.2) k = some v from hh) with ⟨rfl, rfl⟩ | ⟨_, h2⟩
    · exact List.mem_cons_self ..
    · exact List.mem_cons_of_mem _ (get5_blOf h2)
theorem optB_bool {α : Type} {o : Option α} {s : α → Bool} (hh : optB o false s = true) : ∃ x, o = some x ∧ s x = true := by
  cases o with
  | none => cases hh
  | some x => exact ⟨x, rfl, hh⟩
theorem covers_leaf {L : List (Nat × V)} {m : Nat} {M : List (Nat × AO)} {o : Out} (hc : covers L m M o = true) : NoFail o ∧ ∀ ex tm h, Leaf o ex tm h →
    ex = .nrm ∧ (∀ k v, get3 (tmOf L) k = some v → get3 tm k = some v) ∧ h.nxt ≤ m ∧ ∀ b x, get5 (blOf M) b = some x → get5 h.t b = some x := by
  induction o with
  | fail => cases hc
  | ok ex tm h =>
    refine ⟨trivial, fun ex' tm' h' hl => ?_⟩
    obtain ⟨rfl, rfl, rfl⟩ := leaf_ok hl
    cases ex' with
    | exit id => cases hc
    | ret => cases hc
    | val v => cases hc
    | nrm =>
      obtain ⟨h1, h2⟩ := ifB_true' (show ifB (allS (fun x => optB (get3 tm' x.1) false (sameV x.2)) L) (ifB (allS (fun x => optB (get5 h'.t x.1) false (eqAO x.2)) M) (Nat.ble h'.nxt m) false) false = true from hc)
      obtain ⟨h3, h4⟩ := ifB_true' h2
      refine ⟨rfl, fun k v hk => ?_, Nat.le_of_ble_eq_true h4, fun b x hb => ?_⟩
      · obtain ⟨y, q1, q2⟩ := optB_bool (allS_mem h1 _ (get3_tmOf hk))
        have hy : v = y := sameV_eq q2
        rw [hy]; exact q1
      · obtain ⟨y, q1, q2⟩ := optB_bool (allS_mem h3 _ (get5_blOf hb))
        have hy : x = y := eqAO_eq q2
        rw [hy]; exact q1
  | or x y ihx ihy =>
    obtain ⟨h1, h2⟩ := ifB_true' (show ifB (covers L m M x) (covers L m M y) false = true from hc)
    obtain ⟨p1, p2⟩ := ihx h1
    obtain ⟨q1, q2⟩ := ihy h2
    exact ⟨⟨p1, q1⟩, fun ex tm h hl => (leaf_or hl).elim (p2 ex tm h) (q2 ex tm h)⟩
theorem endsIn_leaf {v : V} {o : Out} (hc : endsIn v o = true) : NoFail o ∧ ∀ ex tm h, Leaf o ex tm h → ex = .val v := by
  induction o with
  | fail => cases hc
  | ok ex tm h =>
    refine ⟨trivial, fun ex' tm' h' hl => ?_⟩
    obtain ⟨rfl, rfl, rfl⟩ := leaf_ok hl
    cases ex' with
    | exit id => cases hc
    | ret => cases hc
    | nrm => cases hc
    | val v' => rw [sameV_eq (show sameV v v' = true from hc)]
  | or x y ihx ihy =>
    obtain ⟨h1, h2⟩ := ifB_true' (show ifB (endsIn v x) (endsIn v y) false = true from hc)
    obtain ⟨p1, p2⟩ := ihx h1
    obtain ⟨q1, q2⟩ := ihy h2
    exact ⟨⟨p1, q1⟩, fun ex tm h hl => (leaf_or hl).elim (p2 ex tm h) (q2 ex tm h)⟩
theorem Inv.less (hi : Inv e0 h0 w0 N tm h a w) {tm' : S3 V} {h' : H} (ht : ∀ k v, get3 tm' k = some v → get3 tm k = some v) (hn : h.nxt ≤ h'.nxt) (hh : ∀ b o, get5 h'.t b = some o → get5 h.t b = some o) (hq : ∀ b q, h'.vw b = some q → h.vw b = some q) : Inv e0 h0 w0 N tm' h' a w := by
  obtain ⟨e, hst, hr, htr, hm, hN⟩ := hi.out
  obtain ⟨q1, q2⟩ := hr.less hn hh hq
  exact .mk' (hst.trans q2) q1 (fun t v hv => htr t v (ht t v hv)) (hm.step q2) hN
/-- what a function without arguments hands back -/
def RetPost (e0 : Env) (h0 : H) (w0 : World) (v : V) : Ending → World → Prop := fun en w' => ∃ v' e' h', en = .returned v' ∧ Step e0 h0 w0 e' h' w' ∧ HR e' h' w' ∧ VR e' v v'
/-- from here on the body hands v back -/
def Good (P : Program) (fn : Func) (v : V) (c : Code) (tm : S3 V) (h : H) : Prop :=
  ∀ e0 h0 w0 n a w, Inv e0 h0 w0 fn.ntmps tm h a w → c.wpIn Fence.wide n P (bodyPostM Fence.wide n P fn (RetPost e0 h0 w0 v)) a w
theorem good_end (hP : Fits P) (hs : Sound P rec) {fn : Func} {v : V} {c : Code} (hso : slotsOk fn.ntmps c = true) (hc : endsIn v (bind (codeA P rec c tm h) (finishCall P fn)) = true) : Good P fn v c tm h := by
  intro e0 h0 w0 n a w hi
  obtain ⟨hn, hlf⟩ := endsIn_leaf hc
  obtain ⟨m1, m2⟩ := noFail_bind hn
  refine wpIn_mono (codeA_sound (ro := none) (n := n) hP hs c hso (fun l hl => by cases hl) hi m1) fun x a' w' hq => ?_
  obtain ⟨ex, tm', h', q1, q2, q3⟩ := hq
  have hnk := m2 _ _ _ q1
  obtain ⟨e', hst, hr', ht, hm, _⟩ := q3.out
  have hfin : ∀ (hret : NoFail (retOf P fn tm' h')) (hl : ∀ ex tm2 h2, Leaf (retOf P fn tm' h') ex tm2 h2 → Leaf (bind (codeA P rec c tm h) (finishCall P fn)) ex tm2 h2),
      LeavesInM Fence.wide n P fn a'.tmps (RetPost e0 h0 w0 v) a'.defers .returning w' := by
    intro hret hl
    obtain ⟨vs, hvs, hret1⟩ := noFail_orF (show NoFail (orF (mapO (resultV P h' tm') fn.results.toList) fun vs => orF (manyV vs) fun v => .ok (.val v) e3 h') from hret)
    obtain ⟨v1, hv, _⟩ := noFail_orF hret1
    have hreq : retOf P fn tm' h' = .ok (.val v1) e3 h' := by
      show orF (mapO (resultV P h' tm') fn.results.toList) (fun vs => orF (manyV vs) fun v => .ok (.val v) e3 h') = _
      rw [hvs, orF_some, hv, orF_some]
    rw [hreq] at hl
    have hv1 := hlf _ _ _ (hl _ _ _ (Leaf.ok _ _ _))
    cases hv1
    obtain ⟨ms, hms, hnd, hma⟩ := hm
    rw [hms]
    refine leaves_ok hst hr' hnd hma fun w2 p1 p2 => ?_
    obtain ⟨v', s1, s2⟩ := results_run (P := P) p2 ht hvs hv
    exact ⟨v', s1, v', e', h', rfl, p1, p2, s2⟩
  cases ex with
  | nrm =>
    have hxn : x = .normal := q2
    subst hxn
    exact hfin hnk (fun ex tm2 h2 hl => leaf_bind q1 hl)
  | exit id => exact hnk.elim
  | ret =>
    have hxn : x = .ret := q2
    subst hxn
    exact hfin hnk (fun ex tm2 h2 hl => leaf_bind q1 hl)
  | val v => exact q2.elim
def isSeq (c : Code) : Bool := match c with | .seq _ _ => true | _ => false
def seqL (c : Code) : Code := match c with | .seq x _ => x | _ => .skip
def seqR (c : Code) : Code := match c with | .seq _ y => y | _ => .skip
def rest : Nat → Code → Code
  | 0, c => c
  | k + 1, c => rest k (seqR c)
theorem isSeq_eq {c : Code} (hh : isSeq c = true) : c = .seq (seqL c) (seqR c) := by
  cases c with
  | seq x y => rfl
  | _ => cases hh
/-- a piece -/
theorem good_piece (hP : Fits P) (hs : Sound P rec) {fn : Func} {v : V} {c : Code} (hq : isSeq c = true) (hso : slotsOk fn.ntmps c = true) {L : List (Nat × V)} {m : Nat} {M : List (Nat × AO)}
    (hc : covers L m M (codeA P rec (seqL c) tm h) = true) (hg : slotsOk fn.ntmps (seqR c) = true → Good P fn v (seqR c) (tmOf L) (hpOf m M)) : Good P fn v c tm h := by
  intro e0 h0 w0 n a w hi
  rw [isSeq_eq hq] at hso ⊢
  unfold slotsOk at hso
  rw [Bool.and_eq_true] at hso
  obtain ⟨hn, hlf⟩ := covers_leaf hc
  refine wpIn_seq (wpIn_mono (codeA_sound (ro := none) (n := n) hP hs (seqL c) hso.1 (fun l hl => by cases hl) hi hn) fun x a' w' hq => ?_)
  obtain ⟨ex, tm', h', q1, q2, q3⟩ := hq
  obtain ⟨rfl, p1, p2, p3⟩ := hlf _ _ _ q1
  have hxn : x = .normal := q2
  subst hxn
  exact hg hso.2 e0 h0 w0 n a' w' (q3.less p1 p2 p3 fun b q hb => by cases hb)
def env0 : Env := { ρ := fun _ => none, sz := fun _ => 0, es := fun _ => 0, base := #[] }
def fnAt (P : Program) (f : FuncId) : Func := optB P.funcs[f]? default fun fn => fn
def bodyAt (P : Program) (f : FuncId) : Code := optB (fnAt P f).body .skip fun c => c
def okAt (P : Program) (f : FuncId) : Bool := optB P.funcs[f]? false fun fn => optB fn.body false fun c => slotsOk fn.ntmps c && fn.name != "runtime.NumGoroutine"
theorem okAt_eq {f : FuncId} (hh : okAt P f = true) : P.funcs[f]? = some (fnAt P f) ∧ (fnAt P f).body = some (bodyAt P f) ∧ slotsOk (fnAt P f).ntmps (bodyAt P f) = true ∧ ((fnAt P f).name == "runtime.NumGoroutine") = false := by
  obtain ⟨fn, hf, h1⟩ := optB_bool hh
  obtain ⟨c, hb, h2⟩ := optB_bool h1
  have hfn : fnAt P f = fn := by unfold fnAt; rw [hf]; rfl
  have hbd : bodyAt P f = c := by unfold bodyAt; rw [hfn, hb]; rfl
  rw [hbd, hfn]
  rw [Bool.and_eq_true] at h2
  refine ⟨hf, hb, h2.1, ?_⟩
  have := h2.2
  rw [bne, Bool.not_eq_true'] at this
  exact this
/-- the call, in any world, hands the bool back, and leaves what lay there -/
def Closed (P : Program) (f : FuncId) (b : Bool) : Prop := ∀ w n, CallsIn Fence.wide n P f #[] w fun en w' => en = .returned (.bool b) ∧ ∃ e' h', Step env0 (hpOf 0 []) w e' h' w'
theorem no_block {n b : Nat} {o : AO} (hb : get5 (hpOf n []).t b = some o) : False := by
  have h1 : get5 (blOf []) b = some o := hb
  cases get5_blOf h1
theorem HR.empty (w : World) (n : Nat) : HR env0 (hpOf n []) w := ⟨fun _ _ => rfl, fun _ _ hb => (no_block hb).elim, fun _ _ _ _ _ hb => (no_block hb).elim, Nat.zero_le _, fun _ _ _ hb => (no_block hb).elim, fun c cs t fr hc => by simp [env0] at hc, fun _ _ hb => by cases hb⟩
theorem closed_of {f : FuncId} {b : Bool} (hk : okAt P f = true) (hg : Good P (fnAt P f) (.c (.bool b)) (bodyAt P f) e3 (hpOf 0 [])) : Closed P f b := by
  intro w n
  obtain ⟨h1, h2, h3, h4⟩ := okAt_eq hk
  have hinv : Inv env0 (hpOf 0 []) w (fnAt P f).ntmps e3 (hpOf 0 []) { tmps := #[] ++ Array.replicate ((fnAt P f).ntmps - (#[] : Array Value).size) undef, defers := [] } w := by
    refine .mk' (.refl _ _ w) (HR.empty w 0) (fun t v hv => by rw [get3_e3] at hv; cases hv) ⟨[], rfl, .nil, fun r hr => by cases hr⟩ ?_
    simp
  refine CallsIn.mono (callsIn_of_wp_marks (F := Fence.wide) h1 h2 trivial (hg _ _ _ n _ w hinv)) fun en w' hp => ?_
  obtain ⟨v', e', h', rfl, q1, q2, q3⟩ := hp
  exact ⟨by rw [show v' = .bool b from q3], e', h', q1⟩
def findT (T : List (Nat × Bool)) (f : Nat) : Option Bool := List.rec (motive := fun _ => Option Bool) none (fun x _ ih => ifB (Nat.beq x.1 f) (some x.2) ih) T
def tab (T : List (Nat × Bool)) (rec : Rec) : Rec := fun t => Task.rec (motive := fun _ => Run) (fun c => rec (.loop c))
  (fun f args => listB args (optB (findT T f) (rec (.call f [])) fun b _ h => .ok (.val (.c (.bool b))) e3 h) fun x xs => rec (.call f (x :: xs))) (fun l args => rec (.yield l args)) (fun c => rec (.jump c)) t
def TabOk (P : Program) (T : List (Nat × Bool)) : Prop := ∀ x ∈ T, okAt P x.1 = true ∧ Closed P x.1 x.2
theorem findT_eq : ∀ {T : List (Nat × Bool)} {f : Nat} {b : Bool}, findT T f = some b → (f, b) ∈ T
  | [], _, _, hh => by cases hh
  | x :: xs, f, b, hh => by
    have h0 : ifB (Nat.beq x.1 f) (some x.2) (findT xs f) = some b := hh
    cases hb : Nat.beq x.1 f with
    | true =>
      rw [hb] at h0
      have h1 : some x.2 = some b := h0
      cases h1
      rw [← natBeq_iff.1 hb]
      exact List.mem_cons_self ..
    | false =>
      rw [hb] at h0
      exact List.mem_cons_of_mem _ (findT_eq h0)
theorem Step.over {e' : Env} {h' : H} {w' : World} (hs : Step env0 (hpOf 0 []) w e' h' w') (hr : HR e h w) : Step e h w e h w' ∧ HR e h w' := by
  have hk : ∀ c, c < w.heap.size → w'.heap[c]? = w.heap[c]? := fun c hc => hs.keep c hc fun _ _ hb => (no_block hb).elim
  refine ⟨⟨.refl e, Nat.le_refl _, hs.size, hs.tape, hs.os, hs.output, fun c hc _ => hk c hc, fun b o _ hb hc => .inr ⟨b, o, hb, hc⟩, hs.loops, fun _ _ => rfl⟩, ⟨hr.fresh, fun b o hb => ?_, hr.inj, hr.vws.to (.refl e) hs.size (fun c hc => hk c (Nat.lt_of_lt_of_le hc hr.vws.lim)) hr.vws.own fun _ _ h => h⟩⟩
  obtain ⟨cb, h1, co, h2, h3⟩ := hr.live b o hb
  exact ⟨cb, h1, co, by rw [hk cb (Array.getElem?_eq_some_iff.1 h2).1]; exact h2, h3⟩
theorem tab_sound {T : List (Nat × Bool)} (ht : TabOk P T) (hs : Sound P rec) : Sound P (tab T rec) where
  yield := fun l args tm h e w cl args' hcl hr ha hn => hs.yield l args tm h e w cl args' hcl hr ha hn
  jump := fun c tm h e0 h0 w0 N ro a w n hro hso hi hn => hs.jump c tm h e0 h0 w0 N ro a w n hro hso hi hn
  loop := fun c tm h e0 h0 w0 N ro a w n hro hso hi hn => hs.loop c tm h e0 h0 w0 N ro a w n hro hso hi hn
  call := fun f args tm h e w args' hr ha hn => by
    cases args with
    | cons x xs => exact hs.call f (x :: xs) tm h e w args' hr ha hn
    | nil =>
      cases hT : findT T f with
      | none =>
        have heq : tab T rec (.call f []) tm h = rec (.call f []) tm h := by
          show optB (findT T f) (rec (.call f [])) (fun b _ h => .ok (.val (.c (.bool b))) e3 h) tm h = _
          rw [hT]; rfl
        rw [heq] at hn ⊢
        exact hs.call f [] tm h e w args' hr ha hn
      | some b =>
        have heq : tab T rec (.call f []) tm h = .ok (.val (.c (.bool b))) e3 h := by
          show optB (findT T f) (rec (.call f [])) (fun b _ h => .ok (.val (.c (.bool b))) e3 h) tm h = _
          rw [hT]; rfl
        rw [heq]
        obtain ⟨k1, k2⟩ := ht _ (findT_eq hT)
        obtain ⟨h1, h2, h3, h4⟩ := okAt_eq k1
        have hargs : args' = #[] := by
          cases ha' : args'.toList with
          | nil => exact Array.toList_eq_nil_iff.1 ha'
          | cons _ _ => rw [ha'] at ha; cases ha
        refine ⟨⟨_, h1, by rw [h2]; rfl, h4⟩, fun n => ?_⟩
        rw [hargs]
        refine CallsIn.mono (k2 w n) fun en w' hp => ?_
        obtain ⟨rfl, e', h', hst⟩ := hp
        obtain ⟨p1, p2⟩ := hst.over hr
        exact ⟨.c (.bool b), .bool b, e3, e, h, rfl, Leaf.ok _ _ _, p1, p2, rfl⟩
end
end Go.Abs

namespace Go.Abs
noncomputable section
variable {P : Program} {rec rec' : Rec}
def Le (rec rec' : Rec) : Prop := ∀ t tm h, NoFail (rec t tm h) → rec' t tm h = rec t tm h
/-- the evaluator, with calls that are known -/
def evT (P : Program) (T : List (Nat × Bool)) (n : Nat) : Rec := Nat.rec (motive := fun _ => Rec) (fun _ _ _ => .fail) (fun _ rec => tab T (step P rec)) n
theorem Le.trans {r1 r2 r3 : Rec} (h : Le r1 r2) (h' : Le r2 r3) : Le r1 r3 := fun t tm m hn => by
  have h1 := h t tm m hn
  rw [h' t tm m (by rw [h1]; exact hn), h1]
structure M where
  nxt : Nat
  g : Nat → Option AO
  vw : Nat → Option (Nat × List C)
def toH (m : M) : H := { nxt := m.nxt, t := .f m.g, vw := m.vw }
def M.set (m : M) (b : Nat) (o : AO) : M := { nxt := m.nxt, g := fun j => if j = b then some o else m.g j, vw := m.vw }
def M.new (m : M) (o : AO) : M := { nxt := m.nxt + 1, g := fun j => if j = m.nxt then some o else m.g j, vw := m.vw }
def M.del (m : M) (b : Nat) : M := { nxt := m.nxt, g := fun j => if j = b then none else m.g j, vw := m.vw }
theorem put_f {α : Type} (g : Nat → Option α) (k : Nat) (x : L α) : put5 (.f g) k x = .f fun j => ifB (Nat.beq j k) (atL k x) (g j) := rfl
theorem ifB_beq {α : Type} (j k : Nat) (x y : α) : ifB (Nat.beq j k) x y = if j = k then x else y := by
  by_cases h : j = k
  · rw [if_pos h, h, Nat.beq_refl]; rfl
  · rw [if_neg h]
    cases hb : Nat.beq j k with
    | true => exact absurd (Nat.eq_of_beq_eq_true hb) h
    | false => rfl
theorem toH_set (m : M) (b : Nat) (o : AO) : hSet (toH m) b o = toH (m.set b o) := by
  show ({ nxt := m.nxt, t := put5 (.f m.g) b (.x b o), vw := m.vw } : H) = _
  rw [put_f]
  have : (fun j => ifB (Nat.beq j b) (atL b (L.x b o)) (m.g j)) = (m.set b o).g := by
    funext j
    rw [ifB_beq]
    show (if j = b then ifB (Nat.beq b b) (some o) none else m.g j) = _
    rw [Nat.beq_refl]; rfl
  rw [this]; rfl
theorem toH_new (m : M) (o : AO) : hNew (toH m) o = toH (m.new o) := by
  have := congrArg H.t (toH_set m m.nxt o)
  show ({ nxt := Nat.succ m.nxt, t := set5 (toH m).t m.nxt o, vw := m.vw } : H) = _
  rw [show set5 (toH m).t m.nxt o = (hSet (toH m) m.nxt o).t from rfl, this]; rfl
theorem toH_del (m : M) (b : Nat) : hDel (toH m) b = toH (m.del b) := by
  show ({ nxt := m.nxt, t := put5 (.f m.g) b .e, vw := m.vw } : H) = _
  rw [put_f]
  have : (fun j => ifB (Nat.beq j b) (atL b (L.e : L AO)) (m.g j)) = (m.del b).g := by
    funext j
    rw [ifB_beq]; rfl
  rw [this]; rfl
theorem toH_get (m : M) (b : Nat) : get5 (toH m).t b = m.g b := rfl
abbrev PostM := Ex → S3 V → M → Prop
def hM (o : Out) (Q : PostM) : Prop := ∃ ex tm m, o = .ok ex tm (toH m) ∧ Q ex tm m
/-- a task, with enough fuel -/
def Wt (P : Program) (T : List (Nat × Bool)) (t : Task) (tm : S3 V) (m : M) (Q : PostM) : Prop := ∃ k, hM (evT P T k t tm (toH m)) Q
def valQ (Q : V → M → Prop) : PostM := fun ex _ m => exB ex False (fun _ => False) False fun v => Q v m
/-- a call -/
def Wc (P : Program) (T : List (Nat × Bool)) (f : FuncId) (args : List V) (m : M) (Q : V → M → Prop) : Prop := Wt P T (.call f args) e3 m (valQ Q)
/-- a call of a loop's body -/
def Wy (P : Program) (T : List (Nat × Bool)) (l : Nat) (args : List V) (m : M) (Q : V → M → Prop) : Prop := Wt P T (.yield l args) e3 m (valQ Q)
end
end Go.Abs

namespace Go.Abs
noncomputable section
def orP {α : Type} (o : Option α) (s : α → Prop) : Prop := optB o False s
def fitsP (k : IntKind) (n : Int) : Prop := IntKind.rec (motive := fun _ => Prop)
  (-128 ≤ n ∧ n < 128) (-32768 ≤ n ∧ n < 32768) (-2147483648 ≤ n ∧ n < 2147483648) (-9223372036854775808 ≤ n ∧ n < 9223372036854775808)
  (0 ≤ n ∧ n < 256) (0 ≤ n ∧ n < 65536) (0 ≤ n ∧ n < 4294967296) (0 ≤ n ∧ n < 18446744073709551616) k
def ptAdd (c : C) (d : Nat) : C := match c with | .ptr b o => .ptr b (o + d) | c => c
def slAt (c : C) (d : Nat) : C := match c with | .sl b o _ _ _ => .ptr b (o + d) | c => c
def ldA (m : M) (x : C) (n : Nat) : Option (List C) := match x with
  | .ptr b o => rdA (toH m) b o n
  | _ => none
def stC (m : M) (x : C) (n : Nat) (new : List C) : Option M := match x with
  | .ptr b o => match m.g b with
    | some (.cells n' vs opn) => ifB (Nat.beq n' n) (ifB (Nat.beq o 0) (some (m.set b (.cells n' new opn))) none) (optB (splice o new vs) none fun vs' => some (m.set b (.cells n' vs' opn)))
    | _ => none
  | _ => none
def newP (m : M) (o : AO) (K : M → Prop) : Prop := ∀ m', m' = m.new o → K m'
def subC (sz : Nat) (x : C) (l k : Nat) : Option C := match x with
  | .sl0 => ifB (Nat.beq l 0) (ifB (Nat.beq k 0) (some .sl0) none) none
  | .sl b o n s c => ifB (Nat.ble l k)
      (optB c (ifB (Nat.ble k n) (ifB (Nat.beq s sz) (some (.sl b (Nat.add o (Nat.mul l s)) (Nat.sub k l) s none)) none) none)
        fun c => ifB (Nat.ble k c) (some (.sl b (ifB (Nat.beq c l) o (Nat.add o (Nat.mul l sz))) (Nat.sub k l) 0 (some (Nat.sub c l)))) none) none
  | _ => none
/-- append: to s what x has -/
def ApR (P : Program) (t : TypeId) (m : M) (s x : C) (c : C) (m' : M) : Prop := appendV P (toH m) t (.c s) (.c x) = some (.val (.c c) (toH m'))
def callP (P : Program) (T : List (Nat × Bool)) (args : List V) (x : C) (m : M) (K : V → M → Prop) : Prop :=
  C.rec (motive := fun _ => Prop) (fun _ => False) (fun _ _ => False) (fun _ => False) False (fun _ _ => False) False (fun _ _ _ _ _ => False) False (fun _ => False)
    (fun f a b => Fn.rec (motive := fun _ => Prop) (fun g => Wc P T g (appS (mapS wV a) (appS args (mapS wV b))) m K) (fun _ => False) (fun t n => listB a (listB b (orP (methR P t n args) fun r => R.rec (motive := fun _ => Prop) (fun _ _ => False) (fun g vs => Wc P T g vs m K) (fun _ _ => False) (fun _ => False) r) fun _ _ => False) fun _ _ => False) (fun _ _ _ _ => False)
      (fun l => listB a (Wy P T l args m K) fun _ _ => False) f) False False x
end
end Go.Abs

namespace Go.Abs
noncomputable section
variable {P : Program} {T : List (Nat × Bool)} {tm : S3 V} {m : M} {K : V → M → Prop}
theorem onCells_toH {β : Type} {b n : Nat} {vs : List C} {opn : Bool} {d : β} {s : Nat → List C → Bool → β} (hg : m.g b = some (.cells n vs opn)) : onCells (toH m) b d s = s n vs opn := by
  unfold onCells
  rw [toH_get, hg]; rfl
/-- what an operation's answer is worth -/
def RK (P : Program) (T : List (Nat × Bool)) (m : M) (K : V → M → Prop) : R → Prop
  | .val v h' => ∃ m', h' = toH m' ∧ K v m'
  | .call f args => Wc P T f args m K
  | .yield l args => Wy P T l args m K
  | .alts _ => False
def isV (r : R) : Bool := match r with | .val _ _ => true | _ => false
theorem RK.same {X : Prop} {v : V} {r : Option R} (hr : r = some (.val v (toH m))) (h : K v m) : ∃ r', r = some r' ∧ RK P T m K r' ∧ (isV r' = true ∨ X) := ⟨_, hr, ⟨m, rfl, h⟩, .inl rfl⟩
theorem RK.to {X : Prop} {v : V} {m' : M} {r : Option R} (hr : r = some (.val v (toH m'))) (h : K v m') : ∃ r', r = some r' ∧ RK P T m K r' ∧ (isV r' = true ∨ X) := ⟨_, hr, ⟨m', rfl, h⟩, .inl rfl⟩
theorem RK.new {X : Prop} {o : AO} {v : V} {r : Option R} (hr : r = some (.val v (hNew (toH m) o))) (h : newP m o fun m' => K v m') : ∃ r', r = some r' ∧ RK P T m K r' ∧ (isV r' = true ∨ X) := ⟨_, hr, ⟨m.new o, by rw [toH_new], h _ rfl⟩, .inl rfl⟩
end
end Go.Abs

namespace Go.Abs
noncomputable section
variable {P : Program} {rec : Rec}
def Same (A : List Nat) (tm tm' : S3 V) : Prop := ∀ p, (∀ s ∈ A, path3 s ≠ p) → look3 p tm' = look3 p tm
theorem Same.refl (A : List Nat) (tm : S3 V) : Same A tm tm := fun _ _ => rfl
theorem Same.trans {A B C : List Nat} {t1 t2 t3 : S3 V} (h : Same A t1 t2) (h' : Same B t2 t3) (ha : ∀ s ∈ A, s ∈ C) (hb : ∀ s ∈ B, s ∈ C) : Same C t1 t3 := fun p hp =>
  (h' p fun s hs => hp s (hb s hs)).trans (h p fun s hs => hp s (ha s hs))
theorem Same.sub {A B : List Nat} {t1 t2 : S3 V} (h : Same A t1 t2) (hs : ∀ s ∈ A, s ∈ B) : Same B t1 t2 := fun p hp => h p fun s hm => hp s (hs s hm)
end
end Go.Abs

namespace Go.Abs
noncomputable section
theorem takeS_of {α : Type} : ∀ (n : Nat) (l : List α), n ≤ l.length → takeS n l = some (l.take n)
  | 0, l, _ => by rw [List.take_zero]; rfl
  | n + 1, [], h => by simp at h
  | n + 1, x :: xs, h => by
    show optB (takeS n xs) none (fun r => some (consS x r)) = _
    rw [takeS_of n xs (by simpa using h), optB_some, consS_eq]; simp
theorem dropS_of {α : Type} : ∀ (n : Nat) (l : List α), n ≤ l.length → dropS n l = some (l.drop n)
  | 0, l, _ => rfl
  | n + 1, [], h => by simp at h
  | n + 1, x :: xs, h => by
    show dropS n xs = _
    rw [dropS_of n xs (by simpa using h)]; simp
theorem seg_of {α : Type} {l : List α} {o n : Nat} (h : o + n ≤ l.length) : seg l o n = some ((l.drop o).take n) := by
  unfold seg
  rw [dropS_of o l (by omega), optB_some, takeS_of n _ (by simp; omega)]
theorem M.nxt_new (m : M) (o : AO) : (m.new o).nxt = m.nxt + 1 := rfl
theorem M.g_new (m : M) (o : AO) (b : Nat) : (m.new o).g b = if b = m.nxt then some o else m.g b := rfl
theorem M.g_set (m : M) (c : Nat) (o : AO) (b : Nat) : (m.set c o).g b = if b = c then some o else m.g b := rfl
theorem M.vw_new (m : M) (o : AO) : (m.new o).vw = m.vw := rfl
theorem M.g_del (m : M) (c b : Nat) : (m.del c).g b = if b = c then none else m.g b := rfl
def cellsA (o : Option AO) (k n : Nat) : Option (List C) := match o with | some (.cells n' vs _) => ifB (Nat.beq k 0) (ifB (Nat.beq n' n) (some vs) (seg vs k n)) (seg vs k n) | _ => none
def rdsK (o : Option AO) (q : Option (Nat × List C)) (k n : Nat) : Option (List C) := match o with | some x => cellsA (some x) k n | none => optB q none fun q => ifB (Nat.ble q.1 k) (seg q.2 (k - q.1) n) none
theorem ldA_g (m : M) (b k n : Nat) : ldA m (.ptr b k) n = rdsK (m.g b) (m.vw b) k n := by
  show optB (m.g b) _ _ = _
  cases m.g b with
  | none => rfl
  | some x => cases x <;> rfl
theorem rdsK_some (x : AO) (q : Option (Nat × List C)) (k n : Nat) : rdsK (some x) q k n = cellsA (some x) k n := rfl
theorem rdsK_view {o : Nat} {vs : List C} {k n : Nat} (h : o ≤ k) (h2 : k - o + n ≤ vs.length) : rdsK none (some (o, vs)) k n = some ((vs.drop (k - o)).take n) := by
  show ifB (Nat.ble o k) (seg vs (k - o) n) none = _
  rw [Nat.ble_eq_true_of_le h, seg_of h2]; rfl
theorem cellsA_part {n : Nat} {vs : List C} {op : Bool} {k j : Nat} (hn : vs.length = n) (h : k + j ≤ n) : cellsA (some (.cells n vs op)) k j = some ((vs.drop k).take j) := by
  show ifB (Nat.beq k 0) (ifB (Nat.beq n j) (some vs) (seg vs k j)) (seg vs k j) = _
  have hs : seg vs k j = some ((vs.drop k).take j) := seg_of (by omega)
  rw [hs]
  cases h1 : Nat.beq k 0 with
  | false => rfl
  | true =>
    cases h2 : Nat.beq n j with
    | false => rfl
    | true =>
      have := Nat.eq_of_beq_eq_true h1
      have := Nat.eq_of_beq_eq_true h2
      subst_vars
      simp [ifB]
/-- what lay there lies there -/
structure Ext (m m' : M) : Prop where
  nxt : m.nxt ≤ m'.nxt
  g : ∀ b, b < m.nxt → m'.g b = m.g b
  vw : m'.vw = m.vw
theorem Ext.refl (m : M) : Ext m m := ⟨Nat.le_refl _, fun _ _ => rfl, rfl⟩
theorem Ext.trans {a b c : M} (h : Ext a b) (h' : Ext b c) : Ext a c := ⟨Nat.le_trans h.nxt h'.nxt, fun k hk => (h'.g k (Nat.lt_of_lt_of_le hk h.nxt)).trans (h.g k hk), h'.vw.trans h.vw⟩
theorem Ext.new (m : M) (o : AO) : Ext m (m.new o) := ⟨Nat.le_succ _, fun b hb => by rw [M.g_new, if_neg (by omega)], rfl⟩
end
end Go.Abs

namespace Go.Abs
noncomputable section
variable {P : Program} {T : List (Nat × Bool)}
theorem stC_of {m : M} {b n : Nat} {vs : List C} {op : Bool} (hg : m.g b = some (.cells n vs op)) (new : List C) : stC m (.ptr b 0) n new = some (m.set b (.cells n new op)) := by
  show (match m.g b with
    | some (.cells n' vs opn) => ifB (Nat.beq n' n) (ifB (Nat.beq 0 0) (some (m.set b (.cells n' new opn))) none) (optB (splice 0 new vs) none fun vs' => some (m.set b (.cells n' vs' opn)))
    | _ => none) = _
  rw [hg]
  show ifB (Nat.beq n n) (ifB (Nat.beq 0 0) (some (m.set b (.cells n new op))) none) _ = _
  rw [Nat.beq_refl, Nat.beq_refl]; rfl
/-- vs lies from o on in block b -/
def Seg (m : M) (b o : Nat) (vs : List C) : Prop :=
  (∃ n ws op, m.g b = some (.cells n ws op) ∧ ws.length = n ∧ o + vs.length ≤ n ∧ (ws.drop o).take vs.length = vs) ∨
  (m.g b = none ∧ ∃ q : Nat × List C, m.vw b = some q ∧ q.1 ≤ o ∧ o - q.1 + vs.length ≤ q.2.length ∧ (q.2.drop (o - q.1)).take vs.length = vs)
theorem Seg.rds {m : M} {b o : Nat} {vs : List C} (h : Seg m b o vs) {i j : Nat} (hi : i + j ≤ vs.length) : ldA m (.ptr b (o + i)) j = some ((vs.drop i).take j) := by
  have hsub : ∀ (l : List C) (a : Nat), (l.drop a).take vs.length = vs → (vs.drop i).take j = (l.drop (a + i)).take j := fun l a hl => by
    rw [← hl, List.drop_take, List.take_take, List.drop_drop]
    congr 1
    omega
  rcases h with ⟨n, ws, op, h1, h2, h3, h4⟩ | ⟨h1, q, h2, h3, h4, h5⟩
  · rw [ldA_g, h1, rdsK_some, cellsA_part h2 (by omega), hsub ws o h4]
  · obtain ⟨qo, qs⟩ := q
    have h3' : qo ≤ o := h3
    have h4' : o - qo + vs.length ≤ qs.length := h4
    rw [ldA_g, h1, h2, rdsK_view (by omega) (by omega), hsub qs (o - qo) h5]
    congr 3
    omega
theorem Seg.to {m m' : M} {b o : Nat} {vs : List C} (h : Seg m b o vs) (hg : m'.g b = m.g b) (hv : m'.vw = m.vw) : Seg m' b o vs := by
  unfold Seg
  rw [hg, hv]
  exact h
/-- a slice of n elements, k cells each, with the cells vs -/
structure Ls (m : M) (k : Nat) (x : C) (vs : List C) (n : Nat) : Prop where
  len : n * k = vs.length
  val : (x = .sl0 ∧ n = 0) ∨ ∃ b o s c, x = .sl b o n s c ∧ b < m.nxt ∧ (n ≠ 0 → Seg m b o vs)
theorem Ls.at {m : M} {k n : Nat} {x : C} {vs : List C} (h : Ls m k x vs n) (hn : n ≠ 0) : ∃ b o, (∀ i, slAt x i = .ptr b (o + i)) ∧ Seg m b o vs := by
  rcases h.val with ⟨rfl, h2⟩ | ⟨b, o, s, c, rfl, _, h3⟩
  · exact absurd h2 hn
  · exact ⟨b, o, fun i => rfl, h3 hn⟩
theorem Ls.pos {m : M} {k n : Nat} {x : C} {vs : List C} (h : Ls m k x vs n) {i : Nat} (hi : i < vs.length) : n ≠ 0 := fun h0 => by
  have := h.len; rw [h0, Nat.zero_mul] at this; omega
theorem Ls.rds {m : M} {k n : Nat} {x : C} {vs : List C} (h : Ls m k x vs n) {i j : Nat} (hj : 0 < j) (hi : i + j ≤ vs.length) : ldA m (slAt x i) j = some ((vs.drop i).take j) := by
  obtain ⟨b, o, h1, h2⟩ := h.at (h.pos (show i < vs.length by omega))
  rw [h1]; exact h2.rds hi
theorem Ls.add {m : M} {k n : Nat} {x : C} {vs : List C} (h : Ls m k x vs n) (hn : n ≠ 0) (i d : Nat) : ptAdd (slAt x i) d = slAt x (i + d) := by
  obtain ⟨b, o, h1, _⟩ := h.at hn
  rw [h1, h1]
  show C.ptr b (o + i + d) = _
  rw [Nat.add_assoc]
theorem Ls.src {m : M} {k n : Nat} {x : C} {vs : List C} (h : Ls m k x vs n) : srcCells (toH m) k (.c x) = some (n, vs) := by
  have hl := h.len
  rcases h.val with ⟨rfl, rfl⟩ | ⟨b, o, s, c, rfl, _, h3⟩
  · have : vs = [] := List.eq_nil_of_length_eq_zero (by rw [← hl, Nat.zero_mul])
    subst this; rfl
  · cases n with
    | zero =>
      have : vs = [] := List.eq_nil_of_length_eq_zero (by rw [← hl, Nat.zero_mul])
      subst this; rfl
    | succ n =>
      show optB (rdA (toH m) b o (Nat.mul (n + 1) k)) none (fun l => some (n + 1, l)) = _
      have := (h3 (by omega)).rds (i := 0) (j := (n + 1) * k) (by omega)
      have h4 : rdA (toH m) b o (Nat.mul (n + 1) k) = some ((vs.drop 0).take ((n + 1) * k)) := this
      rw [h4, optB_some, List.drop_zero, List.take_of_length_le (by omega)]
theorem Ls.to {m m' : M} {k n : Nat} {x : C} {vs : List C} (h : Ls m k x vs n) (hn : m.nxt ≤ m'.nxt) (hg : ∀ b, b < m.nxt → (∃ o s c, x = .sl b o n s c) → m'.g b = m.g b) (hv : m'.vw = m.vw) : Ls m' k x vs n := by
  refine ⟨h.len, ?_⟩
  rcases h.val with h1 | ⟨b, o, s, c, h1, h2, h3⟩
  · exact .inl h1
  · exact .inr ⟨b, o, s, c, h1, by omega, fun h0 => (h3 h0).to (hg b h2 ⟨o, s, c, h1⟩) hv⟩
theorem Ls.ext {m m' : M} {k n : Nat} {x : C} {vs : List C} (h : Ls m k x vs n) (he : Ext m m') : Ls m' k x vs n := h.to he.nxt (fun b hb _ => he.g b hb) he.vw
theorem Ls.nil (m : M) (k : Nat) : Ls m k .sl0 [] 0 := ⟨by simp, .inl ⟨rfl, rfl⟩⟩
theorem Ls.one {m : M} {b k : Nat} {vs : List C} {op : Bool} (hg : m.g b = some (.cells k vs op)) (hl : vs.length = k) (hb : b < m.nxt) (s : Nat) (c : Option Nat) : Ls m k (.sl b 0 1 s c) vs 1 :=
  ⟨by omega, .inr ⟨b, 0, s, c, rfl, hb, fun _ => .inl ⟨k, vs, op, hg, hl, by omega, by rw [List.drop_zero, List.take_of_length_le (by omega)]⟩⟩⟩
inductive OwnV (m : M) (k : Nat) (vs : List C) (n : Nat) : C → Prop where
  | nil : n = 0 → vs = [] → OwnV m k vs n .sl0
  | grown (b : Nat) : m.g b = some (.cells (n * k) vs true) → b < m.nxt → OwnV m k vs n (.sl b 0 n k none)
  | lit (b : Nat) : m.g b = some (.cells (n * k) vs false) → b < m.nxt → OwnV m k vs n (.sl b 0 n 0 (some n))
structure Own1 (m : M) (k : Nat) (x : C) (vs : List C) (n : Nat) : Prop where
  len : n * k = vs.length
  own : OwnV m k vs n x
/-- the block of a slice that append frees -/
def slB (x : C) : Option Nat := match x with | .sl b _ _ _ none => some b | _ => none
theorem Own1.to {m m' : M} {k n : Nat} {x : C} {vs : List C} (h : Own1 m k x vs n) (hn : m.nxt ≤ m'.nxt) (hg : ∀ b, b < m.nxt → (∃ s c, x = .sl b 0 n s c) → m'.g b = m.g b) : Own1 m' k x vs n := by
  refine ⟨h.len, ?_⟩
  cases h.own with
  | nil h1 h2 => exact .nil h1 h2
  | grown b h1 hb => exact .grown b (by rw [hg b hb ⟨_, _, rfl⟩]; exact h1) (by omega)
  | lit b h1 hb => exact .lit b (by rw [hg b hb ⟨_, _, rfl⟩]; exact h1) (by omega)
theorem Own1.ext {m m' : M} {k n : Nat} {x : C} {vs : List C} (h : Own1 m k x vs n) (he : Ext m m') : Own1 m' k x vs n := h.to he.nxt fun b hb _ => he.g b hb
theorem Own1.nil' (m : M) (k : Nat) : Own1 m k .sl0 [] 0 := ⟨by simp, .nil rfl rfl⟩
/-- append, to a slice of one's own -/
theorem ap_big {t el k : Nat} (ht : tk P t = .sl el) (hgr : growOk P el = true) (hk : P.cellsOf el = k) {m : M} {s x : C} {vs ws : List C} {n j : Nat} (hs : Own1 m k s vs n) (hx : Ls m k x ws j) (hj : 0 < j) (hk0 : 0 < k) (hnj : (n + j) * P.bytesOf el ≤ 140737488355328) :
    ∃ m', ApR P t m s x (.sl m.nxt 0 (n + j) k none) m' ∧ Own1 m' k (.sl m.nxt 0 (n + j) k none) (vs ++ ws) (n + j) ∧ m'.nxt = m.nxt + 1 ∧ m'.vw = m.vw ∧ ∀ b, b ≠ m.nxt → slB s ≠ some b → m'.g b = m.g b := by
  have hws : ws.length = j * k := hx.len.symm
  have hlen : (n + j) * k = (vs ++ ws).length := by rw [List.length_append, Nat.add_mul, hs.len, hx.len]
  have h0 : appendV P (toH m) t (.c s) (.c x) = appendR P (toH m) el (.c s) j ws := by
    show onSlT (tk P t) none _ = _
    rw [ht]
    show ifB (growOk P el) (optB (srcCells (toH m) (P.cellsOf el) (.c x)) none _) none = _
    rw [hgr, ifB_true, hk, hx.src, optB_some]
    show ifB (Nat.ble (Nat.mul j (P.bytesOf el)) 140737488355328) _ none = _
    rw [Nat.ble_eq_true_of_le (show Nat.mul j (P.bytesOf el) ≤ 140737488355328 from Nat.le_trans (Nat.mul_le_mul_right _ (Nat.le_add_left j n)) hnj), ifB_true]
  obtain ⟨j', rfl⟩ : ∃ j', j = j' + 1 := ⟨j - 1, by omega⟩
  have hmk : ∀ m1 : M, m1.nxt = m.nxt → grown (toH m1) (n + (j' + 1)) k (vs ++ ws) = some (.val (.c (.sl m.nxt 0 (n + (j' + 1)) k none)) (toH (m1.new (.cells ((n + (j' + 1)) * k) (vs ++ ws) true)))) := fun m1 h1 => by
    have : hNew (toH m1) (.cells ((n + (j' + 1)) * k) (vs ++ ws) true) = _ := toH_new m1 _
    rw [← this, ← h1]; rfl
  have fin : ∀ m1 : M, m1.nxt = m.nxt → m1.vw = m.vw → (∀ b, b ≠ m.nxt → slB s ≠ some b → m1.g b = m.g b) → appendR P (toH m) el (.c s) (j' + 1) ws = grown (toH m1) (n + (j' + 1)) k (vs ++ ws) →
      ∃ m', ApR P t m s x (.sl m.nxt 0 (n + (j' + 1)) k none) m' ∧ Own1 m' k (.sl m.nxt 0 (n + (j' + 1)) k none) (vs ++ ws) (n + (j' + 1)) ∧ m'.nxt = m.nxt + 1 ∧ m'.vw = m.vw ∧ ∀ b, b ≠ m.nxt → slB s ≠ some b → m'.g b = m.g b := fun m1 h1 h2 h3 h4 => by
    refine ⟨m1.new (.cells ((n + (j' + 1)) * k) (vs ++ ws) true), ?_, ⟨hlen, .grown _ ?_ ?_⟩, by rw [M.nxt_new, h1], by rw [M.vw_new]; exact h2, fun b hb hsb => ?_⟩
    · show appendV P (toH m) t (.c s) (.c x) = _
      rw [h0, h4, hmk m1 h1]
    · rw [M.g_new, if_pos h1.symm]
    · rw [M.nxt_new]; omega
    · rw [M.g_new, if_neg (by omega)]; exact h3 b hb hsb
  cases hs.own with
  | nil h1 h2 =>
    subst h1 h2
    refine fin m rfl rfl (fun _ _ _ => rfl) ?_
    show grown (toH m) (j' + 1) (P.cellsOf el) ws = _
    rw [hk, Nat.zero_add]; rfl
  | lit b hg hb =>
    refine fin m rfl rfl (fun _ _ _ => rfl) ?_
    show ifB (Nat.ble (Nat.mul (Nat.add n (j' + 1)) (P.bytesOf el)) 140737488355328) (onCells (toH m) b none fun bn ws' opn => ifB (Nat.ble (Nat.add n (j' + 1)) n) _ (optB (seg ws' 0 (Nat.mul n (P.cellsOf el))) none fun old => grown (toH m) (Nat.add n (j' + 1)) (P.cellsOf el) (appS old ws))) none = _
    rw [Nat.ble_eq_true_of_le (show Nat.mul (Nat.add n (j' + 1)) (P.bytesOf el) ≤ 140737488355328 from hnj), ifB_true, onCells_toH hg]
    have hb : Nat.ble (Nat.add n (j' + 1)) n = false := by
      cases hq : Nat.ble (Nat.add n (j' + 1)) n with
      | true => have : n + (j' + 1) ≤ n := Nat.le_of_ble_eq_true hq; omega
      | false => rfl
    rw [hb, ifB_false, hk, seg_of (show 0 + Nat.mul n k ≤ vs.length by have : Nat.mul n k = n * k := rfl; rw [this, hs.len]; omega), optB_some, List.drop_zero, List.take_of_length_le (by have : Nat.mul n k = n * k := rfl; rw [this, hs.len]; omega), appS_eq]
    rfl
  | grown b hg hb =>
    refine fin (m.del b) rfl rfl (fun b' _ h => by rw [M.g_del, if_neg fun h' => h (by rw [h']; rfl)]) ?_
    show ifB (Nat.ble (Nat.mul (Nat.add n (j' + 1)) (P.bytesOf el)) 140737488355328) (onCells (toH m) b none fun bn ws' opn => ifB (Nat.beq k (P.cellsOf el)) (ifB (Nat.beq 0 0)
      (optB (splice (Nat.mul n k) ws ws') (optB (takeS (Nat.mul n k) ws') none fun old => grown (hDel (toH m) b) (Nat.add n (j' + 1)) k (appS old ws)) _) none) none) none = _
    rw [Nat.ble_eq_true_of_le (show Nat.mul (Nat.add n (j' + 1)) (P.bytesOf el) ≤ 140737488355328 from hnj), ifB_true, onCells_toH hg, hk, Nat.beq_refl, Nat.beq_refl, ifB_true, ifB_true]
    have hsp : splice (Nat.mul n k) ws vs = none := by
      cases hq : splice (Nat.mul n k) ws vs with
      | none => rfl
      | some r =>
        have h1 := (splice_eq _ _ _ _ hq).1
        have h2 : Nat.mul n k = n * k := rfl
        rw [h2, hs.len, hws] at h1
        have : 0 < (j' + 1) * k := Nat.mul_pos (by omega) hk0
        omega
    rw [hsp, optB_none, takeS_of _ _ (by have : Nat.mul n k = n * k := rfl; rw [this, hs.len]; omega), optB_some, List.take_of_length_le (by have : Nat.mul n k = n * k := rfl; rw [this, hs.len]; omega), appS_eq, toH_del]
    rfl
theorem growOk_small {el : Nat} (hgr : growOk P el = true) {n : Nat} (h : n ≤ 1048576) : n * P.bytesOf el ≤ 140737488355328 := by
  unfold growOk at hgr
  simp only [Bool.and_eq_true] at hgr
  have h4 := Nat.le_of_ble_eq_true hgr.1.2
  exact Nat.le_trans (Nat.mul_le_mul h h4) (by decide)
theorem ap_own {t el k : Nat} (ht : tk P t = .sl el) (hgr : growOk P el = true) (hk : P.cellsOf el = k) {m : M} {s x : C} {vs ws : List C} {n j : Nat} (hs : Own1 m k s vs n) (hx : Ls m k x ws j) (hj : 0 < j) (hk0 : 0 < k) (hnj : n + j ≤ 1048576) :
    ∃ m', ApR P t m s x (.sl m.nxt 0 (n + j) k none) m' ∧ Own1 m' k (.sl m.nxt 0 (n + j) k none) (vs ++ ws) (n + j) ∧ m'.nxt = m.nxt + 1 ∧ m'.vw = m.vw ∧ ∀ b, b ≠ m.nxt → slB s ≠ some b → m'.g b = m.g b := ap_big ht hgr hk hs hx hj hk0 (growOk_small hgr hnj)
structure Bk (m : M) (b n : Nat) (vs : List C) : Prop where
  g : m.g b = some (.cells n vs false)
  lt : b < m.nxt
theorem Bk.ext {m m' : M} {b n : Nat} {vs : List C} (h : Bk m b n vs) (e : Ext m m') : Bk m' b n vs := ⟨(e.g b h.lt).trans h.g, Nat.lt_of_lt_of_le h.lt e.nxt⟩
theorem Bk.st {m : M} {b n : Nat} {vs : List C} (h : Bk m b n vs) (new : List C) : stC m (.ptr b 0) n new = some (m.set b (.cells n new false)) := stC_of h.g new
theorem Bk.new {m m0 : M} {n : Nat} {vs : List C} (h : m0 = m.new (.cells n vs false)) : Bk m0 m.nxt n vs ∧ Ext m m0 := by
  subst h
  exact ⟨⟨by rw [M.g_new, if_pos rfl], by rw [M.nxt_new]; omega⟩, .new m _⟩
theorem Bk.set {m : M} {b n : Nat} {vs : List C} (h : Bk m b n vs) (new : List C) : Bk (m.set b (.cells n new false)) b n new := ⟨by rw [M.g_set, if_pos rfl], h.lt⟩
/-- the slice lies in a block that is new -/
def Fr (m : M) (x : C) : Prop := ∀ b o n s d, x = .sl b o n s d → m.nxt ≤ b
theorem Fr.nil (m : M) : Fr m .sl0 := fun _ _ _ _ _ h => by cases h
theorem Bk.keep {m m' : M} {b n : Nat} {vs : List C} {s : C} (h : Bk m b n vs) (hn : m.nxt ≤ m'.nxt) (hg : ∀ b, b < m.nxt → slB s ≠ some b → m'.g b = m.g b) (hs : ∀ b' o n' s' d, s = .sl b' o n' s' d → b' ≠ b) : Bk m' b n vs := by
  refine ⟨?_, Nat.lt_of_lt_of_le h.lt hn⟩
  rw [hg b h.lt fun hsb => ?_]
  · exact h.g
  · cases s with
    | sl b' o n' s' d =>
      cases d with
      | none =>
        have h2 : some b' = some b := hsb
        cases h2; exact hs b o n' s' none rfl rfl
      | some d => cases hsb
    | _ => cases hsb
theorem Fr.ne {m : M} {s : C} (hf : Fr m s) {b : Nat} (hb : b < m.nxt) : slB s ≠ some b := fun hsb => by
  cases s with
  | sl b' o n' s' d =>
    cases d with
    | none =>
      have h2 : some b' = some b := hsb
      have h3 := hf b' o n' s' none rfl
      cases h2; omega
    | some d => cases hsb
  | _ => cases hsb
theorem Ext.keep {m0 m m2 : M} {s : C} (he : Ext m0 m) (hf : Fr m0 s) (hn : m.nxt ≤ m2.nxt) (hv : m2.vw = m.vw) (hg : ∀ b, b < m.nxt → slB s ≠ some b → m2.g b = m.g b) : Ext m0 m2 :=
  ⟨Nat.le_trans he.nxt hn, fun b hb => by rw [hg b (Nat.lt_of_lt_of_le hb he.nxt) (hf.ne hb)]; exact he.g b hb, hv.trans he.vw⟩
/-- two slices lie in two blocks -/
def Sep (x y : C) : Prop := ∀ b o n s d b' o' n' s' d', x = .sl b o n s d → y = .sl b' o' n' s' d' → b ≠ b'
theorem Sep.symm {x y : C} (h : Sep x y) : Sep y x := fun b o n s d b' o' n' s' d' h1 h2 h3 => h _ _ _ _ _ _ _ _ _ _ h2 h1 h3.symm
theorem Own1.lt {m : M} {k n : Nat} {x : C} {vs : List C} (h : Own1 m k x vs n) {b o n' s : Nat} {d : Option Nat} (hx : x = .sl b o n' s d) : b < m.nxt := by
  cases h.own with
  | nil => cases hx
  | grown b' hg hb => cases hx; exact hb
  | lit b' hg hb => cases hx; exact hb
theorem Own1.keep {m m' : M} {k n : Nat} {x s : C} {vs : List C} (h : Own1 m k x vs n) (hn : m.nxt ≤ m'.nxt) (hg : ∀ b, b < m.nxt → slB s ≠ some b → m'.g b = m.g b) (hs : Sep s x) : Own1 m' k x vs n := by
  refine h.to hn fun b hb hx => hg b hb fun hsb => ?_
  obtain ⟨s', d', hx⟩ := hx
  cases s with
  | sl b1 o1 n1 s1 d1 =>
    cases d1 with
    | none =>
      have h2 : some b1 = some b := hsb
      cases h2
      exact hs _ _ _ _ _ _ _ _ _ _ rfl hx rfl
    | some d => cases hsb
  | _ => cases hsb
/-- the first elements of a slice of one's own -/
theorem Own1.sub {m : M} {k n : Nat} {x : C} {vs : List C} (h : Own1 m k x vs n) (hk : 0 < k) {j : Nat} (hj : j ≤ n) : ∃ c, subC k x 0 j = some c ∧ Ls m k c (vs.take (j * k)) j := by
  have hl := h.len
  have hjk : j * k ≤ vs.length := by rw [← hl]; exact Nat.mul_le_mul_right _ hj
  have htl : j * k = (vs.take (j * k)).length := by rw [List.length_take]; omega
  have seg : ∀ {b : Nat} {op : Bool}, m.g b = some (.cells (n * k) vs op) → Seg m b 0 (vs.take (j * k)) := fun hg =>
    .inl ⟨_, vs, _, hg, by omega, by rw [← htl]; omega, by rw [← htl, List.drop_zero]⟩
  cases h.own with
  | nil h1 h2 =>
    subst h1 h2
    have : j = 0 := by omega
    subst this
    exact ⟨.sl0, rfl, by simpa using Ls.nil m k⟩
  | grown b hg hb =>
    refine ⟨.sl b (Nat.add 0 (Nat.mul 0 k)) (Nat.sub j 0) k none, ?_, htl, .inr ⟨b, 0, k, none, ?_, hb, fun _ => seg hg⟩⟩
    · show ifB (Nat.ble 0 j) (ifB (Nat.ble j n) (ifB (Nat.beq k k) _ none) none) none = _
      rw [Nat.ble_eq_true_of_le (Nat.zero_le _), Nat.ble_eq_true_of_le hj, Nat.beq_refl]; rfl
    · rw [show Nat.add 0 (Nat.mul 0 k) = 0 from by show 0 + 0 * k = 0; simp, show Nat.sub j 0 = j from rfl]
  | lit b hg hb =>
    refine ⟨.sl b (ifB (Nat.beq n 0) 0 (Nat.add 0 (Nat.mul 0 k))) (Nat.sub j 0) 0 (some (Nat.sub n 0)), ?_, htl, .inr ⟨b, 0, 0, some (Nat.sub n 0), ?_, hb, fun _ => seg hg⟩⟩
    · show ifB (Nat.ble 0 j) (ifB (Nat.ble j n) _ none) none = _
      rw [Nat.ble_eq_true_of_le (Nat.zero_le _), Nat.ble_eq_true_of_le hj]; rfl
    · have : ifB (Nat.beq n 0) 0 (Nat.add 0 (Nat.mul 0 k)) = 0 := by
        rw [show Nat.add 0 (Nat.mul 0 k) = 0 from by show 0 + 0 * k = 0; simp]
        cases Nat.beq n 0 <;> rfl
      rw [this]; rfl
end
end Go.Abs

namespace Go.Abs
noncomputable section
/-- m' is m but for block b -/
structure St1 (m m' : M) (b : Nat) : Prop where
  nxt : m'.nxt = m.nxt
  vw : m'.vw = m.vw
  g : ∀ b', b' ≠ b → m'.g b' = m.g b'
theorem St1.of_set {m m' : M} {b : Nat} {o : AO} (h : m' = m.set b o) : St1 m m' b := by
  subst h
  exact ⟨rfl, rfl, fun b' hb => by rw [M.g_set, if_neg hb]⟩
end
end Go.Abs

namespace Go.Abs
noncomputable section
variable {P : Program} {T : List (Nat × Bool)}
/-- all is kept but S and what is new -/
structure Chg (S : Nat → Prop) (m m' : M) : Prop where
  nxt : m.nxt ≤ m'.nxt
  g : ∀ b, b < m.nxt → ¬ S b → m'.g b = m.g b
  vw : m'.vw = m.vw
/-- blocks that are owned: those of before, and new ones -/
def Own (S : Nat → Prop) (m : M) (S' : Nat → Prop) : Prop := ∀ b, S' b → S b ∨ m.nxt ≤ b
/-- what is said of memory speaks of blocks of S alone -/
structure Local (n0 : Nat) (I : (Nat → Prop) → M → Prop) : Prop where
  st : ∀ S m m', I S m → m.nxt ≤ m'.nxt → m'.vw = m.vw → (∀ b, S b → m'.g b = m.g b) → (∀ b, b < n0 → m'.g b = m.g b) → I S m'
  lt : ∀ S m, I S m → ∀ b, S b → b < m.nxt
/-- calls of the body of the loop l: I i: i values have been handed out; E: no more are wanted -/
structure Client (P : Program) (T : List (Nat × Bool)) (n0 l : Nat) (xs : List (List V)) (I : Nat → (Nat → Prop) → M → Prop) (E : (Nat → Prop) → M → Prop) : Prop where
  li : ∀ i, Local n0 (I i)
  le : Local n0 E
  yield : ∀ i x S m, xs[i]? = some x → I i S m → ∀ Q : V → M → Prop, (∀ S' m', Own S m S' → Chg S m m' → I (i + 1) S' m' → Q (.c (.bool true)) m') → (∀ S' m', Own S m S' → Chg S m m' → E S' m' → Q (.c (.bool false)) m') → Wy P T l x m Q
/-- the function value hands out xs; it reads blocks of D, of which R holds -/
structure Iter (P : Program) (T : List (Nat × Bool)) (x : C) (xs : List (List V)) (D : Nat → Prop) (R : M → Prop) : Prop where
  st : ∀ m m', R m → m.nxt ≤ m'.nxt → m'.vw = m.vw → (∀ b, D b → m'.g b = m.g b) → R m'
  lt : ∀ m, R m → ∀ b, D b → b < m.nxt
  run : ∀ n0 l I E, Client P T n0 l xs I E → ∀ S m, n0 ≤ m.nxt → I 0 S m → R m → (∀ b, S b → ¬ D b) → ∀ Q : V → M → Prop, (∀ v S' m', Own S m S' → Chg S m m' → I xs.length S' m' ∨ E S' m' → Q v m') → callP P T [.c (.fn (.yield l) [] [])] x m Q
end
end Go.Abs

namespace Go.Abs
set_option maxRecDepth 100000
noncomputable section
variable {P : Program}
/-- what lies in f lies in m -/
structure Sub (f m : M) : Prop where
  nxt : f.nxt ≤ m.nxt
  vw : m.vw = f.vw
  g : ∀ b, b < f.nxt → (f.g b ≠ none ∨ f.vw b ≠ none) → m.g b = f.g b
theorem Sub.refl (m : M) : Sub m m := ⟨Nat.le_refl _, rfl, fun _ _ _ => rfl⟩
theorem Sub.trans {a b c : M} (h : Sub a b) (h' : Sub b c) : Sub a c := ⟨Nat.le_trans h.nxt h'.nxt, h'.vw.trans h.vw, fun x hx hn => by
  have h1 := h.g x hx hn
  rw [← h1]
  exact h'.g x (Nat.lt_of_lt_of_le hx h.nxt) (by rw [h1, h.vw]; exact hn)⟩
theorem Sub.of_ext {m m' : M} (h : Ext m m') : Sub m m' := ⟨h.nxt, h.vw, fun b hb _ => h.g b hb⟩
/-- the same, but there may be more to read in m -/
structure SubV (f m : M) : Prop where
  nxt : f.nxt ≤ m.nxt
  vw : ∀ b, b < f.nxt → m.vw b = f.vw b
  g : ∀ b, b < f.nxt → (f.g b ≠ none ∨ f.vw b ≠ none) → m.g b = f.g b
theorem Sub.v {f m : M} (h : Sub f m) : SubV f m := ⟨h.nxt, fun b _ => by rw [h.vw], h.g⟩
theorem SubV.refl (m : M) : SubV m m := (Sub.refl m).v
theorem SubV.trans {a b c : M} (h : SubV a b) (h' : SubV b c) : SubV a c := ⟨Nat.le_trans h.nxt h'.nxt, fun x hx => (h'.vw x (Nat.lt_of_lt_of_le hx h.nxt)).trans (h.vw x hx), fun x hx hn => by
  have h1 := h.g x hx hn
  rw [← h1]
  exact h'.g x (Nat.lt_of_lt_of_le hx h.nxt) (by rw [h1, h.vw x hx]; exact hn)⟩
theorem Seg.to' {m m' : M} {b o : Nat} {vs : List C} (h : Seg m b o vs) (hg : m'.g b = m.g b) (hv : m'.vw b = m.vw b) : Seg m' b o vs := by
  unfold Seg
  rw [hg, hv]
  exact h
theorem Seg.subv {f m : M} {b o : Nat} {vs : List C} (h : Seg f b o vs) (hb : b < f.nxt) (s : SubV f m) : Seg m b o vs := by
  refine h.to' ?_ (s.vw b hb)
  rcases h with ⟨n, ws, op, h1, _⟩ | ⟨h1, q, h2, _⟩
  · exact s.g b hb (.inl (by rw [h1]; exact Option.some_ne_none _))
  · exact s.g b hb (.inr (by rw [h2]; exact Option.some_ne_none _))
theorem Ls.subv {f m : M} {k n : Nat} {x : C} {vs : List C} (h : Ls f k x vs n) (s : SubV f m) : Ls m k x vs n := by
  refine ⟨h.len, ?_⟩
  rcases h.val with h1 | ⟨b, o, t, c, h1, h2, h3⟩
  · exact .inl h1
  · exact .inr ⟨b, o, t, c, h1, Nat.lt_of_lt_of_le h2 s.nxt, fun h0 => (h3 h0).subv h2 s⟩
theorem Ls.sub {f m : M} {k n : Nat} {x : C} {vs : List C} (h : Ls f k x vs n) (s : Sub f m) : Ls m k x vs n := h.subv s.v
/-- a type of values, and how they lie in memory -/
class Rp (α : Type) where
  k : Nat
  pos : 0 < k
  rep : M → List C → α → Prop
  len : ∀ {m : M} {cs : List C} {a : α}, rep m cs a → cs.length = k
  subv : ∀ {f m : M} {cs : List C} {a : α}, rep f cs a → SubV f m → rep m cs a
theorem Rp.sub {α : Type} [Rp α] {f m : M} {cs : List C} {a : α} (h : Rp.rep f cs a) (s : Sub f m) : Rp.rep m cs a := Rp.subv h s.v
/-- one after the other -/
def Cat {α : Type} [Rp α] (f : M) : List C → List α → Prop
  | vs, [] => vs = []
  | vs, a :: l => ∃ c r, vs = c ++ r ∧ Rp.rep f c a ∧ Cat f r l
variable {α β : Type} [Rp α] [Rp β]
theorem Cat.subv {f m : M} (s : SubV f m) : ∀ {l : List α} {vs : List C}, Cat f vs l → Cat m vs l
  | [], _, h => h
  | _ :: _, _, ⟨c, r, h1, h2, h3⟩ => ⟨c, r, h1, Rp.subv h2 s, Cat.subv s h3⟩
theorem Cat.sub {f m : M} (s : Sub f m) {l : List α} {vs : List C} (h : Cat f vs l) : Cat m vs l := Cat.subv s.v h
theorem Cat.len {f : M} : ∀ {l : List α} {vs : List C}, Cat f vs l → l.length * Rp.k α = vs.length
  | [], _, h => by have h : _ = [] := h; rw [h]; simp
  | _ :: l, _, ⟨c, r, h1, h2, h3⟩ => by rw [h1, List.length_append, Rp.len h2, ← Cat.len h3, List.length_cons, Nat.add_mul, Nat.one_mul, Nat.add_comm]
theorem Cat.app {f : M} : ∀ {l l' : List α} {vs vs' : List C}, Cat f vs l → Cat f vs' l' → Cat f (vs ++ vs') (l ++ l')
  | [], _, _, _, h, h' => by have h : _ = [] := h; rw [h]; exact h'
  | _ :: _, _, _, _, ⟨c, r, h1, h2, h3⟩, h' => ⟨c, r ++ _, by rw [h1, List.append_assoc], h2, Cat.app h3 h'⟩
theorem Cat.one {f : M} {cs : List C} {a : α} (h : Rp.rep f cs a) : Cat f cs [a] := ⟨cs, [], by simp, h, rfl⟩
theorem Cat.at {f : M} : ∀ {l : List α} {vs : List C}, Cat f vs l → ∀ {n : Nat} {a : α}, l[n]? = some a → n * Rp.k α + Rp.k α ≤ vs.length ∧ Rp.rep f ((vs.drop (n * Rp.k α)).take (Rp.k α)) a
  | [], _, _, n, a, hn => by simp at hn
  | x :: l, _, ⟨c, r, h1, h2, h3⟩, 0, a, hn => by
    have : x = a := by simpa using hn
    subst this
    have hl := Rp.len h2
    refine ⟨by rw [h1, List.length_append]; omega, ?_⟩
    rw [Nat.zero_mul, List.drop_zero, h1, List.take_append_of_le_length (by omega), List.take_of_length_le (by omega)]; exact h2
  | x :: l, _, ⟨c, r, h1, h2, h3⟩, n + 1, a, hn => by
    have hl := Rp.len h2
    obtain ⟨q1, q2⟩ := Cat.at h3 (n := n) (a := a) (by simpa using hn)
    refine ⟨by rw [h1, List.length_append, Nat.add_mul, Nat.one_mul]; omega, ?_⟩
    rw [h1, Nat.add_mul, Nat.one_mul, show n * Rp.k α + Rp.k α = c.length + n * Rp.k α by omega, ← List.drop_drop, List.drop_left' rfl]; exact q2
/-- a slice of n elements, of k cells each, that can be sliced -/
def slOk (x : C) (k n : Nat) : Prop := (x = .sl0 ∧ n = 0) ∨ (∃ b o s c, x = .sl b o n s (some c) ∧ n ≤ c) ∨ ∃ b o, x = .sl b o n k none
/-- a slice with these elements -/
def Sl (f : M) (x : C) (l : List α) : Prop := ∃ vs, Ls f (Rp.k α) x vs l.length ∧ Cat f vs l ∧ slOk x (Rp.k α) l.length
theorem Sl.subv {f m : M} {x : C} {l : List α} (h : Sl f x l) (s : SubV f m) : Sl m x l := h.elim fun vs h => ⟨vs, h.1.subv s, Cat.subv s h.2.1, h.2.2⟩
theorem Sl.sub {f m : M} {x : C} {l : List α} (h : Sl f x l) (s : Sub f m) : Sl m x l := h.subv s.v
theorem Sl.nil (f : M) : Sl f .sl0 ([] : List α) := ⟨[], Ls.nil f _, rfl, .inl ⟨rfl, rfl⟩⟩
instance : Rp Int := ⟨1, by omega, fun _ cs a => cs = [.int .i64 a], fun h => by rw [h]; rfl, fun h _ => h⟩
instance : Rp Bool := ⟨1, by omega, fun _ cs a => cs = [.bool a], fun h => by rw [h]; rfl, fun h _ => h⟩
instance : Rp (List α) := ⟨1, by omega, fun f cs a => ∃ c, cs = [c] ∧ Sl f c a, fun ⟨_, h, _⟩ => by rw [h]; rfl, fun ⟨c, h, h2⟩ s => ⟨c, h, h2.subv s⟩⟩
/-- an element by its number -/
def idx {α : Type} (l : List α) (i : Int) : Option α := if 0 ≤ i then l[i.toNat]? else none
theorem idx_nat {α : Type} (l : List α) (n : Nat) : idx l (n : Int) = l[n]? := by unfold idx; rw [if_pos (Int.natCast_nonneg n)]; rfl
/-- a function's frame: memory at the call, and the blocks of before that it may write -/
structure Fm where
  m : M
  B : Nat → Prop
def Fm.of (m : M) : Fm := ⟨m, fun _ => False⟩
/-- all is as it was but what may be written, and what is new -/
structure FExt (F : Fm) (m : M) : Prop where
  nxt : F.m.nxt ≤ m.nxt
  g : ∀ b, b < F.m.nxt → ¬ F.B b → m.g b = F.m.g b
  vw : m.vw = F.m.vw
theorem FExt.trans {F : Fm} {m m' : M} (h : FExt F m) (e : Ext m m') : FExt F m' := ⟨Nat.le_trans h.nxt e.nxt, fun b hb hB => (e.g b (Nat.lt_of_lt_of_le hb h.nxt)).trans (h.g b hb hB), e.vw.trans h.vw⟩
/-- F: the frame; f0: what lay there for good; f: what lies there for good now; m: memory now -/
structure St (F : Fm) (f0 f m : M) : Prop where
  ext : FExt F m
  sub : Sub f m
  fz : ∀ b, f.nxt ≤ b → f.g b = none
  fv : ∀ b, f.nxt ≤ b → f.vw b = none
  v0 : ∀ b, F.m.nxt ≤ b ∨ F.B b → f.vw b = none
  fs : Sub f0 f
  old : ∀ b, b < F.m.nxt → ¬ F.B b → f.g b = f0.g b
/-- what a call asks of memory -/
structure Pre (f m : M) : Prop where
  sub : Sub f m
  fz : ∀ b, f.nxt ≤ b → f.g b = none
  fv : ∀ b, f.nxt ≤ b → f.vw b = none
theorem Pre.stB {f m : M} (h : Pre f m) (B : Nat → Prop) (hB : ∀ b, B b → f.vw b = none) : St ⟨m, B⟩ f f m := ⟨⟨Nat.le_refl _, fun _ _ _ => rfl, rfl⟩, h.sub, h.fz, h.fv, fun b hb => hb.elim (fun hb => h.fv b (Nat.le_trans h.sub.nxt hb)) (hB b), .refl f, fun _ _ _ => rfl⟩
theorem Pre.st {f m : M} (h : Pre f m) : St (Fm.of m) f f m := h.stB _ fun _ h => h.elim
/-- a step: blocks with a tag of X may have changed -/
structure Kp (τ : Nat → Nat) (f m : M) (τ' : Nat → Nat) (f' m' : M) (X : List Nat) : Prop where
  nxt : m.nxt ≤ m'.nxt
  tg : ∀ b, b < m.nxt → τ' b = τ b
  g : ∀ b, b < m.nxt → τ b ∉ X → m'.g b = m.g b
  fg : ∀ b, b < m.nxt → τ b ∉ X → f'.g b = f.g b
  fs : Sub f f'
  vw : m'.vw = m.vw
/-- a block of one's own, with a tag -/
structure Lb (F : Fm) (f : M) (τ : Nat → Nat) (m : M) (t b n : Nat) (vs : List C) : Prop where
  bk : Bk m b n vs
  new : F.m.nxt ≤ b ∨ F.B b
  nf : f.g b = none
  tg : τ b = t
theorem Lb.k {F : Fm} {f f' m m' : M} {τ τ' : Nat → Nat} {t b n : Nat} {vs : List C} {X : List Nat} (h : Lb F f τ m t b n vs) (k : Kp τ f m τ' f' m' X) (hx : t ∉ X) : Lb F f' τ' m' t b n vs := by
  have hx : τ b ∉ X := by rw [h.tg]; exact hx
  exact ⟨⟨(k.g b h.bk.lt hx).trans h.bk.g, Nat.lt_of_lt_of_le h.bk.lt k.nxt⟩, h.new, (k.fg b h.bk.lt hx).trans h.nf, (k.tg b h.bk.lt).trans h.tg⟩
/-- another tag for a block -/
def tagAt (τ : Nat → Nat) (b t : Nat) : Nat → Nat := fun j => if j = b then t else τ j
theorem St.new {F : Fm} {f0 f m m' : M} (s : St F f0 f m) {o : AO} (h : m' = m.new o) (τ : Nat → Nat) (t : Nat) : St F f0 f m' ∧ Kp τ f m (tagAt τ m.nxt t) f m' [] := by
  subst h
  refine ⟨⟨s.ext.trans (.new m o), s.sub.trans (.of_ext (.new m o)), s.fz, s.fv, s.v0, s.fs, s.old⟩, ⟨Nat.le_succ _, fun b hb => if_neg (by omega), fun b hb _ => by rw [M.g_new, if_neg (by omega)], fun _ _ _ => rfl, .refl f, rfl⟩⟩
/-- a call, that hands back plain values -/
theorem St.call {F : Fm} {f0 f m m' : M} (s : St F f0 f m) (e : Ext m m') (τ : Nat → Nat) : St F f0 f m' ∧ Kp τ f m τ f m' [] :=
  ⟨⟨s.ext.trans e, s.sub.trans (.of_ext e), s.fz, s.fv, s.v0, s.fs, s.old⟩, ⟨e.nxt, fun _ _ => rfl, fun b hb _ => e.g b hb, fun _ _ _ => rfl, .refl f, e.vw⟩⟩
theorem not_frozen {f m m' : M} (hs : Sub f m) (hn : m.nxt ≤ m'.nxt) (hv : m'.vw = m.vw) {X : Nat → Prop} (hX : ∀ b, X b → f.g b = none ∧ f.vw b = none) (hg : ∀ b', b' < m.nxt → ¬ X b' → m'.g b' = m.g b') : Sub f m' := by
  refine ⟨Nat.le_trans hs.nxt hn, hv.trans hs.vw, fun b' hb' hd => ?_⟩
  rw [hg b' (Nat.lt_of_lt_of_le hb' hs.nxt) fun h => hd.elim (fun h2 => h2 (hX _ h).1) fun h2 => h2 (hX _ h).2]
  exact hs.g b' hb' hd
/-- blocks of one's own have changed -/
theorem St.chg {F : Fm} {f0 f m m' : M} (s : St F f0 f m) {X : Nat → Prop} (hX : ∀ b, X b → (F.m.nxt ≤ b ∨ F.B b) ∧ f.g b = none) (hn : m.nxt ≤ m'.nxt) (hv : m'.vw = m.vw) (hg : ∀ b', b' < m.nxt → ¬ X b' → m'.g b' = m.g b') : St F f0 f m' :=
  ⟨⟨Nat.le_trans s.ext.nxt hn, fun b hb hB => (hg b (Nat.lt_of_lt_of_le hb s.ext.nxt) fun h => (hX b h).1.elim (fun h => by omega) hB).trans (s.ext.g b hb hB), hv.trans s.ext.vw⟩,
    not_frozen s.sub hn hv (fun b h => ⟨(hX b h).2, s.v0 b (hX b h).1⟩) hg, s.fz, s.fv, s.v0, s.fs, s.old⟩
structure Ow (F : Fm) (f : M) (τ : Nat → Nat) (m : M) (t : Nat) (x : C) (l : List α) : Prop where
  own : ∃ vs, Own1 m (Rp.k α) x vs l.length ∧ Cat f vs l
  nw : ∀ b o n s d, x = .sl b o n s d → (F.m.nxt ≤ b ∨ F.B b) ∧ f.g b = none ∧ τ b = t
theorem Ow.nil (F : Fm) (f : M) (τ : Nat → Nat) (m : M) (t : Nat) : Ow F f τ m t .sl0 ([] : List α) := ⟨⟨[], Own1.nil' m _, rfl⟩, fun _ _ _ _ _ h => by cases h⟩
theorem Ow.lt {F : Fm} {f m : M} {τ : Nat → Nat} {t : Nat} {x : C} {l : List α} (h : Ow F f τ m t x l) {b o n s : Nat} {d : Option Nat} (hx : x = .sl b o n s d) : b < m.nxt := h.own.elim fun _ h => h.1.lt hx
theorem Ow.k {F : Fm} {f f' m m' : M} {τ τ' : Nat → Nat} {t : Nat} {x : C} {l : List α} {X : List Nat} (h : Ow F f τ m t x l) (k : Kp τ f m τ' f' m' X) (hx : t ∉ X) : Ow F f' τ' m' t x l := by
  have hx' : ∀ b o n s d, x = .sl b o n s d → τ b ∉ X := fun b o n s d he => by rw [(h.nw b o n s d he).2.2]; exact hx
  obtain ⟨vs, h1, h2⟩ := h.own
  refine ⟨⟨vs, h1.to k.nxt fun b hb he => ?_, h2.sub k.fs⟩, fun b o n s d he => ?_⟩
  · obtain ⟨s, d, he⟩ := he
    exact k.g b hb (hx' _ _ _ _ _ he)
  · obtain ⟨q1, q2, q3⟩ := h.nw b o n s d he
    have hlt := h.lt he
    exact ⟨q1, (k.fg b hlt (hx' _ _ _ _ _ he)).trans q2, (k.tg b hlt).trans q3⟩
theorem slB_sl {x : C} {b : Nat} (h : slB x = some b) : ∃ o n s, x = .sl b o n s none := by
  cases x with
  | sl b' o n s d =>
    cases d with
    | none => have h : some b' = some b := h; cases h; exact ⟨o, n, s, rfl⟩
    | some d => cases h
  | _ => cases h
/-- append of elements that lie in memory -/
theorem Ow.appS {T el : Nat} (ht : tk P T = .sl el) (hgr : growOk P el = true) (hk : P.cellsOf el = Rp.k α) {F : Fm} {f0 f m m1 : M} (s : St F f0 f m) {τ : Nat → Nat} {t : Nat} {x y : C} {l l2 : List α} (h : Ow F f τ m t x l) (e : Ext m m1) {ws : List C} (hy : Ls m1 (Rp.k α) y ws l2.length) (hc : Cat f ws l2) (hj : 0 < l2.length) (hlen : l.length + l2.length ≤ 1048576) :
    ∃ c m2 τ', ApR P T m1 x y c m2 ∧ St F f0 f m2 ∧ Kp τ f m τ' f m2 [t] ∧ Ow F f τ' m2 t c (l ++ l2) := by
  obtain ⟨vs, h1, h2⟩ := h.own
  obtain ⟨m2, q1, q2, q3, q4, q5⟩ := ap_own ht hgr hk (h1.ext e) hy hj Rp.pos hlen
  have hg : ∀ b, b < m.nxt → slB x ≠ some b → m2.g b = m.g b := fun b hb hx => by
    have := e.nxt
    rw [q5 b (by omega) hx]; exact e.g b hb
  have hn : m.nxt ≤ m2.nxt := by have := e.nxt; omega
  refine ⟨_, m2, tagAt τ m1.nxt t, q1, s.chg (X := fun b => slB x = some b) (fun b hb => ?_) hn (q4.trans e.vw) hg, ⟨hn, fun b hb => if_neg (by have := e.nxt; omega), fun b hb hx => hg b hb fun he => ?_, fun _ _ _ => rfl, .refl f, q4.trans e.vw⟩, ⟨⟨_, by rw [List.length_append]; exact q2, h2.app hc⟩, fun b o n s' d he => ?_⟩⟩
  · obtain ⟨o, n, s', he⟩ := slB_sl hb
    exact ⟨(h.nw _ _ _ _ _ he).1, (h.nw _ _ _ _ _ he).2.1⟩
  · obtain ⟨o, n, s', he⟩ := slB_sl he
    exact hx (by rw [(h.nw _ _ _ _ _ he).2.2]; exact List.mem_cons_self ..)
  · cases he
    have h9 : m.nxt ≤ m1.nxt := e.nxt
    exact ⟨.inl (Nat.le_trans s.ext.nxt h9), s.fz _ (Nat.le_trans s.sub.nxt h9), if_pos rfl⟩
/-- append of one element -/
theorem Ow.app {T el : Nat} (ht : tk P T = .sl el) (hgr : growOk P el = true) (hk : P.cellsOf el = Rp.k α) {F : Fm} {f0 f m m1 : M} (s : St F f0 f m) {τ : Nat → Nat} {t : Nat} {x : C} {l : List α} (h : Ow F f τ m t x l) {cs : List C} {a : α} (hr : Rp.rep f cs a) (hlen : l.length < 1048576) (e : m1 = m.new (.cells (Rp.k α) cs false)) :
    ∃ c m2 τ', ApR P T m1 x (.sl m.nxt 0 1 0 (some 1)) c m2 ∧ St F f0 f m2 ∧ Kp τ f m τ' f m2 [t] ∧ Ow F f τ' m2 t c (l ++ [a]) := by
  obtain ⟨b1, x1⟩ := Bk.new e
  exact h.appS (P := P) ht hgr hk s x1 (Ls.one b1.g (Rp.len hr) b1.lt 0 (some 1)) (Cat.one hr) (by simp) (by show l.length + 1 ≤ _; omega)
theorem Sl.rdA {f : M} {x : C} {l : List α} (h : Sl f x l) {n : Nat} {a : α} (hi : l[n]? = some a) : ∃ cs, (∀ m, Sub f m → ldA m (slAt x (n * Rp.k α)) (Rp.k α) = some cs) ∧ Rp.rep f cs a := by
  obtain ⟨vs, h4, h5, h5k⟩ := h
  obtain ⟨h6, h7⟩ := h5.at hi
  exact ⟨_, fun m s => (h4.sub s).rds Rp.pos h6, h7⟩
open Classical in
def gd {α : Type} (p : Prop) (x : Option α) : Option α := if p then x else none
theorem gd_pos {α : Type} {p : Prop} {x : Option α} (h : p) : gd p x = x := if_pos h
theorem Kp.old {τ τ' : Nat → Nat} {f f' m m' g : M} {X : List Nat} (k : Kp τ f m τ' f' m' X) : Kp τ g m τ' g m' X := ⟨k.nxt, k.tg, k.g, fun _ _ _ => rfl, .refl g, k.vw⟩
theorem Bk.sub {f m : M} {b n : Nat} {vs : List C} (h : Bk f b n vs) (s : Sub f m) : Bk m b n vs :=
  ⟨(s.g b h.lt (.inl (by rw [h.g]; exact Option.some_ne_none _))).trans h.g, Nat.lt_of_lt_of_le h.lt s.nxt⟩
theorem Bk.sl {f : M} {b N n : Nat} {vs : List C} {l : List α} (h : Bk f b N vs) (hc : Cat f vs l) (hn : l.length = n) (hN : vs.length = N) (k : Nat) : Sl f (.sl b 0 n k (some n)) l := by
  have h3 := hc.len
  refine ⟨vs, ⟨h3, .inr ⟨b, 0, k, some n, by rw [hn], h.lt, fun _ => .inl ⟨N, vs, false, h.g, hN, by omega, by rw [List.drop_zero, List.take_of_length_le (Nat.le_refl _)]⟩⟩⟩, hc, .inr (.inl ⟨b, 0, k, n, by rw [hn], by omega⟩)⟩
/-- a block to be made -/
structure Rs (F : Fm) (f : M) (τ : Nat → Nat) (m : M) (t b : Nat) : Prop where
  new : F.m.nxt ≤ b ∨ F.B b
  nf : f.g b = none
  tg : τ b = t
  lt : b < m.nxt
theorem Rs.k {F : Fm} {f f' m m' : M} {τ τ' : Nat → Nat} {t b : Nat} {X : List Nat} (h : Rs F f τ m t b) (k : Kp τ f m τ' f' m' X) (hx : t ∉ X) : Rs F f' τ' m' t b := by
  have hx : τ b ∉ X := by rw [h.tg]; exact hx
  exact ⟨h.new, (k.fg b h.lt hx).trans h.nf, (k.tg b h.lt).trans h.tg, Nat.lt_of_lt_of_le h.lt k.nxt⟩
theorem Rs.set {F : Fm} {f0 f m m' : M} {τ : Nat → Nat} {t b n : Nat} {vs : List C} (h : Rs F f τ m t b) (s : St F f0 f m) (e : m' = m.set b (.cells n vs false)) : St F f0 f m' ∧ Kp τ f m τ f m' [t] ∧ Lb F f τ m' t b n vs := by
  have h1 : St1 m m' b := .of_set e
  refine ⟨s.chg (X := fun b' => b' = b) (fun b' h' => by subst h'; exact ⟨h.new, h.nf⟩) (by rw [h1.nxt]; exact Nat.le_refl _) h1.vw fun b' _ hne => h1.g b' hne,
    ⟨by rw [h1.nxt]; exact Nat.le_refl _, fun _ _ => rfl, fun b' _ hx => h1.g b' fun he => hx (by rw [he, h.tg]; exact List.mem_cons_self ..), fun _ _ _ => rfl, .refl f, h1.vw⟩, ⟨⟨?_, by rw [h1.nxt]; exact h.lt⟩, h.new, h.nf, h.tg⟩⟩
  rw [e, M.g_set, if_pos rfl]
theorem Seg.part {m : M} {b o : Nat} {vs : List C} (h : Seg m b o vs) {a l : Nat} (hal : a + l ≤ vs.length) : Seg m b (o + a) ((vs.drop a).take l) := by
  have hlen : ((vs.drop a).take l).length = l := by rw [List.length_take, List.length_drop]; omega
  have key : ∀ (w : List C) (p n : Nat), a + l ≤ n → (((w.drop p).take n).drop a).take l = (w.drop (p + a)).take l := fun w p n hn => by rw [List.drop_take, List.take_take, List.drop_drop, Nat.min_eq_left (by omega)]
  have hsub : ∀ (w : List C) (p : Nat), (w.drop p).take vs.length = vs → (w.drop (p + a)).take l = (vs.drop a).take l := fun w p hw => by
    have := key w p vs.length hal
    rw [hw] at this
    exact this.symm
  rcases h with ⟨n, ws, op, h1, h2, h3, h4⟩ | ⟨h1, q, h2, h3, h4, h5⟩
  · exact .inl ⟨n, ws, op, h1, h2, by rw [hlen]; omega, by rw [hlen]; exact hsub ws o h4⟩
  · refine .inr ⟨h1, q, h2, by omega, by rw [hlen]; omega, ?_⟩
    rw [hlen, show o + a - q.1 = (o - q.1) + a by omega]
    exact hsub q.2 _ h5
theorem Cat.part {f : M} : ∀ {l : List α} {vs : List C}, Cat f vs l → ∀ (i : Nat), Cat f (vs.drop (i * Rp.k α)) (l.drop i) ∧ Cat f (vs.take (i * Rp.k α)) (l.take i)
  | [], _, h, i => by have h : _ = [] := h; rw [h]; simp [Cat]
  | a :: l, _, h, 0 => by rw [Nat.zero_mul, List.drop_zero, List.take_zero, List.drop_zero, List.take_zero]; exact ⟨h, rfl⟩
  | a :: l, _, ⟨c, r, h1, h2, h3⟩, i + 1 => by
    have hl := Rp.len h2
    obtain ⟨q1, q2⟩ := Cat.part h3 i
    rw [h1, Nat.add_mul, Nat.one_mul, show i * Rp.k α + Rp.k α = c.length + i * Rp.k α by omega, ← List.drop_drop, List.drop_left' rfl, List.take_length_add_append]
    exact ⟨q1, c, _, rfl, h2, q2⟩
theorem Sl.subC {f : M} {x : C} {l : List α} (h : Sl f x l) {i j : Nat} (hij : i ≤ j) (hj : j ≤ l.length) : ∃ c, Go.Abs.subC (Rp.k α) x i j = some c ∧ Sl f c ((l.take j).drop i) := by
  obtain ⟨vs, h4, h5, h6⟩ := h
  have hl := h4.len
  have hk := Rp.pos (α := α)
  have e1 : i * Rp.k α + (j - i) * Rp.k α = j * Rp.k α := by rw [← Nat.add_mul]; congr 1; omega
  have e2 : j * Rp.k α ≤ l.length * Rp.k α := Nat.mul_le_mul_right _ hj
  have hcat : Cat f ((vs.drop (i * Rp.k α)).take ((j - i) * Rp.k α)) ((l.take j).drop i) := by
    have q := ((h5.part j).2.part i).1
    rw [List.drop_take] at q
    rwa [show j * Rp.k α - i * Rp.k α = (j - i) * Rp.k α by omega] at q
  have hlen : ((l.take j).drop i).length = j - i := by rw [List.length_drop, List.length_take]; omega
  have hvl : (j - i) * Rp.k α = ((vs.drop (i * Rp.k α)).take ((j - i) * Rp.k α)).length := by rw [List.length_take, List.length_drop]; omega
  have mk : ∀ b o' s' c', b < f.nxt → (j - i ≠ 0 → Seg f b o' ((vs.drop (i * Rp.k α)).take ((j - i) * Rp.k α))) → slOk (.sl b o' (j - i) s' c') (Rp.k α) (j - i) → Sl f (.sl b o' (j - i) s' c') ((l.take j).drop i) := fun b o' s' c' hb hs hok =>
    ⟨_, ⟨by rw [hlen]; exact hvl, .inr ⟨b, o', s', c', by rw [hlen], hb, fun h0 => hs (by rw [hlen] at h0; exact h0)⟩⟩, hcat, by rw [hlen]; exact hok⟩
  rcases h6 with ⟨rfl, h0⟩ | ⟨b, o, s, c, rfl, hc⟩ | ⟨b, o, rfl⟩
  · have : j = 0 := by omega
    have : i = 0 := by omega
    subst_vars
    exact ⟨.sl0, rfl, by simpa using Sl.nil f⟩
  · obtain ⟨hb, hseg⟩ : b < f.nxt ∧ (l.length ≠ 0 → Seg f b o vs) := by
      rcases h4.val with ⟨h0, _⟩ | ⟨b', o', s', c', h0, h3, h4⟩
      · cases h0
      · cases h0; exact ⟨h3, h4⟩
    refine ⟨.sl b (ifB (Nat.beq c i) o (Nat.add o (Nat.mul i (Rp.k α)))) (Nat.sub j i) 0 (some (Nat.sub c i)), ?_, ?_⟩
    · show ifB (Nat.ble i j) (ifB (Nat.ble j c) _ none) none = _
      rw [Nat.ble_eq_true_of_le hij, Nat.ble_eq_true_of_le (show j ≤ c by omega)]; rfl
    · refine mk _ _ _ _ hb (fun hne => ?_) (.inr (.inl ⟨_, _, _, _, rfl, by show j - i ≤ c - i; omega⟩))
      have hci : Nat.beq c i = false := by
        cases hq : Nat.beq c i with
        | true => have := Nat.eq_of_beq_eq_true hq; omega
        | false => rfl
      rw [hci]
      exact (hseg (by omega)).part (Nat.le_trans (Nat.le_of_eq e1) (Nat.le_trans e2 (Nat.le_of_eq hl)))
  · obtain ⟨hb, hseg⟩ : b < f.nxt ∧ (l.length ≠ 0 → Seg f b o vs) := by
      rcases h4.val with ⟨h0, _⟩ | ⟨b', o', s', c', h0, h3, h4⟩
      · cases h0
      · cases h0; exact ⟨h3, h4⟩
    refine ⟨.sl b (Nat.add o (Nat.mul i (Rp.k α))) (Nat.sub j i) (Rp.k α) none, ?_, ?_⟩
    · show ifB (Nat.ble i j) (ifB (Nat.ble j l.length) (ifB (Nat.beq (Rp.k α) (Rp.k α)) _ none) none) none = _
      rw [Nat.ble_eq_true_of_le hij, Nat.ble_eq_true_of_le hj, Nat.beq_refl]; rfl
    · exact mk _ _ _ _ hb (fun hne => (hseg (by omega)).part (Nat.le_trans (Nat.le_of_eq e1) (Nat.le_trans e2 (Nat.le_of_eq hl)))) (.inr (.inr ⟨_, _, rfl⟩))
end
end Go.Abs

namespace Go.Abs
noncomputable section
inductive X where
  | int (k : IntKind) (n : Int) | bool (b : Bool) | str (s : ByteArray) | nilS | sl (a : Addr) (cap : Nat) (els : List (List C))
section
variable {H : Type} {enc : TypeId × Value → H} {P : Program} {W : World} {held : Bool}
end
end
end Go.Abs

namespace Go.Abs
set_option maxRecDepth 100000
noncomputable section
open Classical
variable {P : Program} {kt : TypeId} {κ : Type} {enc : κ → U}
def Keys (enc : κ → U) (es : List E) : Prop := ∀ e ∈ es, ∃ a, e.k = enc a
def look (enc : κ → U) (es : List E) (a : κ) : Option U :=
  match es with
  | [] => none
  | e :: es => if e.k = enc a then some e.v else look enc es a
/-- a map's block -/
structure Mp (enc : κ → U) (m : M) (b : Nat) (f : κ → Option U) : Prop where
  ex : ∃ es clock, m.g b = some (.map es clock) ∧ Keys enc es ∧ ∀ a, look enc es a = f a
  lt : b < m.nxt
theorem Mp.new {m m0 : M} (h : m0 = m.new (.map [] 0)) : Mp enc m0 m.nxt (fun _ => none) ∧ Ext m m0 := by
  subst h
  exact ⟨⟨⟨[], 0, by rw [M.g_new, if_pos rfl], fun e he => (by cases he), fun _ => rfl⟩, by rw [M.nxt_new]; omega⟩, Ext.new m _⟩
theorem Mp.ext {m m' : M} {b : Nat} {f : κ → Option U} (h : Mp enc m b f) (e : Ext m m') : Mp enc m' b f := by
  obtain ⟨es, clock, h1, h2⟩ := h.ex
  exact ⟨⟨es, clock, (e.g b h.lt).trans h1, h2⟩, Nat.lt_of_lt_of_le h.lt e.nxt⟩
end
end Go.Abs

namespace Go.Abs
set_option maxRecDepth 100000
noncomputable section
open Classical
variable {P : Program}
/-- types of keys -/
class MK (K : Type) where
  enc : K → U
  fit : K → Prop
/-- types of values -/
class MV (V : Type) where
  enc : V → U
instance : MV Int := ⟨fun a => .c (.int .i64 a)⟩
instance : MV Bool := ⟨fun a => .c (.bool a)⟩
def encK (K : Type) [MK K] (k : {k : K // MK.fit k}) : U := MK.enc k.1
variable {K V' : Type} [MK K] [MV V']
/-- a map: none: it is nil -/
def Mi (m : M) (c : C) (M : Option (K → Option V')) : Prop :=
  match M with
  | none => c = .map0
  | some f => ∃ b, c = .map b ∧ Mp (encK K) m b (fun k => (f k.1).map MV.enc)
/-- a map that may be written -/
structure Mo (F : Fm) (f : M) (τ : Nat → Nat) (m : M) (t : Nat) (c : C) (M : Option (K → Option V')) : Prop where
  mi : Mi m c M
  own : ∀ b, c = .map b → (F.m.nxt ≤ b ∨ F.B b) ∧ f.g b = none ∧ τ b = t ∧ b < m.nxt
theorem Mp.to {κ : Type} {enc : κ → U} {m m' : M} {b : Nat} {f : κ → Option U} (h : Mp enc m b f) (hn : m.nxt ≤ m'.nxt) (hg : m'.g b = m.g b) : Mp enc m' b f := by
  obtain ⟨es, clock, h1, h2⟩ := h.ex
  exact ⟨⟨es, clock, hg.trans h1, h2⟩, Nat.lt_of_lt_of_le h.lt hn⟩
theorem Mi.to {m m' : M} {c : C} {M : Option (K → Option V')} (h : Mi m c M) (hn : m.nxt ≤ m'.nxt) (hg : ∀ b, c = .map b → m'.g b = m.g b) : Mi m' c M := by
  cases M with
  | none => exact h
  | some f =>
    obtain ⟨b, h1, h2⟩ := h
    exact ⟨b, h1, h2.to hn (hg b h1)⟩
theorem Mo.k {F : Fm} {f f' m m' : M} {τ τ' : Nat → Nat} {t : Nat} {c : C} {M : Option (K → Option V')} {X : List Nat} (h : Mo F f τ m t c M) (k : Kp τ f m τ' f' m' X) (hx : t ∉ X) : Mo F f' τ' m' t c M := by
  have hX : ∀ b, c = .map b → τ b ∉ X := fun b hb => by rw [(h.own b hb).2.2.1]; exact hx
  refine ⟨h.mi.to k.nxt fun b hb => k.g b (h.own b hb).2.2.2 (hX b hb), fun b hb => ?_⟩
  obtain ⟨q1, q2, q3, q4⟩ := h.own b hb
  exact ⟨q1, (k.fg b q4 (hX b hb)).trans q2, (k.tg b q4).trans q3, Nat.lt_of_lt_of_le q4 k.nxt⟩
theorem Mo.new {F : Fm} {f0 f m m' : M} (s : St F f0 f m) (h : m' = m.new (.map [] 0)) (τ : Nat → Nat) (t : Nat) : ∃ τ', St F f0 f m' ∧ Kp τ f m τ' f m' [] ∧ Mo F f τ' m' t (.map m.nxt) (some fun _ => none : Option (K → Option V')) := by
  obtain ⟨h1, h2⟩ := s.new h τ t
  refine ⟨_, h1, h2, ⟨m.nxt, rfl, (Mp.new (enc := encK K) h).1⟩, fun b hb => ?_⟩
  cases hb
  exact ⟨.inl s.ext.nxt, s.fz _ s.sub.nxt, if_pos rfl, by rw [h, M.nxt_new]; omega⟩
theorem Mo.nil (F : Fm) (f : M) (τ : Nat → Nat) (m : M) (t : Nat) : Mo F f τ m t .map0 (none : Option (K → Option V')) := ⟨rfl, fun b hb => by cases hb⟩
/-- but for a map all is as it was -/
structure ExtB (c : C) (m m' : M) : Prop where
  nxt : m.nxt ≤ m'.nxt
  g : ∀ b, b < m.nxt → c ≠ .map b → m'.g b = m.g b
  vw : m'.vw = m.vw
/-- a map that a function is called with -/
structure Mc (f m : M) (c : C) (M : Option (K → Option V')) : Prop where
  mi : Mi m c M
  own : ∀ b, c = .map b → f.g b = none ∧ f.vw b = none ∧ b < m.nxt
theorem Mo.mc {F : Fm} {f0 f m : M} (s : St F f0 f m) {τ : Nat → Nat} {t : Nat} {c : C} {M : Option (K → Option V')} (h : Mo F f τ m t c M) : Mc f m c M := ⟨h.mi, fun b hb => ⟨(h.own b hb).2.1, s.v0 b (h.own b hb).1, (h.own b hb).2.2.2⟩⟩
end
end Go.Abs

namespace Go.Abs
set_option maxRecDepth 100000
noncomputable section
variable {P : Program} {T : List (Nat × Bool)}
/-- what is handed out, as arguments -/
class IV (α : Type) where
  encs : α → List V
instance {α : Type} [MV α] : IV α := ⟨fun a => [uV (MV.enc a)]⟩
instance {α β : Type} [MV α] [MV β] : IV (α × β) := ⟨fun a => [uV (MV.enc a.1), uV (MV.enc a.2)]⟩
variable {α : Type} [IV α]
/-- a function value that hands out l -/
def It (P : Program) (T : List (Nat × Bool)) (f : M) (x : C) (l : List α) : Prop :=
  ∃ g a b D R, x = .fn (.func g) a b ∧ Iter P T x (l.map IV.encs) D R ∧ (∀ m, Sub f m → R m) ∧ ∀ b, D b → b < f.nxt ∧ (f.g b ≠ none ∨ f.vw b ≠ none)
theorem It.sub {f m : M} {x : C} {l : List α} (h : It P T f x l) (s : Sub f m) : It P T m x l := by
  obtain ⟨g, a, b, D, R, h1, h2, h3, h4⟩ := h
  refine ⟨g, a, b, D, R, h1, h2, fun m' hs => h3 m' (s.trans hs), fun b hb => ?_⟩
  obtain ⟨q1, q2⟩ := h4 b hb
  exact ⟨Nat.lt_of_lt_of_le q1 s.nxt, by rw [s.g b q1 q2, s.vw]; exact q2⟩
/-- what is said of memory speaks of blocks of before n0, and of Z -/
structure Gud (n0 tR : Nat) (Z : Nat → Prop) (A : Fm → M → (Nat → Nat) → M → Prop) : Prop where
  loc : ∀ G f τ m m', A G f τ m → m.nxt ≤ m'.nxt → m'.vw = m.vw → (∀ b, b < n0 ∨ Z b → m'.g b = m.g b) → A G f τ m'
  tg : ∀ G f τ τ' m, A G f τ m → (∀ b, b < n0 ∨ Z b → τ' b = τ b) → A G f τ' m
  fr : ∀ G G' f τ m, A G f τ m → (∀ b, b < n0 ∨ Z b → b < m.nxt → f.g b = none → τ b ≠ tR → (G.m.nxt ≤ b ∨ G.B b) → (G'.m.nxt ≤ b ∨ G'.B b)) → A G' f τ m
  z : ∀ G f τ m, A G f τ m → ∀ b, Z b → b < m.nxt ∧ f.g b = none ∧ τ b ≠ tR ∧ (G.m.nxt ≤ b ∨ G.B b)
namespace Gud
variable {n0 tR : Nat} {Z Z' : Nat → Prop} {A A' : Fm → M → (Nat → Nat) → M → Prop}
theorem and (h : Gud n0 tR Z A) (h' : Gud n0 tR Z' A') : Gud n0 tR (fun b => Z b ∨ Z' b) (fun G f τ m => A G f τ m ∧ A' G f τ m) :=
  ⟨fun G f τ m m' q hn hv hg => ⟨h.loc G f τ m m' q.1 hn hv fun b hb => hg b (hb.imp id .inl), h'.loc G f τ m m' q.2 hn hv fun b hb => hg b (hb.imp id .inr)⟩,
   fun G f τ τ' m q hg => ⟨h.tg G f τ τ' m q.1 fun b hb => hg b (hb.imp id .inl), h'.tg G f τ τ' m q.2 fun b hb => hg b (hb.imp id .inr)⟩,
   fun G G' f τ m q hg => ⟨h.fr G G' f τ m q.1 fun b hb => hg b (hb.imp id .inl), h'.fr G G' f τ m q.2 fun b hb => hg b (hb.imp id .inr)⟩,
   fun G f τ m q b hb => hb.elim (h.z G f τ m q.1 b) (h'.z G f τ m q.2 b)⟩
end Gud
theorem Mo.lt {K V' : Type} [MK K] [MV V'] {F : Fm} {f m : M} {τ : Nat → Nat} {t : Nat} {c : C} {M : Option (K → Option V')} (h : Mo F f τ m t c M) : ∀ b, c = .map b → b < m.nxt := fun b hb => (h.own b hb).2.2.2
/-- the record of a loop -/
structure Rk (F : Fm) (f : M) (τ : Nat → Nat) (m : M) (t b : Nat) (o : Option AO) : Prop where
  g : m.g b = o
  new : F.m.nxt ≤ b ∨ F.B b
  nf : f.g b = none
  tg : τ b = t
  lt : b < m.nxt
theorem Rk.k {F : Fm} {f f' m m' : M} {τ τ' : Nat → Nat} {t b : Nat} {o : Option AO} {X : List Nat} (h : Rk F f τ m t b o) (k : Kp τ f m τ' f' m' X) (hx : t ∉ X) : Rk F f' τ' m' t b o := by
  have hx : τ b ∉ X := by rw [h.tg]; exact hx
  exact ⟨(k.g b h.lt hx).trans h.g, h.new, (k.fg b h.lt hx).trans h.nf, (k.tg b h.lt).trans h.tg, Nat.lt_of_lt_of_le h.lt k.nxt⟩
end
end Go.Abs

namespace Go.Abs
set_option maxRecDepth 100000
noncomputable section
variable {P : Program} {T : List (Nat × Bool)} {α : Type} [IV α]
/-- what a client says, while rest is still to be handed out -/
def YJ (xs : List (List V)) (I : Nat → (Nat → Prop) → M → Prop) (rest : List α) : (Nat → Prop) → M → Prop := fun S m => ∃ i, i ≤ xs.length ∧ I i S m ∧ xs.drop i = rest.map IV.encs
/-- a client's blocks, beside one's own -/
structure Yg (n0 : Nat) (J : (Nat → Prop) → M → Prop) (S : Nat → Prop) (F : Fm) (f : M) (τ : Nat → Nat) (m : M) : Prop where
  j : J S m
  loc : Local n0 J
  own : ∀ b, S b → τ b = 0 ∧ (F.m.nxt ≤ b ∨ F.B b) ∧ f.g b = none
  low : ∀ b, b < n0 → τ b = 0
  n : n0 ≤ m.nxt
theorem Yg.k {n0 : Nat} {J : (Nat → Prop) → M → Prop} {S : Nat → Prop} {F : Fm} {f f' m m' : M} {τ τ' : Nat → Nat} {X : List Nat} (h : Yg n0 J S F f τ m) (k : Kp τ f m τ' f' m' X) (hx : 0 ∉ X) : Yg n0 J S F f' τ' m' := by
  have hlt := h.loc.lt S m h.j
  have hS : ∀ b, S b → τ b ∉ X := fun b hb => by rw [(h.own b hb).1]; exact hx
  refine ⟨h.loc.st S m m' h.j k.nxt k.vw (fun b hb => k.g b (hlt b hb) (hS b hb)) fun b hb => k.g b (Nat.lt_of_lt_of_le hb h.n) (by rw [h.low b hb]; exact hx), h.loc, fun b hb => ?_, fun b hb => (k.tg b (Nat.lt_of_lt_of_le hb h.n)).trans (h.low b hb), Nat.le_trans h.n k.nxt⟩
  obtain ⟨q1, q2, q3⟩ := h.own b hb
  exact ⟨(k.tg b (hlt b hb)).trans q1, q2, (k.fg b (hlt b hb) (hS b hb)).trans q3⟩
theorem YJ.local {n0 ly : Nat} {xs : List (List V)} {I : Nat → (Nat → Prop) → M → Prop} {E : (Nat → Prop) → M → Prop} (hc : Client P T n0 ly xs I E) (rest : List α) : Local n0 (YJ xs I rest) :=
  ⟨fun S m m' ⟨i, h1, h2, h3⟩ hn hv hs hl => ⟨i, h1, (hc.li i).st S m m' h2 hn hv hs hl, h3⟩, fun S m ⟨i, _, h2, _⟩ => (hc.li i).lt S m h2⟩
/-- a call of yield -/
theorem Yg.yield {n0 ly : Nat} {xs : List (List V)} {I : Nat → (Nat → Prop) → M → Prop} {E : (Nat → Prop) → M → Prop} (hc : Client P T n0 ly xs I E) {S : Nat → Prop} {F : Fm} {f0 f m : M} {τ : Nat → Nat} (s : St F f0 f m) {a : α} {r : List α} (h : Yg n0 (YJ xs I (a :: r)) S F f τ m) {Q : V → M → Prop}
    (hT : ∀ m' τ' S', St F f0 f m' → Kp τ f m τ' f m' [0] → Yg n0 (YJ xs I r) S' F f τ' m' → Q (.c (.bool true)) m')
    (hF : ∀ m' τ' S', St F f0 f m' → Kp τ f m τ' f m' [0] → Yg n0 E S' F f τ' m' → Q (.c (.bool false)) m') : Wy P T ly (IV.encs a) m Q := by
  obtain ⟨i, hi, hI, hd⟩ := h.j
  have hx : xs[i]? = some (IV.encs a) := by
    have := congrArg (fun l => l[0]?) hd
    simpa using this
  have hlt := h.loc.lt S m h.j
  have hil := (List.getElem?_eq_some_iff.1 hx).1
  have hdr : xs.drop (i + 1) = r.map IV.encs := by
    rw [← List.drop_drop, hd]; rfl
  have hst : ∀ {S' : Nat → Prop} {m' : M}, Chg S m m' → St F f0 f m' := fun hch => s.chg (X := S) (fun b hb => (h.own b hb).2) hch.nxt hch.vw hch.g
  have hkp : ∀ {m' : M}, Chg S m m' → Kp τ f m (fun b => if b < m.nxt then τ b else 0) f m' [0] := fun hch =>
    ⟨hch.nxt, fun b hb => if_pos hb, fun b hb hx => hch.g b hb fun hSb => hx (by rw [(h.own b hSb).1]; exact List.mem_cons_self ..), fun _ _ _ => rfl, .refl f, hch.vw⟩
  have hyg : ∀ {J : (Nat → Prop) → M → Prop} {S' : Nat → Prop} {m' : M}, Local n0 J → J S' m' → Own S m S' → Chg S m m' → Yg n0 J S' F f (fun b => if b < m.nxt then τ b else 0) m' := fun {J S' m'} hl hj ho hch => by
    refine ⟨hj, hl, fun b hb => ?_, fun b hb => ?_, Nat.le_trans h.n hch.nxt⟩
    · rcases ho b hb with h1 | h1
      · obtain ⟨q1, q2, q3⟩ := h.own b h1
        exact ⟨(if_pos (hlt b h1)).trans q1, q2, q3⟩
      · exact ⟨if_neg (by omega), .inl (Nat.le_trans s.ext.nxt h1), s.fz b (Nat.le_trans s.sub.nxt h1)⟩
    · have := h.n
      exact (if_pos (by omega)).trans (h.low b hb)
  exact hc.yield i _ S m hx hI Q (fun S' m' ho hch hI' => hT m' _ S' (hst (S' := S') hch) (hkp hch) (hyg (YJ.local hc r) ⟨i + 1, hil, hI', hdr⟩ ho hch)) fun S' m' ho hch hE => hF m' _ S' (hst (S' := S') hch) (hkp hch) (hyg hc.le hE ho hch)
end
end Go.Abs

namespace Go.Abs
set_option maxRecDepth 100000
noncomputable section
variable {P : Program} {T : List (Nat × Bool)}
section
variable {K V' : Type} [MK K] [MV V']
theorem Mi.subv {f m : M} {c : C} {M : Option (K → Option V')} (h : Mi f c M) (s : SubV f m) : Mi m c M := by
  cases M with
  | none => exact h
  | some g =>
    obtain ⟨b, h1, h2⟩ := h
    refine ⟨b, h1, h2.to s.nxt (s.g b h2.lt (.inl ?_))⟩
    obtain ⟨es, cl, h3, _⟩ := h2.ex
    rw [h3]; exact Option.some_ne_none _
theorem Mi.sub {f m : M} {c : C} {M : Option (K → Option V')} (h : Mi f c M) (s : Sub f m) : Mi m c M := h.subv s.v
theorem Mi.mi {f : M} {c : C} {M : Option (K → Option V')} (h : Mi f c M) : Mi f c M := h
end
instance : MK Int := ⟨fun a => .c (.int .i64 a), fun a => fitsP .i64 a⟩
end
end Go.Abs

namespace Go.Abs
set_option maxRecDepth 100000
noncomputable section
theorem fI {n : Int} (h : -9223372036854775808 ≤ n ∧ n < 9223372036854775808) : fitsP .i64 n := h
theorem idx_at {α : Type} {l : List α} {k : Nat} {a : α} (h : l[k]? = some a) : idx l (k : Int) = some a := by rw [idx_nat]; exact h
/-- a truth value that says P -/
def Ev (o : Option Bool) (P : Prop) : Prop := ∃ b, o = some b ∧ (b = true ↔ P)
namespace Ev
variable {o k : Option Bool} {P K : Prop}
theorem mk' {b : Bool} (h : b = true ↔ P) : Ev (some b) P := ⟨b, rfl, h⟩
theorem dec {p : Prop} [Decidable p] (h : p ↔ P) : Ev (some (decide p)) P := ⟨_, rfl, decide_eq_true_iff.trans h⟩
theorem ff (h : ¬ P) : Ev (some false) P := ⟨false, rfl, ⟨fun h => (by cases h), fun h' => absurd h' h⟩⟩
theorem imp (h : Ev o P) (hp : P ↔ K) : Ev o K := by obtain ⟨b, h1, h2⟩ := h; exact ⟨b, h1, h2.trans hp⟩
theorem ret (h : Ev o P) : Ev (o.bind fun r => some r) P := by obtain ⟨b, h1, h2⟩ := h; exact ⟨b, by rw [h1]; rfl, h2⟩
theorem and (h : Ev o P) (hk : P → Ev k K) : Ev (o.bind fun r => if r = true then k else some false) (P ∧ K) := by
  obtain ⟨b, h1, h2⟩ := h
  rw [h1, Option.bind_some]
  cases b with
  | true =>
    rw [if_pos rfl]
    have hp := h2.1 rfl
    exact (hk hp).imp ⟨fun h => ⟨hp, h⟩, fun h => h.2⟩
  | false => rw [if_neg (by simp)]; exact ff fun h => by have := h2.2 h.1; cases this
theorem gd {p : Prop} (hp : p) (h : Ev o P) : Ev (Go.Abs.gd p o) P := by rw [gd_pos hp]; exact h
theorem bind {α : Type} {x : Option α} {a : α} {f : α → Option Bool} (hx : x = some a) (h : Ev (f a) P) : Ev (x.bind f) P := by rw [hx, Option.bind_some]; exact h
theorem neg (h : Ev o P) : Ev (o.bind fun r => some (!r)) (¬ P) := by
  obtain ⟨b, h1, h2⟩ := h
  refine ⟨!b, by rw [h1]; rfl, ?_⟩
  cases b with
  | true => exact ⟨fun h => (by cases h), fun h => absurd (h2.1 rfl) h⟩
  | false => exact ⟨fun _ hp => (by have := h2.2 hp; cases this), fun _ => rfl⟩
end Ev
open Classical in
theorem loopAll {β : Type} (n : Nat) (F : Nat → Int → Option β) (ok : Nat → Prop) (bad fin : Option β)
    (hstep : ∀ d k, k < n → F (d + 1) (k : Int) = if ok k then F d ((k : Int) + 1) else bad) (hend : ∀ d, F (d + 1) (n : Int) = fin) :
    ∀ d k, k ≤ n → n - k < d → F d (k : Int) = if (∀ j, k ≤ j → j < n → ok j) then fin else bad
  | 0, k, _, h => by omega
  | d + 1, k, hk, h => by
    by_cases hkn : k = n
    · subst hkn
      rw [hend, if_pos fun j h1 h2 => by omega]
    · rw [hstep d k (by omega)]
      by_cases ho : ok k
      · rw [if_pos ho, show (k : Int) + 1 = ((k + 1 : Nat) : Int) by omega, loopAll n F ok bad fin hstep hend d (k + 1) (by omega) (by omega)]
        by_cases ha : ∀ j, k + 1 ≤ j → j < n → ok j
        · rw [if_pos ha, if_pos fun j h1 h2 => by
            rcases Nat.eq_or_lt_of_le h1 with h3 | h3
            · subst h3; exact ho
            · exact ha j h3 h2]
        · rw [if_neg ha, if_neg fun h' => ha fun j h1 h2 => h' j (by omega) h2]
      · rw [if_neg ho, if_neg fun h' => ho (h' k (Nat.le_refl _) (by omega))]
/-- the same, from the start -/
theorem loopAll_tt {β : Type} {n : Nat} {F : Nat → Int → Option β} {ok : Nat → Prop} {bad fin : Option β}
    (hstep : ∀ d k, k < n → (ok k → F (d + 1) (k : Int) = F d ((k : Int) + 1)) ∧ (¬ ok k → F (d + 1) (k : Int) = bad)) (hend : ∀ d, F (d + 1) (n : Int) = fin) {d : Nat} (hd : n < d) :
    ((∀ j, j < n → ok j) → F d 0 = fin) ∧ (¬ (∀ j, j < n → ok j) → F d 0 = bad) := by
  have h := loopAll n F ok bad fin (fun d k hk => by
    by_cases ho : ok k
    · rw [if_pos ho]; exact (hstep d k hk).1 ho
    · rw [if_neg ho]; exact (hstep d k hk).2 ho) hend d 0 (Nat.zero_le _) (by omega)
  have h : F d 0 = _ := h
  refine ⟨fun ha => ?_, fun ha => ?_⟩
  · rw [h, if_pos fun j _ => ha j]
  · rw [h, if_neg fun h' => ha fun j => h' j (Nat.zero_le _)]
theorem Ev.loop {n : Nat} {F : Nat → Int → Option Bool} {ok : Nat → Prop} {fin : Option Bool} {P : Prop}
    (hstep : ∀ d k, k < n → (ok k → F (d + 1) (k : Int) = F d ((k : Int) + 1)) ∧ (¬ ok k → F (d + 1) (k : Int) = some false)) (hend : ∀ d, F (d + 1) (n : Int) = fin) {d : Nat} (hd : n < d)
    (hf : (∀ j, j < n → ok j) → Ev fin P) : Ev (F d 0) ((∀ j, j < n → ok j) ∧ P) := by
  obtain ⟨h1, h2⟩ := loopAll_tt hstep hend hd
  by_cases ha : ∀ j, j < n → ok j
  · rw [h1 ha]; exact (hf ha).imp ⟨fun h => ⟨ha, h⟩, fun h => h.2⟩
  · rw [h2 ha]; exact Ev.ff fun h => ha h.1
def gIdx {α : Type} (l : List α) (p : α → Option Bool) : Nat → Int → Option Int
  | 0, _ => none
  | d + 1, x => if x < (l.length : Int) then ((idx l x).bind fun v => (p v).bind fun r => if r = true then some x else gd (fitsP .i64 (x + (1 : Int))) (gIdx l p d (x + (1 : Int)))) else some (-1 : Int)
theorem gIdx_ev {α : Type} {l : List α} {p : α → Option Bool} {q : α → Prop} (hp : ∀ a ∈ l, Ev (p a) (q a)) (hl : l.length < 4611686018427387904) :
    ∀ d (k : Nat), k ≤ l.length → l.length - k < d → ∃ r, gIdx l p d (k : Int) = some r ∧ (0 ≤ r ↔ ∃ a ∈ l.drop k, q a)
  | 0, _, _, h => by omega
  | d + 1, k, hk, h => by
    unfold gIdx
    by_cases hkn : k = l.length
    · subst hkn
      rw [if_neg (Int.lt_irrefl _)]
      exact ⟨_, rfl, by simp⟩
    · have hlt : k < l.length := by omega
      have hget := List.getElem?_eq_getElem hlt
      rw [if_pos (by omega), idx_at hget, Option.bind_some]
      have hd := List.drop_eq_getElem_cons hlt
      obtain ⟨b, h1, h2⟩ := hp _ (List.getElem_mem hlt)
      rw [h1, Option.bind_some]
      cases b with
      | true => rw [if_pos rfl]; exact ⟨_, rfl, ⟨fun _ => ⟨_, by rw [hd]; exact List.mem_cons_self .., h2.1 rfl⟩, fun _ => by omega⟩⟩
      | false =>
        rw [if_neg (by simp), gd_pos (fI (by omega)), show (k : Int) + 1 = ((k + 1 : Nat) : Int) by omega]
        obtain ⟨r, h3, h4⟩ := gIdx_ev hp hl d (k + 1) (by omega) (by omega)
        refine ⟨r, h3, h4.trans ⟨fun ⟨a, ha, hq⟩ => ⟨a, by rw [hd]; exact List.mem_cons_of_mem _ ha, hq⟩, fun ⟨a, ha, hq⟩ => ?_⟩⟩
        rw [hd] at ha
        rcases List.mem_cons.1 ha with rfl | ha
        · have := h2.2 hq; cases this
        · exact ⟨a, ha, hq⟩
theorem Ev.contains {α : Type} {l : List α} {p : α → Option Bool} {q : α → Prop} (hp : ∀ a ∈ l, Ev (p a) (q a)) (hl : l.length < 4611686018427387904) {o : Option Int} (ho : o = gIdx l p (l.length + 1) (0 : Int)) :
    Ev (o.bind fun r => some (decide ((0 : Int) ≤ r))) (∃ a ∈ l, q a) := by
  obtain ⟨r, h1, h2⟩ := gIdx_ev hp hl (l.length + 1) 0 (Nat.zero_le _) (by omega)
  have h1 : gIdx l p (l.length + 1) 0 = some r := h1
  rw [ho, h1, Option.bind_some]
  exact Ev.dec (by rw [h2, List.drop_zero])
theorem Ev.each {α : Type} {l : List α} {p : α → Option Bool} {q : α → Prop} (hp : ∀ a ∈ l, Ev (p a) (q a)) (hl : l.length < 4611686018427387904) {o : Option Int} (ho : o = gIdx l (fun a => (p a).bind fun r => some (!r)) (l.length + 1) (0 : Int)) :
    Ev ((o.bind fun r => some (decide ((0 : Int) ≤ r))).bind fun r => some (!r)) (∀ a ∈ l, q a) :=
  ((Ev.contains (q := fun a => ¬ q a) (fun a ha => (hp a ha).neg) hl ho).neg).imp (by
    constructor
    · intro h a ha; exact Classical.byContradiction fun hq => h ⟨a, ha, hq⟩
    · rintro h ⟨a, ha, hq⟩; exact hq (h a ha))
end
end Go.Abs

namespace Go.Abs
set_option maxRecDepth 100000
noncomputable section
/-- a memory that can only be read, and where it lies -/
structure Lay (W : World) (e : Env) (m : M) : Prop where
  hr : HR e (toH m) W
  g : ∀ b, m.g b = none
  vz : ∀ b, m.nxt ≤ b → m.vw b = none
  base : e.base = W.heap
theorem Lay.nil (W : World) : Lay W { ρ := fun _ => none, sz := fun _ => 0, es := fun _ => 0, base := W.heap } { nxt := 0, g := fun _ => none, vw := fun _ => none } :=
  ⟨⟨fun _ _ => rfl, fun b o h => (by cases h), fun b b' o o' c h => (by cases h), Nat.le_refl _, fun b o c h => (by cases h), fun c cs t fr h => h, fun b q h => (by cases h)⟩, fun _ => rfl, fun _ _ => rfl, rfl⟩
variable {P : Program} {α β : Type} [Rp α] [Rp β]
theorem Lay.kept {W W' : World} {e : Env} {m : M} (h : Lay W e m) {e' : Env} {h' : H} (hs : Step e (toH m) W e' h' W') (may : MemPlace → Prop) : W.keptBut W' may := by
  refine ⟨hs.os, hs.output, fun i hi => ?_⟩
  rw [hs.keep i hi (fun b o hb => by
    have hb : m.g b = some o := hb
    rw [h.g b] at hb; cases hb)]
  cases W.heap[i]? with
  | none => rfl
  | some o => cases o <;> first | exact ⟨rfl, rfl, rfl, fun _ _ => rfl⟩ | exact Or.inr ⟨rfl, rfl⟩ | rfl
end
end Go.Abs

