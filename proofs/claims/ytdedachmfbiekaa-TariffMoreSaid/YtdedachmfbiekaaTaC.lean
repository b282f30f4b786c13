/- An evaluator of code, its soundness, and what functions of the program do. Condition: none; a lemma text. -/
import Derived.Test.YtdedachmfbiekaaTaB

namespace Go.Abs
noncomputable section
variable {P:Program} {w:World} {a:Act} {e:Env} {h:H} {tm:S3 V}
variable {e0:Env} {h0:H} {w0:World} {N:Nat} {ro:Option Nat} {n:Nat} {rec:Rec}
theorem HR.other(hr:HR e h w)(co:Obj):HR e h (w.alloc co)/\zeE e h w e h (w.alloc co):=by
 refine⟨⟨hr.fresh,fun b o hb=>?_,hr.inj,hr.vws.to (.refl e) (by simp) (fun c hc=>heap_alloc_old w co c (Nat.lt_of_lt_of_le hc hr.vws.lim)) hr.vws.own fun _ _ h=>h⟩,⟨.refl e,Nat.le_refl _,by simp,rfl,rfl,rfl,fun c hc _=>heap_alloc_old w co c hc,fun b o c hb hc=>.inr ⟨b,o,hb,hc⟩,fun c r hc=>⟨r,by rw[heap_alloc_old w co c (Array.getElem?_eq_some_iff.1 hc).1]; exact hc⟩,fun _ _=>rfl⟩⟩;obtain⟨cb,h1,co',h2,h3⟩:=hr.live b o hb;exact⟨cb,h1,co',by rw[heap_alloc_old w co cb (Array.getElem?_eq_some_iff.1 h2).1]; exact h2,h3⟩
theorem HR.gone(hr:HR e h w){b:Nat}{o0:AO}{c:Nat}(hb:zaj h.t b=some o0)(hc:e.ρ b=some c)(co:Obj)(hl:∀r:Loop,w.heap[c]? = some (Obj.loop r)->∃r',co=Obj.loop r') :
  HR e (za1 h b) (w.putObj c co)/\zeE e h w e (za1 h b) (w.putObj c co):=by
 have hlt:=hr.lt hb hc;have hapart:∀{k o' x},k ≠ b->zaj h.t k=some o'->e.ρ k=some x->x ≠ c:=fun {k o' x} hk hg hx hxc=>hk (hr.inj k b o' o0 c hg hb (by rw[<- hxc]; exact hx) hc)
 refine⟨⟨hr.fresh,fun k o' hk=>?_,fun k k' o1 o2 x h1 h2=>hr.inj k k' o1 o2 x (zep h1).2 (zep h2).2,hr.vws.to (.refl e) (by simp[World.putObj]) (fun x hx=>World.putObj_heap_other fun hcc=>by
   have:=hr.vws.own b o0 c hb hc; omega) (fun k o' x hk hx=>hr.vws.own k o' x (zep hk).2 hx) fun _ _ h=>h⟩,⟨.refl e,Nat.le_refl _,by simp[World.putObj],rfl,rfl,rfl,fun x hx hne=>?_,fun k o' x hk hx=>.inr ⟨k,o',(zep hk).2,hx⟩,fun x r hx=>?_,fun _ _=>rfl⟩⟩
 ·obtain⟨h1,h2⟩:=zep hk;obtain⟨cb,h4,co',h5,h6⟩:=hr.live k o' h2;exact⟨cb,h4,co',by rw[World.putObj_heap_other (hapart h1 h2 h4)]; exact h5,h6⟩
 ·exact World.putObj_heap_other (fun(hcc:x=c)=>hne b o0 hb (by rw[hcc]; exact hc))
 ·by_cases hxc:x=c
  ·subst hxc;obtain⟨r',hr'⟩:=hl r hx;exact⟨r',by rw[World.putObj_heap_same hlt,hr']⟩
  ·exact⟨r,by rw[World.putObj_heap_other hxc]; exact hx⟩
theorem HR.loop(hr:HR e h w){b:Nat}{st:LoopState}{pend:Option Code}{fn:FuncId}{tml:S3 V}{ps:List Nat}{asn bd:Code}(hb:zaj h.t b=some (.loop st pend fn tml ps asn bd)){c:Nat}(hc:e.ρ b=some c) :
  ∃r:Loop,w.heap[c]? = some (.loop r)/\zeD r/\r.state=st/\r.pending=pend/\TR e tml r.tmps/\r.params.toList=ps/\r.assign=asn/\r.body=bd:=by
 obtain⟨cb,h1,co,h2,h3⟩:=hr.live b _ hb
 rw[hc] at h1; cases h1
 obtain⟨r,rfl,h4⟩:=h3;exact⟨r,h2,h4⟩
theorem zkD{c:Nat}{r:Loop}(hc:w.heap[c]? = some (.loop r)):(Instr.getLoop c).run P w=.ok r w:=by
 simp[Instr.getLoop,getObj,Sem.run,hc]
theorem zkE{c:Nat}{r:Loop}(hc:w.heap[c]? = some (.loop r))(o:Obj):(setObj c o).run P w=.ok () (w.putObj c o):=by
 simp only[setObj,Sem.run,World.putObj]
 simp[hc]
theorem zkF{h:H}{b:Nat}{s:LoopState->Option Code->FuncId->S3 V->List Nat->Code->Code->Out}(hn:zh6 (za5 h b .fail s)):∃st pend fn tml ps asn bd,zaj h.t b=some (.loop st pend fn tml ps asn bd)/\za5 h b .fail s=s st pend fn tml ps asn bd:=by
 unfold za5 at hn ⊢
 cases hg:zaj h.t b with
 | none=>rw[hg] at hn; exact hn.elim
 | some o=>
  rw[hg] at hn
  cases o with
  | loop st pend fn tml ps asn bd=>exact⟨st,pend,fn,tml,ps,asn,bd,rfl,rfl⟩
  | _=>exact hn.elim
theorem zkG(hsnd:zir P rec){f:Operand}{ps:Array Tmp}{asn bd:Code}(hso:slotsOk N (.rangeFunc f ps asn bd)=true)(hro:zik ro w0)(hi:Inv e0 h0 w0 N tm h a w){v:V}(hv:opd tm f=some v)
  (hn:zh6 (zdM rec ps.toList asn bd tm h v)):(Code.rangeFunc f ps asn bd).wpIn (zii ro) n P (zim e0 h0 w0 N (zdM rec ps.toList asn bd tm h v)) a w:=by
 obtain⟨e,hst,hr,ht,hm,hN⟩:=hi.out;have hfr:=ze4 ht hv
 obtain⟨g,fx,fy,rfl⟩:∃g fx fy,v=.c (.fn (.func g) fx fy):=by
  cases v with
  | c x=>
   cases x with
   | fn fn fx fy=>
    cases fn with
    | func g=>exact⟨g,fx,fy,rfl⟩
    | yield l=>cases fx with
     | nil=>exact hn.elim
     | cons y ys=>exact hn.elim
    | _=>exact hn.elim
   | _=>exact hn.elim
  | _=>exact hn.elim
 obtain⟨f',x',y',hfn,hfe,hx,hy⟩:∃f' a' b',FnR e (.func g) f'/\a.eval f=.func f' a' b'/\zeq (WR e) fx a'.toList/\zeq (WR e) fy b'.toList:=hfr;have hf':f'=.func g:=hfn;subst hf';have hon:zdM rec ps.toList asn bd tm h (.c (.fn (.func g) fx fy))=bind (rec (.call g (appS (zbZ wV fx) (appS [.c (.fn (.yield h.nxt) [] [])] (zbZ wV fy)))) e3 (zaZ h (.loop .ready none 0 tm ps.toList asn bd))) (zdL rec h.nxt tm):=rfl;rw[hon] at hn ⊢;obtain⟨n1,n2⟩:=zia hn;unfold slotsOk at hso
 simp only[Bool.and_eq_true] at hso
 obtain⟨⟨hps,has⟩,hbd⟩:=hso
 obtain⟨wa,mark,dl,henter,hra,hsta,hma⟩:∃(wa:World) (mark:List Deferred) (dl:Nat),(∀fn,(Instr.enterLoop fn a.tmps ps asn bd ro).run P w=.ok (wa.heap.size,mark) (wa.alloc (.loop { state:=.ready,pending:=none,fn,tmps:=a.tmps,params:=ps,assign:=asn,body:=bd,defers:=dl }))) /\
   HR e h wa/\zeE e h w e h wa/\zix e h w0 wa (mark++a.defers):=by
  cases hroe:ro with
  | none=>
   obtain⟨q1,q2⟩:=hr.other (.deferred (some []));refine⟨w.alloc (.deferred (some [])),[zil w.heap.size],w.heap.size,fun fn=>?_,q1,q2,?_⟩
   ·simp[Instr.enterLoop,zil]
   ·obtain⟨ms,m1,m2,m3⟩:=hm.step q2;obtain⟨ms0,m10,m20,m30⟩:=hm
    have hms:ms=ms0:=by
     have:ms.map zil=ms0.map zil:=by rw[<- m1,<- m10]
     have hinj:∀(l r:List Nat),l.map zil=r.map zil->l=r:=by
      intro l
      induction l with
      | nil=>intro r hlr; cases r with
       | nil=>rfl
       | cons _ _=>cases hlr
      | cons x xs ih=>
       intro r hlr
       cases r with
       | nil=>cases hlr
       | cons y ys=>
        simp only[List.map_cons,List.cons.injEq] at hlr
        have hxy:x=y:=by
         have:=congrArg Deferred.target hlr.1
         simpa [zil] using this
        rw[hxy,ih ys hlr.2]
     exact hinj _ _ this
    refine⟨w.heap.size::ms,by rw[m1]; rfl,List.nodup_cons.2 ⟨fun hmem=>?_,m2⟩,fun r hrm=>?_⟩
    ·rw[hms] at hmem;have:=(m30 _ hmem).2.1;have:=(Array.getElem?_eq_some_iff.1 this).1
     omega
    ·rcases List.mem_cons.1 hrm with rfl | hrm
     ·exact⟨hst.size,heap_alloc_new w _,fun b o hb hc=>absurd (hr.lt hb hc) (by omega)⟩
     ·exact m3 r hrm
  | some l0=>
   obtain⟨r0,hr0⟩:=(hro.step hst) l0 hroe;refine⟨w,[],r0.defers,fun fn=>?_,hr,.refl _ _ _,by rw[List.nil_append]; exact hm⟩
   simp[Instr.enterLoop,zkD hr0]
 have hle:=Env.put_le (hra.fresh h.nxt (Nat.le_refl _)) wa.heap.size 0 0;refine wpIn_mono (Q:=zim e0 h0 w0 N _) (wpIn_rangeFunc fun fn _=>?_) (fun _ _ _ hq=>hq)
 have hlo:zeD { state:=.ready,pending:=none,fn,tmps:=a.tmps,params:=ps,assign:=asn,body:=bd,defers:=dl }:=by
  refine⟨by show slotsOk a.tmps.size asn=true; rw[hN]; exact has,by show slotsOk a.tmps.size bd=true; rw[hN]; exact hbd,fun p hp=>?_,fun c hc=>by cases hc⟩;have:=List.all_eq_true.1 hps p hp
  show p < a.tmps.size
  rw[hN];have:Nat.ble (p+1) N=true:=this;exact Nat.le_of_ble_eq_true this
 have hor:OR (e.put h.nxt wa.heap.size 0 0) h.nxt (.loop .ready none 0 tm ps.toList asn bd) (.loop { state:=.ready,pending:=none,fn,tmps:=a.tmps,params:=ps,assign:=asn,body:=bd,defers:=dl }):=
  ⟨_,rfl,hlo,rfl,rfl,TR.mono hle ht,rfl,rfl,rfl⟩
 obtain⟨b1,b2⟩:=hra.new 0 0 hor
 have hargs:zeq (VR (e.put h.nxt wa.heap.size 0 0)) (appS (zbZ wV fx) (appS [.c (.fn (.yield h.nxt) [] [])] (zbZ wV fy))) (x' ++ #[Value.func (.yield wa.heap.size) #[] #[]]++y').toList:=by
  rw[zes,zes,Array.toList_append,Array.toList_append,List.append_assoc];refine(zh0 (hx.mono fun _ _=>WR.mono hle)).app (zeq.app (.cons ?_ .nil) (zh0 (hy.mono fun _ _=>WR.mono hle)));exact⟨.yield wa.heap.size,#[],#[],⟨wa.heap.size,Env.put_self _ _ _ _ _,rfl⟩,rfl,.nil,.nil⟩
 obtain⟨⟨gf,hgf,hgb,hgn⟩,hcall⟩:=hsnd.call g _ e3 _ _ _ _ b1 hargs n1;refine⟨wa.heap.size,mark,(wa.alloc (.loop { state:=.ready,pending:=none,fn,tmps:=a.tmps,params:=ps,assign:=asn,body:=bd,defers:=dl })),{ target:=.fn (.func g) y',args:=x' ++ #[Value.func (.yield wa.heap.size) #[] #[]] },(wa.alloc (.loop { state:=.ready,pending:=none,fn,tmps:=a.tmps,params:=ps,assign:=asn,body:=bd,defers:=dl })),g,x' ++ #[Value.func (.yield wa.heap.size) #[] #[]]++y',(wa.alloc (.loop { state:=.ready,pending:=none,fn,tmps:=a.tmps,params:=ps,assign:=asn,body:=bd,defers:=dl })),henter fn,?_,fun _ _=>trivial,?_,(fun hx=>absurd hx (by simp[zii,Fence.wide])),CallsIn.mono (F:=zii ro) (hcall (n - 1)) (fun en w3 hp=>?_)⟩
 ·have hmp:(#[Operand.const (Value.func (.yield wa.heap.size) #[] #[])].map a.eval) = #[Value.func (.yield wa.heap.size) #[] #[]]:=by simp[Act.eval]
  simp only[resolve,hfe,hmp,Deferred.ofValue,Sem.run_pure]
 ·simp only[invoke]
  exact ziu hgf hgb hgn _
 ·obtain⟨v,v',tm',e',h',rfl,q0,q1,q2,q3⟩:=hp;have hnr:=n2 _ _ _ q0;obtain⟨st,pend,fn1,tml,ps1,as1,bd1,hg5,hoe⟩:=zkF (show zh6 (za5 h' h.nxt .fail _) from hnr);have hae:zdL rec h.nxt tm (.val v) tm' h'=LoopState.rec (motive:=fun _=>Out) (zdK rec tm (za1 h' h.nxt) pend) .fail (zdK rec tm (za1 h' h.nxt) pend) (zdK rec tm (za1 h' h.nxt) pend) st:=hoe;have hρ:e'.ρ h.nxt=some wa.heap.size:=q1.le.ρ _ _ (Env.put_self _ _ _ _ _);obtain⟨r,hrl,hlk,hrs,hrp,_⟩:=q2.loop hg5 hρ
  have hnb:r.state ≠ .busy:=fun hb=>by
   rw[hae,<- hrs,hb] at hnr;exact hnr.elim
  have hae':zdL rec h.nxt tm (.val v) tm' h'=zdK rec tm (za1 h' h.nxt) pend:=by
   rw[hae,<- hrs]
   cases hs:r.state with
   | busy=>exact absurd hs hnb
   | _=>rfl
  have hend:(Instr.endLoop wa.heap.size).run P w3=.ok r.pending (w3.putObj wa.heap.size (.loop { r with state:=.exhausted })):=by
   simp[Instr.endLoop,zkD hrl,hnb,zkE hrl]
  obtain⟨c1,c2⟩:=q2.gone hg5 hρ (.loop { r with state:=.exhausted }) (fun r' _=>⟨_,rfl⟩)
  have hall:zeE e h wa e' (za1 h' h.nxt) (w3.putObj wa.heap.size (.loop { r with state:=.exhausted })):=(b2.trans q1).trans c2
  have hinv:Inv e0 h0 w0 N tm (za1 h' h.nxt) { a with defers:=mark++a.defers } (w3.putObj wa.heap.size (.loop { r with state:=.exhausted })):=
   .mk' (hst.trans (hsta.trans hall)) c1 (TR.mono hall.le ht) (hma.step hall) hN
  generalize (w3.putObj wa.heap.size (.loop { r with state:=.exhausted }))=W4 at hend hinv
  refine⟨r.pending,W4,hend,?_⟩;rw[hae'] at hnr
  cases hpe:r.pending with
  | none=>
   rw[<- hrp,hpe] at hnr hae';exact⟨.nrm,tm,za1 h' h.nxt,zh9 q0 (by rw[hae']; exact .ok _ _ _),rfl,hinv⟩
  | some c=>
   rw[<- hrp,hpe] at hnr hae'
   rcases hlk.2.2.2 c hpe with rfl | ⟨id,rfl⟩
   ·exact wpIn_ret ⟨.ret,tm,za1 h' h.nxt,zh9 q0 (by rw[hae']; exact .ok _ _ _),rfl,hinv⟩
   ·exact wpIn_exit ⟨.exit id,tm,za1 h' h.nxt,zh9 q0 (by rw[hae']; exact .ok _ _ _),rfl,hinv⟩
theorem Inv.sub{tm':S3 V}(hi:Inv e0 h0 w0 N tm h a w)(ht:∀k v,zag tm' k=some v->zag tm k=some v):Inv e0 h0 w0 N tm' h a w:=by
 obtain⟨e,hst,hr,htr,hm,hN⟩:=hi.out;exact .mk' hst hr (fun t v hv=>htr t v (ht t v hv)) hm hN
theorem zkH{F:Fence}{c:Code}{Q:Exit->Act->World->Prop}(hh:c.wpIn F n P Q a w)(hq:∀l a w,¬ Q (.goto l) a w):(Code.scope c).wpIn F n P Q a w:=by
 intro b k cs hro hb hr;have h0:(lone (b.atR a (.code (.scope c)::k)) cs w).fenced P F:=fenced_calm hb hr rfl;have h1:Go.step P (lone (b.atR a (.code (.scope c)::k)) cs w)=.next (lone (b.atR a (.code c :: .inScope c::k)) cs w):=step_lone_go (by simp[stepG,stepG.exec,Frame.atR]);obtain⟨e,a₁,w₁,hqe,harr⟩:=hh b (.inScope c::k) cs hro hb hr
 cases e with
 | normal=>
  have h2:Go.step P (lone (b.atR a₁ (.inScope c::k)) cs w₁)=.next (lone (b.atR a₁ k) cs w₁):=step_lone_go (by simp[stepG,stepG.exec,Frame.atR]);exact⟨.normal,a₁,w₁,hqe,.head h0 h1 (StepsIn.trans harr (.one (fenced_calm hb hr rfl) h2))⟩
 | exit id=>
  have hx:exitTo id (.inScope c::k)=exitTo id k:=by simp[exitTo]
  exact⟨.exit id,a₁,w₁,hqe,fun k' hk=>.head h0 h1 (harr.1 k' (by rw[hx]; exact hk)),fun hr' hk=>let ⟨k₁,p1,p2⟩:=harr.2 hr' (by rw[hx]; exact hk); ⟨k₁,p1,.head h0 h1 p2⟩⟩
 | goto l=>exact absurd hqe (hq l a₁ w₁)
 | ret=>exact⟨_,a₁,w₁,hqe,.of_steps (.one h0 h1) harr⟩
 | panic ch=>exact⟨_,a₁,w₁,hqe,.of_steps (.one h0 h1) harr⟩
 | outgrown=>exact⟨_,a₁,w₁,hqe,.of_steps (.one h0 h1) harr⟩
theorem zkI(hP:zgE P)(hsnd:zir P rec):∀(c:Code) {tm:S3 V} {h:H} {a:Act} {w:World},slotsOk N c=true->zik ro w0->Inv e0 h0 w0 N tm h a w->zh6 (zdN P rec c tm h) ->
  c.wpIn (zii ro) n P (zim e0 h0 w0 N (zdN P rec c tm h)) a w:=by
 intro c
 induction c with
 | skip=>intro tm h a w _ _ hi _; exact wpIn_skip ⟨.nrm,tm,h,.ok _ _ _,rfl,hi⟩
 | region id ops draw=>
  intro tm h a w hso _ hi hn
  have hd:∀o∈ops.toList,∀t,o.dst=some t->t < N:=fun o ho t hto=>by
   unfold slotsOk at hso;have:=List.all_eq_true.1 hso o ho;rw[hto] at this;have:Nat.ble (t+1) N=true:=this;exact Nat.le_of_ble_eq_true this
  cases draw with
  | false=>exact ziC hP hsnd hd hi hn
  | true=>
   have hn':zh6 (orF (zdj ops.toList) fun l=>zdx P rec ops.toList h.nxt l tm (zdz h (zdy l)) [] []):=hn;obtain⟨l,hl,h1⟩:=zib hn'
   have heq:zdN P rec (.region id ops true) tm h=zdx P rec ops.toList h.nxt l tm (zdz h (zdy l)) [] []:=by
    show orF (zdj ops.toList) (fun l=>zdx P rec ops.toList h.nxt l tm (zdz h (zdy l)) [] [])=_
    rw[hl]; rfl
   rw[heq];exact zkC hP hsnd hl hd hi h1
 | seq x y ihx ihy=>
  intro tm h a w hso hro hi hn;unfold slotsOk at hso;rw[Bool.and_eq_true] at hso;obtain⟨n1,n2⟩:=zia (show zh6 (bind (zdN P rec x tm h) (zdB (zdN P rec y))) from hn);refine wpIn_seq (wpIn_mono (ihx hso.1 hro hi n1) fun ex a' w' hq=>?_);obtain⟨exx,tm',h',q1,q2,q3⟩:=hq;have hnk:=n2 _ _ _ q1
  cases exx with
  | nrm=>
   have hxn:ex=.normal:=q2;subst hxn;refine wpIn_mono (ihy hso.2 hro q3 hnk) fun x2 a2 w2 hq2=>?_;obtain⟨ex2,tm2,h2,r1,r2,r3⟩:=hq2;exact⟨ex2,tm2,h2,zh9 q1 r1,r2,r3⟩
  | exit id=>have hxn:ex=.exit id:=q2; subst hxn; exact⟨.exit id,tm',h',zh9 q1 (.ok _ _ _),rfl,q3⟩
  | ret=>have hxn:ex=.ret:=q2; subst hxn; exact⟨.ret,tm',h',zh9 q1 (.ok _ _ _),rfl,q3⟩
  | val v=>exact q2.elim
 | cond c x y ihx ihy=>
  intro tm h a w hso hro hi hn;unfold slotsOk at hso;rw[Bool.and_eq_true] at hso;have hn':zh6 (orF (opd tm c) fun v=>zav v .fail fun t=>ifB t (zdN P rec x tm h) (zdN P rec y tm h)):=hn;obtain⟨v,hv,h1⟩:=zib hn'
  obtain⟨t,rfl⟩:∃t,v=.c (.bool t):=by
   cases v with
   | c z=>cases z with
    | bool t=>exact⟨t,rfl⟩
    | _=>exact h1.elim
   | _=>exact h1.elim
  have heq:zdN P rec (.cond c x y) tm h=ifB t (zdN P rec x tm h) (zdN P rec y tm h):=by
   show orF (opd tm c) (fun v=>zav v .fail fun t=>ifB t (zdN P rec x tm h) (zdN P rec y tm h))=_
   rw[hv]; rfl
  rw[heq];obtain⟨e,hst,hr,ht,hm,hN⟩:=hi.out;have hce:a.eval c=.bool t:=ze4 ht hv
  cases t with
  | true=>exact wpIn_cond hce (ihx hso.1 hro hi h1)
  | false=>exact wpIn_cond hce (ihy hso.2 hro hi h1)
 | block id b ih=>
  intro tm h a w hso hro hi hn;obtain⟨n1,n2⟩:=zia (show zh6 (bind (zdN P rec b tm h) (zdC id)) from hn);refine wpIn_block (wpIn_mono (ih hso hro hi n1) fun ex a' w' hq=>?_);obtain⟨exx,tm',h',q1,q2,q3⟩:=hq
  cases exx with
  | nrm=>have hxn:ex=.normal:=q2; subst hxn; exact⟨.nrm,tm',h',zh9 q1 (.ok _ _ _),rfl,q3⟩
  | exit id'=>
   have hxn:ex=.exit id':=q2;subst hxn
   show(if id'=id then zim e0 h0 w0 N (zdN P rec (.block id b) tm h) .normal a' w' else zim e0 h0 w0 N (zdN P rec (.block id b) tm h) (.exit id') a' w')
   by_cases hid:id'=id
   ·rw[if_pos hid];refine⟨.nrm,tm',h',zh9 q1 ?_,rfl,q3⟩
    show zh5 (ifB (Nat.beq id id') (.ok .nrm tm' h') (.ok (.exit id') tm' h')) _ _ _
    rw[hid,Nat.beq_refl]; exact .ok _ _ _
   ·rw[if_neg hid];refine⟨.exit id',tm',h',zh9 q1 ?_,rfl,q3⟩
    show zh5 (ifB (Nat.beq id id') (.ok .nrm tm' h') (.ok (.exit id') tm' h')) _ _ _
    have:Nat.beq id id'=false:=by
     cases hb:Nat.beq id id' with
     | false=>rfl
     | true=>exact absurd (zgw.1 hb).symm hid
    rw[this]; exact .ok _ _ _
  | ret=>have hxn:ex=.ret:=q2; subst hxn; exact⟨.ret,tm',h',zh9 q1 (.ok _ _ _),rfl,q3⟩
  | val v=>exact q2.elim
 | loop b ih=>
  intro tm h a w hso hro hi hn;obtain⟨n1,n2⟩:=zia (show zh6 (bind (zdN P rec b (zdI h b tm tm) h) (zdJ rec b (zdI h b tm tm))) from hn);refine ziq (zio (wpIn_mono (ih hso hro (hi.sub fun _ _=>zej) n1) fun ex a' w' hq=>?_));obtain⟨exx,tm',h',q1,q2,q3⟩:=hq;have hnk:=n2 _ _ _ q1
  cases exx with
  | nrm=>
   have hxn:ex=.normal:=q2;subst hxn;have hl:=hsnd.loop b (zdI h' b (zdI h b tm tm) tm') h' e0 h0 w0 N ro a' w' n hro hso (q3.sub fun _ _=>zej) hnk;intro bb k cs b1 b2 b3;obtain⟨e2,a2,w2,hq2,harr⟩:=hl bb k cs b1 b2 b3;obtain⟨ex2,tm2,h2,r1,r2,r3⟩:=hq2;exact⟨e2,a2,w2,⟨ex2,tm2,h2,zh9 q1 r1,r2,r3⟩,harr⟩
  | exit id=>have hxn:ex=.exit id:=q2; subst hxn; exact⟨.exit id,tm',h',zh9 q1 (.ok _ _ _),rfl,q3⟩
  | ret=>have hxn:ex=.ret:=q2; subst hxn; exact⟨.ret,tm',h',zh9 q1 (.ok _ _ _),rfl,q3⟩
  | val v=>exact q2.elim
 | rangeFunc f ps x y _ _=>
  intro tm h a w hso hro hi hn;obtain⟨v,hv,h1⟩:=zib (show zh6 (orF (opd tm f) fun v=>zdM rec ps.toList x y tm h v) from hn)
  have heq:zdN P rec (.rangeFunc f ps x y) tm h=zdM rec ps.toList x y tm h v:=by
   show orF (opd tm f) (fun v=>zdM rec ps.toList x y tm h v)=_
   rw[hv]; rfl
  rw[heq];exact zkG hsnd hso hro hi hv h1
 | exit id=>intro tm h a w _ _ hi _; exact wpIn_exit ⟨.exit id,tm,h,.ok _ _ _,rfl,hi⟩
 | ret=>intro tm h a w _ _ hi _; exact wpIn_ret ⟨.ret,tm,h,.ok _ _ _,rfl,hi⟩
 | scope b ih=>
  intro tm h a w hso hro hi hn;unfold slotsOk at hso
  exact zkH (Q:=zim e0 h0 w0 N (zdN P rec b tm h)) (ih hso hro hi hn) fun l a' w' hq=>by
   obtain⟨ex,_,_,_,hx,_⟩:=hq
   cases ex <;> first | cases hx | exact hx.elim
 | label l=>intro tm h a w _ _ hi _; exact wpIn_label ⟨.nrm,tm,h,.ok _ _ _,rfl,hi⟩
 | goto l=>intro tm h a w _ _ _ hn; exact hn.elim
 | refuse y=>intro tm h a w _ _ _ hn; exact hn.elim
end
end Go.Abs

namespace Go.Abs
noncomputable section
variable {P:Program} {w:World} {a:Act} {e:Env} {h:H} {tm:S3 V}
variable {e0:Env} {h0:H} {w0:World} {N:Nat} {ro:Option Nat} {n:Nat} {rec:Rec}
theorem zkJ(v v':V)(tm tm':S3 V)(h h':H):zdW (.ok (.val v) tm h) (.ok (.val v') tm' h')=ifB (ifB (zdV h) (zcJ v v') false) (.ok (.val v) e3 (zcL h h')) (.or (.ok (.val v) tm h) (.ok (.val v') tm' h')):=rfl
theorem zkK(x y:Out):zdW x y=.or x y\/∃v tm h tm' h',x=.ok (.val v) tm h/\y=.ok (.val v) tm' h'/\zdW x y=.ok (.val v) e3 (zcL h h'):=by
 cases x with
 | fail=>exact .inl rfl
 | or x1 x2=>exact .inl rfl
 | ok ex tm h=>
  cases ex with
  | nrm=>exact .inl rfl
  | exit id=>exact .inl rfl
  | ret=>exact .inl rfl
  | val v=>
   cases y with
   | fail=>exact .inl rfl
   | or y1 y2=>exact .inl rfl
   | ok ex' tm' h'=>
    cases ex' with
    | nrm=>exact .inl rfl
    | exit id=>exact .inl rfl
    | ret=>exact .inl rfl
    | val v'=>
     rw[zkJ]
     cases ht:zdV h with
     | false=>exact .inl (zd4 _ _)
     | true=>
     cases hs:zcJ v v' with
     | false=>exact .inl (zd4 _ _)
     | true=>
      have:=zi5 hs;subst this;exact .inr ⟨v,tm,h,tm',h',rfl,rfl,zd3 _ _⟩
theorem zkL(x y:Out):zdX (.or x y)=zdW (zdX x) (zdX y):=rfl
theorem zkM{x:Out}:zh6 (zdX x)->zh6 x:=by
 induction x with
 | fail=>exact id
 | ok ex tm h=>exact id
 | or x y ihx ihy=>
  intro hn;rw[zkL] at hn
  rcases zkK (zdX x) (zdX y) with h1 | ⟨v,tm,h,tm',h',h1,h2,h3⟩
  ·rw[h1] at hn;exact⟨ihx hn.1,ihy hn.2⟩
  ·refine⟨ihx ?_,ihy ?_⟩
   ·rw[h1]; trivial
   ·rw[h2]; trivial
theorem zkN{x:Out}{v:V}{tm:S3 V}{h:H}(hl:zh5 x (.val v) tm h):∃tm' h',zh5 (zdX x) (.val v) tm' h'/\h.nxt<=h'.nxt/\(∀b o,zaj h'.t b=some o->zaj h.t b=some o)/\∀b q,h'.vw b=some q->h.vw b=some q:=by
 induction x with
 | fail=>cases hl
 | ok ex tm1 h1=>
  obtain⟨rfl,rfl,rfl⟩:=zh7 hl;exact⟨tm,h,zh5.ok _ _ _,Nat.le_refl _,fun _ _ hb=>hb,fun _ _ hb=>hb⟩
 | or x y ihx ihy=>
  rw[zkL]
  rcases zh8 hl with hl | hl
  ·obtain⟨t1,h1,q1,q2,q3⟩:=ihx hl
   rcases zkK (zdX x) (zdX y) with h4 | ⟨v',t2,h2,t3,h3,h4,h5,h6⟩
   ·rw[h4]; exact⟨t1,h1,.l q1,q2,q3⟩
   ·rw[h6];rw[h4] at q1;obtain⟨r1,r2,r3⟩:=zh7 q1
    cases r1; subst r3
    exact⟨_,_,zh5.ok _ _ _,Nat.le_trans q2 zjb.1,fun b o hb=>q3.1 b o (zjb.2 b o hb),fun b q hb=>by cases hb⟩
  ·obtain⟨t1,h1,q1,q2,q3⟩:=ihy hl
   rcases zkK (zdX x) (zdX y) with h4 | ⟨v',t2,h2,t3,h3,h4,h5,h6⟩
   ·rw[h4]; exact⟨t1,h1,.r q1,q2,q3⟩
   ·rw[h6];rw[h5] at q1;obtain⟨r1,r2,r3⟩:=zh7 q1
    cases r1; subst r3
    exact⟨_,_,zh5.ok _ _ _,Nat.le_trans q2 zjc.1,fun b o hb=>q3.1 b o (zjc.2 b o hb),fun b q hb=>by cases hb⟩
def zkO(tmps:Array Value):ResultVar->Sem Value
 | .tmp t=>pure (tmps.getD t undef)
 | .cell a t=>do loadVar t (<- asAddr (tmps.getD a undef))
theorem zkP(fn:Func)(tmps:Array Value):results fn tmps=(do
  let vs <- fn.results.mapM (zkO tmps)
  pure (if h:vs.size=1 then vs[0] else .tuple vs)):=rfl
theorem zkQ{r:ResultVar}{v:V}(hr:HR e h w)(ht:TR e tm a.tmps)(hv:zdQ P h tm r=some v):∃v',(zkO a.tmps r).run P w=.ok v' w/\VR e v v':=by
 cases r with
 | tmp t=>exact⟨_,rfl,ht t v hv⟩
 | cell x t=>
  have h0:zaa (zag tm x) none (fun p=>zaw p none fun b o=>zbf P h t b o)=some v:=hv;obtain⟨p,hp,h1⟩:=zd7 h0;obtain⟨b,off,rfl,h2⟩:=zeP h1;obtain⟨cb,hc,hx⟩:∃cb,e.ρ b=some cb/\a.tmps.getD x undef=.pointer (some ⟨cb,off,none⟩):=ht x _ hp;obtain⟨v',h3,h4⟩:=zft hr h2 hc;refine⟨v',?_,h4⟩
  simp only[zkO,hx]
  simp[asAddr,h3]
theorem zkR{vs:List V}:∀{rs:List ResultVar},HR e h w->TR e tm a.tmps->zeq (fun r v=>zdQ P h tm r=some v) rs vs->∃vs',(rs.mapM (zkO a.tmps)).run P w=.ok vs' w/\zeq (VR e) vs vs':=by
 induction vs with
 | nil=>intro rs hr ht hv; cases hv; exact⟨[],rfl,.nil⟩
 | cons v vs ih=>
  intro rs hr ht hv
  cases hv with
  | cons h1 h2=>
   obtain⟨v',q1,q2⟩:=zkQ hr ht h1;obtain⟨vs',q3,q4⟩:=ih hr ht h2;exact⟨v'::vs',by simp[q1,q3],.cons q2 q4⟩
theorem zkS{vs:List V}{vs':List Value}{v:V}(hv:zeq (VR e) vs vs')(hm:zdR vs=some v):VR e v (if h:vs'.toArray.size=1 then vs'.toArray[0] else .tuple vs'.toArray):=by
 cases hv with
 | nil=>cases hm; exact⟨#[],rfl,.nil⟩
 | cons h1 h2=>
  cases h2 with
  | nil=>cases hm; exact h1
  | cons h3 h4=>
   rename_i x x' y y' r r'
   have hm':zaa (zaE vU (x::y::r)) none (fun us=>some (.tup us))=some v:=hm;obtain⟨us,hus,hv⟩:=zd7 hm'
   cases hv
   have hsz:¬ (x'::y'::r').toArray.size=1:=by simp
   rw[dif_neg hsz];refine⟨_,rfl,?_⟩;have hall:zeq (VR e) (x::y::r) (x'::y'::r'):=.cons h1 (.cons h3 h4);have hmu:=zeC hus
   have:∀{l:List V} {l':List Value} {us:List U},zeq (VR e) l l'->zeq (fun x y=>vU x=some y) l us->zeq (UR e) us l':=by
    intro l l' us ha hb
    induction hb generalizing l' with
    | nil=>cases ha; exact .nil
    | cons q1 _ ih=>
     cases ha with
     | cons p1 p2=>exact .cons (zfI.1 (by rw[<- zfJ q1]; exact p1)) (ih p2)
   simpa using this hall hmu
theorem zkT{fn:Func}{vs:List V}{v:V}(hr:HR e h w)(ht:TR e tm a.tmps)(h1:zaE (zdQ P h tm) fn.results.toList=some vs)(h2:zdR vs=some v) :
  ∃v',(results fn a.tmps).run P w=.ok v' w/\VR e v v':=by
 obtain⟨vs',q1,q2⟩:=zkR hr ht (zeC h1);refine⟨_,?_,zkS q2 h2⟩;rw[zkP,Array.mapM_eq_mapM_toList]
 simp only[Sem.run_bind,Sem.run_map,q1,Result.andThen_ok,Sem.run_pure]
theorem zkU(hst:zeE e0 h0 w0 e h w)(hr:HR e h w){r:Nat}(h1:w0.heap.size<=r)(h2:w.heap[r]? = some (.deferred (some [])))(h3:∀b o,zaj h.t b=some o->e.ρ b ≠ some r) :
  zeE e0 h0 w0 e h (w.putObj r (.deferred none))/\HR e h (w.putObj r (.deferred none)):=by
 refine⟨⟨hst.le,hst.nxt,by simp[World.putObj]; exact hst.size,hst.tape,hst.os,hst.output,fun c hc hn=>?_,hst.org,fun c l hl=>?_,hst.low⟩,⟨hr.fresh,fun b o hb=>?_,hr.inj,by simp[World.putObj]; exact hr.vws.lim,hr.vws.own,fun c cs t fr hc=>?_,hr.vws.view⟩⟩
 ·rw[World.putObj_heap_other (fun(hcc:c=r)=>by omega)]; exact hst.keep c hc hn
 ·have:=(Array.getElem?_eq_some_iff.1 hl).1;rw[World.putObj_heap_other (fun(hcc:c=r)=>by omega)]; exact hst.loops c l hl
 ·obtain⟨cb,q1,co,q2,q3⟩:=hr.live b o hb;exact⟨cb,q1,co,by rw[World.putObj_heap_other (fun(hcc:cb=r)=>h3 b o hb (by rw[<- hcc]; exact q1))]; exact q2,q3⟩
 ·have h4:=hr.vws.kept c cs t fr hc;rw[World.putObj_heap_other (fun(hcc:c=r)=>by rw[hcc,h2] at h4; cases h4)]; exact h4
theorem zkV{r:Nat}(h2:w.heap[r]? = some (.deferred (some []))):(Instr.takeDeferred r).run P w=.ok [] (w.putObj r (.deferred none)):=by
 simp only[Instr.takeDeferred,getObj,setObj,World.putObj]
 simp[Sem.run,h2]
theorem zkW{F:Fence}{fn:Func}{tmps:Array Value}{R:Ending->World->Prop}:∀{ms:List Nat} {w:World},zeE e0 h0 w0 e h w->HR e h w->ms.Nodup ->
  (∀r∈ms,w0.heap.size<=r/\w.heap[r]? = some (.deferred (some []))/\∀b o,zaj h.t b=some o->e.ρ b ≠ some r) ->
  (∀w',zeE e0 h0 w0 e h w'->HR e h w'->∃v,(results fn tmps).run P w'=.ok v w'/\R (.returned v) w')->LeavesInM F n P fn tmps R (ms.map zil) .returning w
 | [],w,hst,hr,_,_,hK=>hK w hst hr
 | r::ms,w,hst,hr,hd,hm,hK=>by
  obtain⟨h1,h2,h3⟩:=hm r (List.mem_cons_self ..);obtain⟨q1,q2⟩:=zkU hst hr h1 h2 h3;rw[List.nodup_cons] at hd;rw[List.map_cons];unfold LeavesInM;refine⟨(fun hc=>by cases hc),Or.inl ⟨r,_,rfl,zkV h2,zkW q1 q2 hd.2 (fun r' hr'=>?_) hK⟩⟩;obtain⟨p1,p2,p3⟩:=hm r' (List.mem_cons_of_mem _ hr');exact⟨p1,by rw[World.putObj_heap_other (fun(hcc:r'=r)=>hd.1 (by rw[<- hcc]; exact hr'))]; exact p2,p3⟩
theorem zkX{args:List V}:∀{i:Nat} {t:S3 V} {k:Nat} {v:V},zag (zdO args i t) k=some v->(∃j,k=i+j/\args[j]? = some v)\/zag t k=some v:=by
 induction args with
 | nil=>intro i t k v hg; exact .inr hg
 | cons x xs ih=>
  intro i t k v hg
  rcases ih (show zag (zdO xs (Nat.succ i) (zah t i x)) k=some v from hg) with ⟨j,rfl,hj⟩ | h1
  ·exact .inl ⟨j+1,by omega,by simpa using hj⟩
  ·rcases zen h1 with ⟨rfl,rfl⟩ | ⟨_,h2⟩
   ·exact .inl ⟨0,rfl,rfl⟩
   ·exact .inr h2
theorem zkY{args:List V}{args':Array Value}(ha:zeq (VR e) args args'.toList)(m:Nat):TR e (zdO args 0 e3) (args'++Array.replicate m undef):=fun t v hg=>by
 rcases zkX hg with ⟨j,hj,h1⟩ | h1
 ·rw[Nat.zero_add] at hj;subst hj;obtain⟨y,h2,h3⟩:=ha.get h1
  have h4:args'[t]? = some y:=by rw[<- Array.getElem?_toList]; exact h2
  have hlt:=(Array.getElem?_eq_some_iff.1 h4).1;rw[Array.getD_eq_getD_getElem?,Array.getElem?_append_left hlt,h4];exact h3
 ·rw[zel] at h1; cases h1
theorem zkZ{ps:List Nat}:∀{args:List V} {args':List Value} {tm tm':S3 V} {tmps:Array Value},zeq (VR e) args args'->TR e tm tmps->(∀p∈ps,p < tmps.size)->zdP ps args tm=some tm' ->
  ps.length=args'.length/\TR e tm' ((ps.zip args').foldl (fun ts x=>ts.setIfInBounds x.1 x.2) tmps)/\((ps.zip args').foldl (fun ts x=>ts.setIfInBounds x.1 x.2) tmps).size=tmps.size:=by
 induction ps with
 | nil=>
  intro args args' tm tm' tmps ha ht _ hs
  cases ha with
  | nil=>cases hs; exact⟨rfl,ht,rfl⟩
  | cons _ _=>cases hs
 | cons p ps ih=>
  intro args args' tm tm' tmps ha ht hp hs
  cases ha with
  | nil=>cases hs
  | cons h1 h2=>
   rename_i x y xs ys
   have hs':zdP ps xs (zah tm p x)=some tm':=hs;have hput:=(TR.put (a:={ tmps:=tmps,defers:=[] }) ht h1 (d:=some p) (fun t ht=>by cases ht; exact hp p (List.mem_cons_self ..)));obtain⟨q1,q2,q3⟩:=ih h2 (tmps:=tmps.setIfInBounds p y) hput.1 (fun t ht=>by simpa using hp t (List.mem_cons_of_mem _ ht)) hs';exact⟨by simp[q1],q2,by rw[List.zip_cons_cons,List.foldl_cons,q3]; simp⟩
end
end Go.Abs

namespace Go.Abs
noncomputable section
variable {P:Program} {w:World} {a:Act} {e:Env} {h:H} {tm:S3 V}
variable {e0:Env} {h0:H} {w0:World} {N:Nat} {ro:Option Nat} {n:Nat} {rec:Rec}
theorem zk0(hP:zgE P)(hs:zir P rec){f:FuncId}{args:List V}{args':Array Value}(hr:HR e h w)(ha:zeq (VR e) args args'.toList)(hn:zh6 (zdZ P rec args h P.funcs[f]?)) :
  (∃ fn, P.funcs[f]? = some fn ∧ fn.body.isNone = false ∧ (fn.name == "runtime.NumGoroutine") = false) ∧ ∀ n, CallsIn Fence.wide n P f args' w (zij e h w (zdZ P rec args h P.funcs[f]?)) := by
 obtain⟨fn,hf,hn1⟩:=zib (show zh6 (orF P.funcs[f]? _) from hn)
 have heq:zdZ P rec args h P.funcs[f]? = orF fn.body fun c=>ifB (zdY fn) (ifB (Nat.ble (zaI args) fn.ntmps) (zdX (bind (zdN P rec c (zdO args 0 e3) h) (zdT P fn))) .fail) .fail:=by rw[hf]; rfl
 obtain⟨c,hb,hn2⟩:=zib hn1;rw[hb,zic] at heq
 cases hok:zdY fn with
 | false=>rw[hok] at hn2; exact hn2.elim
 | true=>
  rw[hok,zd3] at hn2 heq
  cases hle:Nat.ble (zaI args) fn.ntmps with
  | false=>rw[hle] at hn2; exact hn2.elim
  | true=>
   rw[hle,zd3] at hn2 heq;rw[heq];unfold zdY at hok;rw[hb] at hok
   have hok' : (slotsOk fn.ntmps c && fn.name != "runtime.NumGoroutine") = true := hok
   rw[Bool.and_eq_true] at hok'
   have hnm : (fn.name == "runtime.NumGoroutine") = false := by
    have:=hok'.2;rw[bne,Bool.not_eq_true'] at this;exact this
   refine⟨⟨fn,hf,by rw[hb]; rfl,hnm⟩,fun n=>?_⟩;obtain⟨m1,m2⟩:=zia (zkM hn2)
   have hlen:args'.size<=fn.ntmps:=by
    have h1:=Nat.le_of_ble_eq_true hle;rw[zet,ha.length,Array.length_toList] at h1;exact h1
   have hinv:Inv e h w fn.ntmps (zdO args 0 e3) h { tmps:=args'++Array.replicate (fn.ntmps - args'.size) undef,defers:=[] } w:=by
    refine .mk' (.refl e h w) hr (zkY ha _) ⟨[],rfl,.nil,fun r hr=>by cases hr⟩ ?_
    simp only[Array.size_append,Array.size_replicate]
    omega
   refine callsIn_of_wp_marks (F:=Fence.wide) hf hb trivial (wpIn_mono (zkI (ro:=none) (n:=n) hP hs c hok'.1 (fun l hl=>by cases hl) hinv m1) fun x a' w' hq=>?_);obtain⟨ex,tm',h',q1,q2,q3⟩:=hq;have hnk:=m2 _ _ _ q1;obtain⟨e',hst,hr',ht,hm,_⟩:=q3.out
   have hfin:∀(hret:zh6 (zdS P fn tm' h')) (hl:∀ex tm2 h2,zh5 (zdS P fn tm' h') ex tm2 h2->zh5 (bind (zdN P rec c (zdO args 0 e3) h) (zdT P fn)) ex tm2 h2),
     LeavesInM Fence.wide n P fn a'.tmps (zij e h w (zdX (bind (zdN P rec c (zdO args 0 e3) h) (zdT P fn)))) a'.defers .returning w':=by
    intro hret hl;obtain⟨vs,hvs,hret1⟩:=zib (show zh6 (orF (zaE (zdQ P h' tm') fn.results.toList) fun vs=>orF (zdR vs) fun v=>.ok (.val v) e3 h') from hret);obtain⟨v,hv,_⟩:=zib hret1
    have hreq:zdS P fn tm' h'=.ok (.val v) e3 h':=by
     show orF (zaE (zdQ P h' tm') fn.results.toList) (fun vs=>orF (zdR vs) fun v=>.ok (.val v) e3 h')=_
     rw[hvs,zic,hv,zic]
    rw[hreq] at hl;obtain⟨tm2,h2,r1,r2,r3⟩:=zkN (hl _ _ _ (zh5.ok _ _ _));obtain⟨ms,hms,hnd,hma⟩:=hm;rw[hms];refine zkW hst hr' hnd hma fun w2 p1 p2=>?_;obtain⟨v',s1,s2⟩:=zkT (P:=P) p2 ht hvs hv;obtain⟨t1,t2⟩:=p2.less r2 r3.1 r3.2;exact⟨v',s1,v,v',tm2,e',h2,rfl,r1,p1.trans t2,t1,s2⟩
   cases ex with
   | nrm=>
    have hxn:x=.normal:=q2;subst hxn;exact hfin hnk (fun ex tm2 h2 hl=>zh9 q1 hl)
   | exit id=>exact hnk.elim
   | ret=>
    have hxn:x=.ret:=q2;subst hxn;exact hfin hnk (fun ex tm2 h2 hl=>zh9 q1 hl)
   | val v=>exact q2.elim
theorem zk1(l:Nat):zii (some l)=Fence.wide.inRound l:=rfl
theorem zk2{F:Fence}{c:Code}{Q Q':Exit->Act->World->Prop}(hh:zin F n P c Q a w)(hq:∀x a w,Q x a w->Q' x a w):zin F n P c Q' a w:=by
 intro b k cs b1 b2 b3;obtain⟨e2,a2,w2,hq2,harr⟩:=hh b k cs b1 b2 b3;exact⟨e2,a2,w2,hq _ _ _ hq2,harr⟩
theorem zk3{r:Loop}(hk:zeD r)(st:LoopState)(pend:Option Code)(hp:∀c,pend=some c->c=.ret\/∃id,c=.exit id):zeD { r with state:=st,pending:=pend }:=⟨hk.1,hk.2.1,hk.2.2.1,hp⟩
theorem zk4{c:Nat}{r:Loop}(hc:w.heap[c]? = some (.loop r)){args:Array Value}(hz:args.size=r.params.size):(Instr.yield c args).run P w=.ok (.round c r.fn ((r.params.zip args).foldl (fun tmps (t,a)=>tmps.setIfInBounds t a) r.tmps) r.assign r.body) w:=by
 simp[Instr.yield,zkD hc,hz]
theorem zk5{c:Nat}{r:Loop}(hc:w.heap[c]? = some (.loop r))(hs:r.state=.ready):(Instr.beginRound c).run P w=.ok () (w.putObj c (.loop { r with state:=.busy })):=by
 simp[Instr.beginRound,zkD hc,zkE hc,hs]
theorem zk6{c:Nat}{r:Loop}(hc:w.heap[c]? = some (.loop r))(j:Option Code):(Instr.endRound c j).run P w=.ok (.bool j.isNone) (w.putObj c (.loop { r with state:=if j.isNone then .ready else .done,pending:=j })):=by
 simp[Instr.endRound,zkD hc,zkE hc]
theorem HR.setLoop(hr:HR e h w){b:Nat}{o0:AO}{c:Nat}(hb:zaj h.t b=some o0)(hc:e.ρ b=some c){r:Loop}(hk:zeD r){st:LoopState}{pend:Option Code}{fn:FuncId}{tml:S3 V}{ps:List Nat}{asn bd:Code}
  (ht:TR e tml r.tmps) (h1:r.params.toList=ps) (h2:r.assign=asn) (h3:r.body=bd) (hp:∀c,pend=some c->c=.ret\/∃id,c=.exit id) :
  HR e (za0 h b (.loop st pend fn tml ps asn bd)) (w.putObj c (.loop { r with state:=st,pending:=pend }))/\zeE e h w e (za0 h b (.loop st pend fn tml ps asn bd)) (w.putObj c (.loop { r with state:=st,pending:=pend })):=
 hr.upd hb hc ⟨{ r with state:=st,pending:=pend },rfl,zk3 hk st pend hp,rfl,rfl,ht,h1,h2,h3⟩ (fun _ _=>⟨_,rfl⟩)
theorem zk7(hP:zgE P)(hs:zir P rec){l:Nat}{args:List V}{cl:Nat}{args':Array Value}(hcl:e.ρ l=some cl)(hr:HR e h w)(ha:zeq (VR e) args args'.toList)(hn:zh6 (zd2 P rec l args h)) :
  ∃fn tmps assign body,(Instr.yield cl args').run P w=.ok (.round cl fn tmps assign body) w/\∀n,RoundIn Fence.wide n P cl fn tmps assign body w (zij e h w (zd2 P rec l args h)):=by
 obtain⟨st,pend,fn1,tml,ps,asn,bd,hg,heq⟩:=zkF (show zh6 (za5 h l .fail _) from hn);have heq1:zd2 P rec l args h=LoopState.rec (motive:=fun _=>Out) (orF (zdP ps args tml) fun tm'=>bind (zdN P rec asn tm' h) (zd1 P rec l bd)) .fail .fail .fail st:=heq;obtain⟨r,hw,hk,hst,hpe,htl,hps,has,hbd⟩:=hr.loop hg hcl;rw[heq1] at hn ⊢
 cases st with
 | busy=>exact hn.elim
 | done=>exact hn.elim
 | exhausted=>exact hn.elim
 | ready=>
  have hn1:zh6 (orF (zdP ps args tml) fun tm'=>bind (zdN P rec asn tm' h) (zd1 P rec l bd)):=hn;obtain⟨tm1,hset,hn2⟩:=zib hn1
  show ∃fn tmps assign body,_/\∀n,RoundIn Fence.wide n P cl fn tmps assign body w (zij e h w (orF (zdP ps args tml) fun tm'=>bind (zdN P rec asn tm' h) (zd1 P rec l bd)))
  rw[hset,zic];obtain⟨m1,m2⟩:=zia hn2;obtain⟨k1,k2,k3⟩:=zkZ ha htl (fun p hp=>hk.2.2.1 p (by rw[hps]; exact hp)) hset
  have hz:args'.size=r.params.size:=by
   rw[<- Array.length_toList,<- Array.length_toList,<- k1,hps]
  have hfold:(r.params.zip args').foldl (fun tmps (t,a)=>tmps.setIfInBounds t a) r.tmps=(ps.zip args'.toList).foldl (fun ts x=>ts.setIfInBounds x.1 x.2) r.tmps:=by
   rw[<- Array.foldl_toList,Array.toList_zip,hps]
  refine⟨_,_,_,_,zk4 hw hz,fun n=>?_⟩;rw[hfold];generalize (ps.zip args'.toList).foldl (fun ts x=>ts.setIfInBounds x.1 x.2) r.tmps=tmps0 at k2 k3;have hinv:Inv e h w r.tmps.size tm1 h { tmps:=tmps0,defers:=[] } w:=.mk' (.refl e h w) hr k2 ⟨[],rfl,.nil,fun r hr=>by cases hr⟩ k3
  have hro:zik (some cl) w:=fun l' hl'=>by cases hl'; exact⟨r,hw⟩
  refine roundIn_of_wpIn trivial ?_;rw[<- zk1];have hw1:=zkI (ro:=some cl) (n:=n) hP hs asn (by rw[<- has]; exact hk.1) hro hinv m1;rw[has];refine wpIn_mono hw1 fun x a1 w1 hq=>?_;obtain⟨ex,tm2,h2,q1,q2,q3⟩:=hq;have hnk:=m2 _ _ _ q1
  cases ex with
  | exit id=>exact hnk.elim
  | ret=>exact hnk.elim
  | val v=>exact q2.elim
  | nrm=>
   have hxn:x=.normal:=q2;subst hxn;obtain⟨st2,pend2,fn2,tml2,ps2,as2,bd2,hg2,heq2⟩:=zkF (show zh6 (za5 h2 l .fail _) from hnk);have heq3:zd1 P rec l bd .nrm tm2 h2=LoopState.rec (motive:=fun _=>Out) (bind (zdN P rec bd tm2 (za0 h2 l (.loop .busy pend2 fn2 tml2 ps2 as2 bd2))) (zd0 l)) .fail .fail .fail st2:=heq2;obtain⟨e1,hst1,hr1,ht1,hm1,hN1⟩:=q3.out;have hcl1:e1.ρ l=some cl:=hst1.le.ρ _ _ hcl;obtain⟨r1,hw1,hk1,hs1,hp1,htl1,hps1,has1,hbd1⟩:=hr1.loop hg2 hcl1;rw[heq3] at hnk
   cases st2 with
   | busy=>exact hnk.elim
   | done=>exact hnk.elim
   | exhausted=>exact hnk.elim
   | ready=>
    refine⟨_,zk5 hw1 hs1,?_⟩;obtain⟨b1,b2⟩:=hr1.setLoop (st:=.busy) (pend:=pend2) (fn:=fn2) hg2 hcl1 hk1 htl1 hps1 has1 hbd1 (fun c hc=>hk1.2.2.2 c (by rw[hp1]; exact hc))
    have hsame:({ r1 with state:=.busy,pending:=pend2 }:Loop)={ r1 with state:=.busy }:=by rw[<- hp1]
    rw[hsame] at b1 b2;obtain⟨c1,c2⟩:=zia (show zh6 (bind (zdN P rec bd tm2 (za0 h2 l (.loop .busy pend2 fn2 tml2 ps2 as2 bd2))) (zd0 l)) from hnk)
    have hinv2:Inv e h w r.tmps.size tm2 (za0 h2 l (.loop .busy pend2 fn2 tml2 ps2 as2 bd2)) a1 (w1.putObj cl (.loop { r1 with state:=.busy })):=.mk' (hst1.trans b2) b1 ht1 (hm1.step b2) hN1
    rw[hbd];have hlf:∀{ex tm3 h3},zh5 (bind (zdN P rec bd tm2 (za0 h2 l (.loop .busy pend2 fn2 tml2 ps2 as2 bd2))) (zd0 l)) ex tm3 h3->zh5 (bind (zdN P rec asn tm1 h) (zd1 P rec l bd)) ex tm3 h3:=fun hl=>zh9 q1 (by rw[heq3]; exact hl);refine wpIn_mono (zkI (ro:=some cl) (n:=n) hP hs bd (by rw[<- hbd]; exact hk.2.1) hro hinv2 c1) fun x3 a3 w3 hq3=>?_;obtain⟨ex3,tm3,h3,s1,s2,s3⟩:=hq3;have hnk3:=c2 _ _ _ s1;obtain⟨st4,pend4,fn4,tml4,ps4,as4,bd4,hg4,heq4⟩:=zkF (show zh6 (za5 h3 l .fail _) from hnk3);obtain⟨e3',hst3,hr3,ht3,hm3,hN3⟩:=s3.out;have hcl3:e3'.ρ l=some cl:=hst3.le.ρ _ _ hcl;obtain⟨r3,hw3,hk3,hs3,hp3,htl3,hps3,has3,hbd3⟩:=hr3.loop hg4 hcl3
    cases ex3 with
    | val v=>exact s2.elim
    | nrm=>
     have hxn:x3=.normal:=s2;subst hxn;have heq5:zd0 l .nrm tm3 h3=.ok (.val (.c (.bool true))) e3 (za0 h3 l (.loop .ready none fn4 tml4 ps4 as4 bd4)):=heq4;obtain⟨d1,d2⟩:=hr3.setLoop (st:=.ready) (pend:=none) (fn:=fn4) hg4 hcl3 hk3 htl3 hps3 has3 hbd3 (fun c hc=>by cases hc);refine⟨_,_,zk6 hw3 none,.c (.bool true),_,e3,e3',_,rfl,hlf (zh9 s1 (by rw[heq5]; exact zh5.ok _ _ _)),hst3.trans d2,d1,rfl⟩
    | exit id=>
     have hxn:x3=.exit id:=s2;subst hxn;have heq5:zd0 l (.exit id) tm3 h3=.ok (.val (.c (.bool false))) e3 (za0 h3 l (.loop .done (some (.exit id)) fn4 tml4 ps4 as4 bd4)):=heq4;obtain⟨d1,d2⟩:=hr3.setLoop (st:=.done) (pend:=some (.exit id)) (fn:=fn4) hg4 hcl3 hk3 htl3 hps3 has3 hbd3 (fun c hc=>by cases hc; exact .inr ⟨id,rfl⟩);refine⟨_,_,zk6 hw3 (some (.exit id)),.c (.bool false),_,e3,e3',_,rfl,hlf (zh9 s1 (by rw[heq5]; exact zh5.ok _ _ _)),hst3.trans d2,d1,rfl⟩
    | ret=>
     have hxn:x3=.ret:=s2;subst hxn;have heq5:zd0 l .ret tm3 h3=.ok (.val (.c (.bool false))) e3 (za0 h3 l (.loop .done (some .ret) fn4 tml4 ps4 as4 bd4)):=heq4;obtain⟨d1,d2⟩:=hr3.setLoop (st:=.done) (pend:=some .ret) (fn:=fn4) hg4 hcl3 hk3 htl3 hps3 has3 hbd3 (fun c hc=>by cases hc; exact .inl rfl);refine⟨_,_,zk6 hw3 (some .ret),.c (.bool false),_,e3,e3',_,rfl,hlf (zh9 s1 (by rw[heq5]; exact zh5.ok _ _ _)),hst3.trans d2,d1,rfl⟩
theorem zk8(hP:zgE P)(hs:zir P rec):zir P (step P rec) where
 call:=fun f args tm h e w args' hr ha hn=>zk0 hP hs hr ha hn
 yield:=fun l args tm h e w cl args' hcl hr ha hn=>zk7 hP hs hcl hr ha hn
 jump:=fun c tm h e0 h0 w0 N ro a w n hro hso hi hn=>zkI hP hs c hso hro hi hn
 loop:=fun c tm h e0 h0 w0 N ro a w n hro hso hi hn=>by
  obtain⟨n1,n2⟩:=zia (show zh6 (bind (zdN P rec c (zdI h c tm tm) h) (zdJ rec c (zdI h c tm tm))) from hn);refine zio (wpIn_mono (zkI hP hs c hso hro (hi.sub fun _ _=>zej) n1) fun ex a' w' hq=>?_);obtain⟨exx,tm',h',q1,q2,q3⟩:=hq;have hnk:=n2 _ _ _ q1
  cases exx with
  | nrm=>
   have hxn:ex=.normal:=q2;subst hxn;refine zk2 (hs.loop c (zdI h' c (zdI h c tm tm) tm') h' e0 h0 w0 N ro a' w' n hro hso (q3.sub fun _ _=>zej) hnk) fun x a2 w2 hq2=>?_;obtain⟨ex2,tm2,h2,r1,r2,r3⟩:=hq2;exact⟨ex2,tm2,h2,zh9 q1 r1,r2,r3⟩
  | exit id=>have hxn:ex=.exit id:=q2; subst hxn; exact⟨.exit id,tm',h',zh9 q1 (.ok _ _ _),rfl,q3⟩
  | ret=>have hxn:ex=.ret:=q2; subst hxn; exact⟨.ret,tm',h',zh9 q1 (.ok _ _ _),rfl,q3⟩
  | val v=>exact q2.elim
theorem zk9(hP:zgE P):∀k,zir P (ev P k)
 | 0=>⟨fun _ _ _ _ _ _ _ _ _ hn=>hn.elim,fun _ _ _ _ _ _ _ _ _ _ _ hn=>hn.elim,fun _ _ _ _ _ _ _ _ _ _ _ _ _ _ hn=>hn.elim,fun _ _ _ _ _ _ _ _ _ _ _ _ _ _ hn=>hn.elim⟩
 | k+1=>zk8 hP (zk9 hP k)
end
end Go.Abs

namespace Go.Abs
noncomputable section
variable {P:Program} {w:World} {a:Act} {e:Env} {h:H} {tm:S3 V}
variable {e0:Env} {h0:H} {w0:World} {N:Nat} {ro:Option Nat} {n:Nat} {rec:Rec}
def zla(l:List (Nat × V)):S3 V:=List.rec (motive:=fun _=>S3 V) e3 (fun x _ ih=>zah ih x.1 x.2) l
def zlb(l:List (Nat × AO)):S5 AO:=List.rec (motive:=fun _=>S5 AO) e5 (fun x _ ih=>zam ih x.1 x.2) l
def zlc(n:Nat)(l:List (Nat × AO)):H:={ nxt:=n,t:=zlb l,vw:=fun _=>none }
def zld(L:List (Nat × V))(m:Nat)(M:List (Nat × AO))(o:Out):Bool:=
 Out.rec (motive:=fun _=>Bool) false (fun ex tm h=>exB ex
   (ifB (zaL (fun x=>zaa (zag tm x.1) false (zcJ x.2)) L) (ifB (zaL (fun x=>zaa (zaj h.t x.1) false (zcK x.2)) M) (Nat.ble h.nxt m) false) false)
   (fun _=>false) false (fun _=>false))
  (fun _ _ a b=>ifB a b false) o
def zle(v:V)(o:Out):Bool:=Out.rec (motive:=fun _=>Bool) false (fun ex _ _=>exB ex false (fun _=>false) false (zcJ v)) (fun _ _ a b=>ifB a b false) o
theorem zlf:∀{l:List (Nat × V)} {k:Nat} {v:V},zag (zla l) k=some v->(k,v)∈l
 | [],k,v,hh=>by rw[show zla []=e3 from rfl,zel] at hh; cases hh
 | x::xs,k,v,hh=>by
  rcases zen (show zag (zah (zla xs) x.1 x.2) k=some v from hh) with ⟨rfl,rfl⟩ | ⟨_,h2⟩
  ·exact List.mem_cons_self ..
  ·exact List.mem_cons_of_mem _ (zlf h2)
theorem zlg:∀{l:List (Nat × AO)} {k:Nat} {v:AO},zaj (zlb l) k=some v->(k,v)∈l
 | [],k,v,hh=>by rw[show zlb []=e5 from rfl,zem] at hh; cases hh
 | x::xs,k,v,hh=>by
  rcases zeo (show zaj (zam (zlb xs) x.1 x.2) k=some v from hh) with ⟨rfl,rfl⟩ | ⟨_,h2⟩
  ·exact List.mem_cons_self ..
  ·exact List.mem_cons_of_mem _ (zlg h2)
theorem zlh{α:Type}{o:Option α}{s:α->Bool}(hh:zaa o false s=true):∃x,o=some x/\s x=true:=by
 cases o with
 | none=>cases hh
 | some x=>exact⟨x,rfl,hh⟩
theorem zli{L:List (Nat × V)}{m:Nat}{M:List (Nat × AO)}{o:Out}(hc:zld L m M o=true):zh6 o/\∀ex tm h,zh5 o ex tm h ->
  ex=.nrm/\(∀k v,zag (zla L) k=some v->zag tm k=some v)/\h.nxt<=m/\∀b x,zaj (zlb M) b=some x->zaj h.t b=some x:=by
 induction o with
 | fail=>cases hc
 | ok ex tm h=>
  refine⟨trivial,fun ex' tm' h' hl=>?_⟩;obtain⟨rfl,rfl,rfl⟩:=zh7 hl
  cases ex' with
  | exit id=>cases hc
  | ret=>cases hc
  | val v=>cases hc
  | nrm=>
   obtain⟨h1,h2⟩:=ziW (show ifB (zaL (fun x=>zaa (zag tm' x.1) false (zcJ x.2)) L) (ifB (zaL (fun x=>zaa (zaj h'.t x.1) false (zcK x.2)) M) (Nat.ble h'.nxt m) false) false=true from hc);obtain⟨h3,h4⟩:=ziW h2;refine⟨rfl,fun k v hk=>?_,Nat.le_of_ble_eq_true h4,fun b x hb=>?_⟩
   ·obtain⟨y,q1,q2⟩:=zlh (zjy h1 _ (zlf hk));have hy:v=y:=zi5 q2;rw[hy]; exact q1
   ·obtain⟨y,q1,q2⟩:=zlh (zjy h3 _ (zlg hb));have hy:x=y:=zi6 q2;rw[hy]; exact q1
 | or x y ihx ihy=>
  obtain⟨h1,h2⟩:=ziW (show ifB (zld L m M x) (zld L m M y) false=true from hc);obtain⟨p1,p2⟩:=ihx h1;obtain⟨q1,q2⟩:=ihy h2;exact⟨⟨p1,q1⟩,fun ex tm h hl=>(zh8 hl).elim (p2 ex tm h) (q2 ex tm h)⟩
theorem zlj{v:V}{o:Out}(hc:zle v o=true):zh6 o/\∀ex tm h,zh5 o ex tm h->ex=.val v:=by
 induction o with
 | fail=>cases hc
 | ok ex tm h=>
  refine⟨trivial,fun ex' tm' h' hl=>?_⟩;obtain⟨rfl,rfl,rfl⟩:=zh7 hl
  cases ex' with
  | exit id=>cases hc
  | ret=>cases hc
  | nrm=>cases hc
  | val v'=>rw[zi5 (show zcJ v v'=true from hc)]
 | or x y ihx ihy=>
  obtain⟨h1,h2⟩:=ziW (show ifB (zle v x) (zle v y) false=true from hc);obtain⟨p1,p2⟩:=ihx h1;obtain⟨q1,q2⟩:=ihy h2;exact⟨⟨p1,q1⟩,fun ex tm h hl=>(zh8 hl).elim (p2 ex tm h) (q2 ex tm h)⟩
theorem Inv.less(hi:Inv e0 h0 w0 N tm h a w){tm':S3 V}{h':H}(ht:∀k v,zag tm' k=some v->zag tm k=some v)(hn:h.nxt<=h'.nxt)(hh:∀b o,zaj h'.t b=some o->zaj h.t b=some o)(hq:∀b q,h'.vw b=some q->h.vw b=some q):Inv e0 h0 w0 N tm' h' a w:=by
 obtain⟨e,hst,hr,htr,hm,hN⟩:=hi.out;obtain⟨q1,q2⟩:=hr.less hn hh hq;exact .mk' (hst.trans q2) q1 (fun t v hv=>htr t v (ht t v hv)) (hm.step q2) hN
def zlk(e0:Env)(h0:H)(w0:World)(v:V):Ending->World->Prop:=fun en w'=>∃v' e' h',en=.returned v'/\zeE e0 h0 w0 e' h' w'/\HR e' h' w'/\VR e' v v'
def zll(P:Program)(fn:Func)(v:V)(c:Code)(tm:S3 V)(h:H):Prop:=
 ∀e0 h0 w0 n a w,Inv e0 h0 w0 fn.ntmps tm h a w->c.wpIn Fence.wide n P (bodyPostM Fence.wide n P fn (zlk e0 h0 w0 v)) a w
theorem zlm(hP:zgE P)(hs:zir P rec){fn:Func}{v:V}{c:Code}(hso:slotsOk fn.ntmps c=true)(hc:zle v (bind (zdN P rec c tm h) (zdT P fn))=true):zll P fn v c tm h:=by
 intro e0 h0 w0 n a w hi;obtain⟨hn,hlf⟩:=zlj hc;obtain⟨m1,m2⟩:=zia hn;refine wpIn_mono (zkI (ro:=none) (n:=n) hP hs c hso (fun l hl=>by cases hl) hi m1) fun x a' w' hq=>?_;obtain⟨ex,tm',h',q1,q2,q3⟩:=hq;have hnk:=m2 _ _ _ q1;obtain⟨e',hst,hr',ht,hm,_⟩:=q3.out
 have hfin:∀(hret:zh6 (zdS P fn tm' h')) (hl:∀ex tm2 h2,zh5 (zdS P fn tm' h') ex tm2 h2->zh5 (bind (zdN P rec c tm h) (zdT P fn)) ex tm2 h2),
   LeavesInM Fence.wide n P fn a'.tmps (zlk e0 h0 w0 v) a'.defers .returning w':=by
  intro hret hl;obtain⟨vs,hvs,hret1⟩:=zib (show zh6 (orF (zaE (zdQ P h' tm') fn.results.toList) fun vs=>orF (zdR vs) fun v=>.ok (.val v) e3 h') from hret);obtain⟨v1,hv,_⟩:=zib hret1
  have hreq:zdS P fn tm' h'=.ok (.val v1) e3 h':=by
   show orF (zaE (zdQ P h' tm') fn.results.toList) (fun vs=>orF (zdR vs) fun v=>.ok (.val v) e3 h')=_
   rw[hvs,zic,hv,zic]
  rw[hreq] at hl;have hv1:=hlf _ _ _ (hl _ _ _ (zh5.ok _ _ _))
  cases hv1
  obtain⟨ms,hms,hnd,hma⟩:=hm;rw[hms];refine zkW hst hr' hnd hma fun w2 p1 p2=>?_;obtain⟨v',s1,s2⟩:=zkT (P:=P) p2 ht hvs hv;exact⟨v',s1,v',e',h',rfl,p1,p2,s2⟩
 cases ex with
 | nrm=>
  have hxn:x=.normal:=q2;subst hxn;exact hfin hnk (fun ex tm2 h2 hl=>zh9 q1 hl)
 | exit id=>exact hnk.elim
 | ret=>
  have hxn:x=.ret:=q2;subst hxn;exact hfin hnk (fun ex tm2 h2 hl=>zh9 q1 hl)
 | val v=>exact q2.elim
def zln(c:Code):Bool:=match c with | .seq _ _=>true | _=>false
def zlo(c:Code):Code:=match c with | .seq x _=>x | _=>.skip
def zlp(c:Code):Code:=match c with | .seq _ y=>y | _=>.skip
theorem zlq{c:Code}(hh:zln c=true):c=.seq (zlo c) (zlp c):=by
 cases c with
 | seq x y=>rfl
 | _=>cases hh
theorem zlr(hP:zgE P)(hs:zir P rec){fn:Func}{v:V}{c:Code}(hq:zln c=true)(hso:slotsOk fn.ntmps c=true){L:List (Nat × V)}{m:Nat}{M:List (Nat × AO)}
  (hc:zld L m M (zdN P rec (zlo c) tm h)=true) (hg:slotsOk fn.ntmps (zlp c)=true->zll P fn v (zlp c) (zla L) (zlc m M)):zll P fn v c tm h:=by
 intro e0 h0 w0 n a w hi;rw[zlq hq] at hso ⊢;unfold slotsOk at hso;rw[Bool.and_eq_true] at hso;obtain⟨hn,hlf⟩:=zli hc;refine wpIn_seq (wpIn_mono (zkI (ro:=none) (n:=n) hP hs (zlo c) hso.1 (fun l hl=>by cases hl) hi hn) fun x a' w' hq=>?_);obtain⟨ex,tm',h',q1,q2,q3⟩:=hq;obtain⟨rfl,p1,p2,p3⟩:=hlf _ _ _ q1;have hxn:x=.normal:=q2;subst hxn;exact hg hso.2 e0 h0 w0 n a' w' (q3.less p1 p2 p3 fun b q hb=>by cases hb)
def zls:Env:={ ρ:=fun _=>none,sz:=fun _=>0,es:=fun _=>0,base:=#[] }
def zlt(P:Program)(f:FuncId):Func:=zaa P.funcs[f]? default fun fn=>fn
def zlu(P:Program)(f:FuncId):Code:=zaa (zlt P f).body .skip fun c=>c
def zlv (P : Program) (f : FuncId) : Bool := zaa P.funcs[f]? false fun fn => zaa fn.body false fun c => slotsOk fn.ntmps c && fn.name != "runtime.NumGoroutine"
theorem zlw {f : FuncId} (hh : zlv P f = true) : P.funcs[f]? = some (zlt P f) ∧ (zlt P f).body = some (zlu P f) ∧ slotsOk (zlt P f).ntmps (zlu P f) = true ∧ ((zlt P f).name == "runtime.NumGoroutine") = false := by
 obtain⟨fn,hf,h1⟩:=zlh hh;obtain⟨c,hb,h2⟩:=zlh h1
 have hfn:zlt P f=fn:=by unfold zlt; rw[hf]; rfl
 have hbd:zlu P f=c:=by unfold zlu; rw[hfn,hb]; rfl
 rw[hbd,hfn];rw[Bool.and_eq_true] at h2;refine⟨hf,hb,h2.1,?_⟩;have:=h2.2;rw[bne,Bool.not_eq_true'] at this;exact this
def zlx(P:Program)(f:FuncId)(b:Bool):Prop:=∀w n,CallsIn Fence.wide n P f #[] w fun en w'=>en=.returned (.bool b)/\∃e' h',zeE zls (zlc 0 []) w e' h' w'
theorem zly{n b:Nat}{o:AO}(hb:zaj (zlc n []).t b=some o):False:=by
 have h1:zaj (zlb []) b=some o:=hb
 cases zlg h1
theorem HR.empty(w:World)(n:Nat):HR zls (zlc n []) w:=⟨fun _ _=>rfl,fun _ _ hb=>(zly hb).elim,fun _ _ _ _ _ hb=>(zly hb).elim,Nat.zero_le _,fun _ _ _ hb=>(zly hb).elim,fun c cs t fr hc=>by simp[zls] at hc,fun _ _ hb=>by cases hb⟩
theorem zlz{f:FuncId}{b:Bool}(hk:zlv P f=true)(hg:zll P (zlt P f) (.c (.bool b)) (zlu P f) e3 (zlc 0 [])):zlx P f b:=by
 intro w n;obtain⟨h1,h2,h3,h4⟩:=zlw hk
 have hinv:Inv zls (zlc 0 []) w (zlt P f).ntmps e3 (zlc 0 []) { tmps:=#[]++Array.replicate ((zlt P f).ntmps - (#[]:Array Value).size) undef,defers:=[] } w:=by
  refine .mk' (.refl _ _ w) (HR.empty w 0) (fun t v hv=>by rw[zel] at hv; cases hv) ⟨[],rfl,.nil,fun r hr=>by cases hr⟩ ?_
  simp
 refine CallsIn.mono (callsIn_of_wp_marks (F:=Fence.wide) h1 h2 trivial (hg _ _ _ n _ w hinv)) fun en w' hp=>?_;obtain⟨v',e',h',rfl,q1,q2,q3⟩:=hp;exact⟨by rw[show v'=.bool b from q3],e',h',q1⟩
def zlA(T:List (Nat × Bool))(f:Nat):Option Bool:=List.rec (motive:=fun _=>Option Bool) none (fun x _ ih=>ifB (Nat.beq x.1 f) (some x.2) ih) T
def tab(T:List (Nat × Bool))(rec:Rec):Rec:=fun t=>zcM.rec (motive:=fun _=>Run) (fun c=>rec (.loop c))
 (fun f args=>zab args (zaa (zlA T f) (rec (.call f [])) fun b _ h=>.ok (.val (.c (.bool b))) e3 h) fun x xs=>rec (.call f (x::xs))) (fun l args=>rec (.yield l args)) (fun c=>rec (.jump c)) t
def zlB(P:Program)(T:List (Nat × Bool)):Prop:=∀x∈T,zlv P x.1=true/\zlx P x.1 x.2
theorem zlC:∀{T:List (Nat × Bool)} {f:Nat} {b:Bool},zlA T f=some b->(f,b)∈T
 | [],_,_,hh=>by cases hh
 | x::xs,f,b,hh=>by
  have h0:ifB (Nat.beq x.1 f) (some x.2) (zlA xs f)=some b:=hh
  cases hb:Nat.beq x.1 f with
  | true=>
   rw[hb] at h0;have h1:some x.2=some b:=h0
   cases h1
   rw[<- zgw.1 hb];exact List.mem_cons_self ..
  | false=>
   rw[hb] at h0;exact List.mem_cons_of_mem _ (zlC h0)
theorem zeE.over{e':Env}{h':H}{w':World}(hs:zeE zls (zlc 0 []) w e' h' w')(hr:HR e h w):zeE e h w e h w'/\HR e h w':=by
 have hk:∀c,c < w.heap.size->w'.heap[c]? = w.heap[c]?:=fun c hc=>hs.keep c hc fun _ _ hb=>(zly hb).elim;refine⟨⟨.refl e,Nat.le_refl _,hs.size,hs.tape,hs.os,hs.output,fun c hc _=>hk c hc,fun b o _ hb hc=>.inr ⟨b,o,hb,hc⟩,hs.loops,fun _ _=>rfl⟩,⟨hr.fresh,fun b o hb=>?_,hr.inj,hr.vws.to (.refl e) hs.size (fun c hc=>hk c (Nat.lt_of_lt_of_le hc hr.vws.lim)) hr.vws.own fun _ _ h=>h⟩⟩;obtain⟨cb,h1,co,h2,h3⟩:=hr.live b o hb;exact⟨cb,h1,co,by rw[hk cb (Array.getElem?_eq_some_iff.1 h2).1]; exact h2,h3⟩
theorem zlD{T:List (Nat × Bool)}(ht:zlB P T)(hs:zir P rec):zir P (tab T rec) where
 yield:=fun l args tm h e w cl args' hcl hr ha hn=>hs.yield l args tm h e w cl args' hcl hr ha hn
 jump:=fun c tm h e0 h0 w0 N ro a w n hro hso hi hn=>hs.jump c tm h e0 h0 w0 N ro a w n hro hso hi hn
 loop:=fun c tm h e0 h0 w0 N ro a w n hro hso hi hn=>hs.loop c tm h e0 h0 w0 N ro a w n hro hso hi hn
 call:=fun f args tm h e w args' hr ha hn=>by
  cases args with
  | cons x xs=>exact hs.call f (x::xs) tm h e w args' hr ha hn
  | nil=>
   cases hT:zlA T f with
   | none=>
    have heq:tab T rec (.call f []) tm h=rec (.call f []) tm h:=by
     show zaa (zlA T f) (rec (.call f [])) (fun b _ h=>.ok (.val (.c (.bool b))) e3 h) tm h=_
     rw[hT]; rfl
    rw[heq] at hn ⊢;exact hs.call f [] tm h e w args' hr ha hn
   | some b=>
    have heq:tab T rec (.call f []) tm h=.ok (.val (.c (.bool b))) e3 h:=by
     show zaa (zlA T f) (rec (.call f [])) (fun b _ h=>.ok (.val (.c (.bool b))) e3 h) tm h=_
     rw[hT]; rfl
    rw[heq];obtain⟨k1,k2⟩:=ht _ (zlC hT);obtain⟨h1,h2,h3,h4⟩:=zlw k1
    have hargs:args' = #[]:=by
     cases ha':args'.toList with
     | nil=>exact Array.toList_eq_nil_iff.1 ha'
     | cons _ _=>rw[ha'] at ha; cases ha
    refine⟨⟨_,h1,by rw[h2]; rfl,h4⟩,fun n=>?_⟩;rw[hargs];refine CallsIn.mono (k2 w n) fun en w' hp=>?_;obtain⟨rfl,e',h',hst⟩:=hp;obtain⟨p1,p2⟩:=hst.over hr;exact⟨.c (.bool b),.bool b,e3,e,h,rfl,zh5.ok _ _ _,p1,p2,rfl⟩
end
end Go.Abs

