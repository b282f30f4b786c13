/- An evaluator of code, its soundness, and what functions of the program do. Condition: none; a lemma text. -/
import Derived.Test.YtpjnfiegpjlfgaaGreatVfB

namespace Go.Abs
noncomputable section
variable {P:Program} {w:World} {a:Act} {e:Env} {h:H} {tm:S3 V}
variable {e0:Env} {h0:H} {w0:World} {N:Nat} {ro:Option Nat} {n:Nat} {rec:Rec}
theorem HR.other(hr:HR e h w)(co:Obj):HR e h (w.alloc co)/\zeB e h w e h (w.alloc co):=by
 refine⟨⟨hr.fresh,fun b o hb=>?_,hr.inj,hr.vws.to (.refl e) (by simp) (fun c hc=>heap_alloc_old w co c (yaf hc hr.vws.lim)) hr.vws.own fun _ _ h=>h⟩,⟨.refl e,yac _,by simp,rfl,rfl,rfl,fun c hc _=>heap_alloc_old w co c hc,fun b o c hb hc=>.inr ⟨b,o,hb,hc⟩,fun c r hc=>⟨r,by rw[heap_alloc_old w co c (Array.getElem?_eq_some_iff.1 hc).1]; exact hc⟩,fun _ _=>rfl⟩⟩;obtain⟨cb,h1,a,h2,h3⟩:=hr.live b o hb;exact⟨cb,h1,a,by rw[heap_alloc_old w co cb (yaG.1 h2).1]; exact h2,h3⟩
theorem HR.gone(hr:HR e h w){b:Nat}{o0:AO}{c:Nat}(hb:zaj h.t b=some o0)(hc:e.ρ b=some c)(co:Obj)(hl:∀r:Loop,w.heap[c]? = some (Obj.loop r)->∃r',co=Obj.loop r') :
  HR e (za1 h b) (w.putObj c co)/\zeB e h w e (za1 h b) (w.putObj c co):=by
 have s:=hr.lt hb hc;have i:∀{k o' x},k ≠ b->zaj h.t k=some o'->e.ρ k=some x->x ≠ c:=fun {k o' x} hk hg hx a=>hk (hr.inj k b o' o0 c hg hb (by rw[<- a]; exact hx) hc)
 refine⟨⟨hr.fresh,fun k o' hk=>?_,fun k k' o1 o2 x h1 h2=>hr.inj k k' o1 o2 x (zem h1).2 (zem h2).2,hr.vws.to (.refl e) (by simp[World.putObj]) (fun x hx=>yaD fun q=>by
   have:=hr.vws.own b o0 c hb hc; omega) (fun k o' x hk hx=>hr.vws.own k o' x (zem hk).2 hx) fun _ _ h=>h⟩,⟨.refl e,yac _,by simp[World.putObj],rfl,rfl,rfl,fun x hx u=>?_,fun k o' x hk hx=>.inr ⟨k,o',(zem hk).2,hx⟩,fun x r hx=>?_,fun _ _=>rfl⟩⟩
 ·obtain⟨h1,h2⟩:=zem hk;obtain⟨cb,h4,y,h5,h6⟩:=hr.live k o' h2;exact⟨cb,h4,y,by rw[yaD (i h1 h2 h4)]; exact h5,h6⟩
 ·exact yaD (fun(q:x=c)=>u b o0 hb (by rw[q]; exact hc))
 ·by_cases a:x=c
  ·subst a;obtain⟨r',A⟩:=hl r hx;exact⟨r',by rw[ybY s,A]⟩
  ·exact⟨r,by rw[yaD a]; exact hx⟩
theorem HR.loop(hr:HR e h w){b:Nat}{st:LoopState}{pend:Option Code}{fn:FuncId}{tml:S3 V}{ps:List Nat}{asn bd:Code}(hb:zaj h.t b=some (.loop st pend fn tml ps asn bd)){c:Nat}(hc:e.ρ b=some c) :
  ∃r:Loop,w.heap[c]? = some (.loop r)/\zeA r/\r.state=st/\r.pending=pend/\TR e tml r.tmps/\r.params.toList=ps/\r.assign=asn/\r.body=bd:=by
 obtain⟨cb,h1,co,h2,h3⟩:=hr.live b _ hb
 rw[hc] at h1; cases h1
 obtain⟨r,rfl,h4⟩:=h3;exact⟨r,h2,h4⟩
theorem zkx{c:Nat}{r:Loop}(hc:w.heap[c]? = some (.loop r)):(Instr.getLoop c).run P w=.ok r w:=by
 simp[Instr.getLoop,getObj,Sem.run,hc]
theorem zky{c:Nat}{r:Loop}(hc:w.heap[c]? = some (.loop r))(o:Obj):(setObj c o).run P w=.ok () (w.putObj c o):=by
 simp only[setObj,Sem.run,World.putObj]
 simp[hc]
theorem zkz{h:H}{b:Nat}{s:LoopState->Option Code->FuncId->S3 V->List Nat->Code->Code->Out}(hn:zh0 (za5 h b .fail s)):∃st pend fn tml ps asn bd,zaj h.t b=some (.loop st pend fn tml ps asn bd)/\za5 h b .fail s=s st pend fn tml ps asn bd:=by
 unfold za5 at hn ⊢
 cases hg:zaj h.t b with
 | none=>rw[hg] at hn; exact hn.elim
 | some o=>
  rw[hg] at hn
  cases o with
  | loop st pend fn tml ps asn bd=>exact⟨st,pend,fn,tml,ps,asn,bd,rfl,rfl⟩
  | _=>exact hn.elim
theorem zkA(hsnd:zik P rec){f:Operand}{ps:Array Tmp}{asn bd:Code}(hso:slotsOk N (.rangeFunc f ps asn bd)=true)(hro:zie ro w0)(hi:Inv e0 h0 w0 N tm h a w){v:V}(hv:opd tm f=some v)
  (hn:zh0 (zdJ rec ps.toList asn bd tm h v)):(Code.rangeFunc f ps asn bd).wpIn (zic ro) n P (zig e0 h0 w0 N (zdJ rec ps.toList asn bd tm h v)) a w:=by
 obtain⟨e,hst,hr,ht,hm,hN⟩:=hi.out;have hfr:=ze1 ht hv
 -- the function that is ranged over
 obtain⟨g,fx,fy,rfl⟩:∃g fx fy,v=.c (.fn (.func g) fx fy):=by
  cases v with
  | c x=>
   cases x with
   | fn fn fx fy=>
    cases fn with
    | func g=>exact⟨g,fx,fy,rfl⟩
    | yield l=>cases fx with
     | nil=>exact hn.elim
     | cons y ys=>exact hn.elim
    | _=>exact hn.elim
   | _=>exact hn.elim
  | _=>exact hn.elim
 obtain⟨f',x',y',hfn,hfe,hx,hy⟩:∃f' a' b',FnR e (.func g) f'/\a.eval f=.func f' a' b'/\zen (WR e) fx a'.toList/\zen (WR e) fy b'.toList:=hfr;have hf':f'=.func g:=hfn;subst hf';have hon:zdJ rec ps.toList asn bd tm h (.c (.fn (.func g) fx fy))=bind (rec (.call g (appS (zbZ wV fx) (appS [.c (.fn (.yield h.nxt) [] [])] (zbZ wV fy)))) e3 (zaZ h (.loop .ready none 0 tm ps.toList asn bd))) (zdI rec h.nxt tm):=rfl;rw[hon] at hn ⊢;obtain⟨n1,n2⟩:=zh4 hn;unfold slotsOk at hso
 simp only[Bool.and_eq_true] at hso
 obtain⟨⟨hps,has⟩,hbd⟩:=hso
 -- what is zEN before the record
 obtain⟨wa,mark,dl,henter,hra,hsta,hma⟩:∃(wa:World) (mark:List Deferred) (dl:Nat),(∀fn,(Instr.enterLoop fn a.tmps ps asn bd ro).run P w=.ok (wa.heap.size,mark) (wa.alloc (.loop { state:=.ready,pending:=none,fn,tmps:=a.tmps,params:=ps,assign:=asn,body:=bd,defers:=dl }))) /\
   HR e h wa/\zeB e h w e h wa/\zir e h w0 wa (mark++a.defers):=by
  cases hroe:ro with
  | none=>
   obtain⟨q1,q2⟩:=hr.other (.deferred (some []));refine⟨w.alloc (.deferred (some [])),[zif w.heap.size],w.heap.size,fun fn=>?_,q1,q2,?_⟩
   ·simp[Instr.enterLoop,zif]
   ·obtain⟨ms,m1,m2,m3⟩:=hm.step q2;obtain⟨ms0,m10,m20,m30⟩:=hm
    have hms:ms=ms0:=by
     have:ms.map zif=ms0.map zif:=by rw[<- m1,<- m10]
     have hinj:∀(l r:List Nat),l.map zif=r.map zif->l=r:=by
      intro l
      induction l with
      | nil=>intro r hlr; cases r with
       | nil=>rfl
       | cons _ _=>cases hlr
      | cons x xs ih=>
       intro r hlr
       cases r with
       | nil=>cases hlr
       | cons y ys=>
        simp only[List.map_cons,List.cons.injEq] at hlr
        have hxy:x=y:=by
         have:=congrArg Deferred.target hlr.1
         simpa [zif] using this
        rw[hxy,ih ys hlr.2]
     exact hinj _ _ this
    refine⟨w.heap.size::ms,by rw[m1]; rfl,yb7.2 ⟨fun hmem=>?_,m2⟩,fun r hrm=>?_⟩
    ·rw[hms] at hmem;have:=(m30 _ hmem).2.1;have:=(yaG.1 this).1
     omega
    ·rcases yal.1 hrm with rfl | hrm
     ·exact⟨hst.size,heap_alloc_new w _,fun b o hb hc=>absurd (hr.lt hb hc) (by omega)⟩
     ·exact m3 r hrm
  | some l0=>
   obtain⟨r0,hr0⟩:=(hro.step hst) l0 hroe;refine⟨w,[],r0.defers,fun fn=>?_,hr,.refl _ _ _,by rw[yaQ]; exact hm⟩
   simp[Instr.enterLoop,zkx hr0]
 -- the record
 have hle:=Env.put_le (hra.fresh h.nxt (yac _)) wa.heap.size 0 0;refine wpIn_mono (Q:=zig e0 h0 w0 N _) (wpIn_rangeFunc fun fn _=>?_) (fun _ _ _ hq=>hq)
 have hlo:zeA { state:=.ready,pending:=none,fn,tmps:=a.tmps,params:=ps,assign:=asn,body:=bd,defers:=dl }:=by
  refine⟨by show slotsOk a.tmps.size asn=true; rw[hN]; exact has,by show slotsOk a.tmps.size bd=true; rw[hN]; exact hbd,fun p hp=>?_,fun c hc=>by cases hc⟩;have:=List.all_eq_true.1 hps p hp
  show p < a.tmps.size
  rw[hN];have:Nat.ble (p+1) N=true:=this;exact yaj this
 have hor:OR (e.put h.nxt wa.heap.size 0 0) h.nxt (.loop .ready none 0 tm ps.toList asn bd) (.loop { state:=.ready,pending:=none,fn,tmps:=a.tmps,params:=ps,assign:=asn,body:=bd,defers:=dl }):=
  ⟨_,rfl,hlo,rfl,rfl,TR.mono hle ht,rfl,rfl,rfl⟩
 obtain⟨b1,b2⟩:=hra.new 0 0 hor
 have hargs:zen (VR (e.put h.nxt wa.heap.size 0 0)) (appS (zbZ wV fx) (appS [.c (.fn (.yield h.nxt) [] [])] (zbZ wV fy))) (x' ++ #[Value.func (.yield wa.heap.size) #[] #[]]++y').toList:=by
  rw[zep,zep,ybJ,ybJ,yav];refine(zhU (hx.mono fun _ _=>WR.mono hle)).app (zen.app (.cons ?_ .nil) (zhU (hy.mono fun _ _=>WR.mono hle)));exact⟨.yield wa.heap.size,#[],#[],⟨wa.heap.size,Env.put_self _ _ _ _ _,rfl⟩,rfl,.nil,.nil⟩
 obtain⟨⟨gf,hgf,hgb,hgn⟩,hcall⟩:=hsnd.call g _ e3 _ _ _ _ b1 hargs n1;refine⟨wa.heap.size,mark,(wa.alloc (.loop { state:=.ready,pending:=none,fn,tmps:=a.tmps,params:=ps,assign:=asn,body:=bd,defers:=dl })),{ target:=.fn (.func g) y',args:=x' ++ #[Value.func (.yield wa.heap.size) #[] #[]] },(wa.alloc (.loop { state:=.ready,pending:=none,fn,tmps:=a.tmps,params:=ps,assign:=asn,body:=bd,defers:=dl })),g,x' ++ #[Value.func (.yield wa.heap.size) #[] #[]]++y',(wa.alloc (.loop { state:=.ready,pending:=none,fn,tmps:=a.tmps,params:=ps,assign:=asn,body:=bd,defers:=dl })),henter fn,?_,fun _ _=>trivial,?_,(fun hx=>absurd hx (by simp[zic,Fence.wide])),CallsIn.mono (F:=zic ro) (hcall (n - 1)) (fun en w3 hp=>?_)⟩
 ·have hmp:(#[Operand.const (Value.func (.yield wa.heap.size) #[] #[])].map a.eval) = #[Value.func (.yield wa.heap.size) #[] #[]]:=by simp[Act.eval]
  simp only[resolve,hfe,hmp,Deferred.ofValue,Sem.run_pure]
 ·simp only[invoke]
  exact zin hgf hgb hgn _
 ·obtain⟨v,v',tm',e',h',rfl,q0,q1,q2,q3⟩:=hp;have hnr:=n2 _ _ _ q0;obtain⟨st,pend,fn1,tml,ps1,as1,bd1,hg5,hoe⟩:=zkz (show zh0 (za5 h' h.nxt .fail _) from hnr);have hae:zdI rec h.nxt tm (.val v) tm' h'=LoopState.rec (motive:=fun _=>Out) (zdH rec tm (za1 h' h.nxt) pend) .fail (zdH rec tm (za1 h' h.nxt) pend) (zdH rec tm (za1 h' h.nxt) pend) st:=hoe;have hρ:e'.ρ h.nxt=some wa.heap.size:=q1.le.ρ _ _ (Env.put_self _ _ _ _ _);obtain⟨r,hrl,hlk,hrs,hrp,_⟩:=q2.loop hg5 hρ
  have hnb:r.state ≠ .busy:=fun hb=>by
   rw[hae,<- hrs,hb] at hnr;exact hnr.elim
  have hae':zdI rec h.nxt tm (.val v) tm' h'=zdH rec tm (za1 h' h.nxt) pend:=by
   rw[hae,<- hrs]
   cases hs:r.state with
   | busy=>exact absurd hs hnb
   | _=>rfl
  have hend:(Instr.endLoop wa.heap.size).run P w3=.ok r.pending (w3.putObj wa.heap.size (.loop { r with state:=.exhausted })):=by
   simp[Instr.endLoop,zkx hrl,hnb,zky hrl]
  obtain⟨c1,c2⟩:=q2.gone hg5 hρ (.loop { r with state:=.exhausted }) (fun r' _=>⟨_,rfl⟩)
  have hall:zeB e h wa e' (za1 h' h.nxt) (w3.putObj wa.heap.size (.loop { r with state:=.exhausted })):=(b2.trans q1).trans c2
  have hinv:Inv e0 h0 w0 N tm (za1 h' h.nxt) { a with defers:=mark++a.defers } (w3.putObj wa.heap.size (.loop { r with state:=.exhausted })):=
   .mk' (hst.trans (hsta.trans hall)) c1 (TR.mono hall.le ht) (hma.step hall) hN
  generalize (w3.putObj wa.heap.size (.loop { r with state:=.exhausted }))=W4 at hend hinv
  refine⟨r.pending,W4,hend,?_⟩;rw[hae'] at hnr
  cases hpe:r.pending with
  | none=>
   rw[<- hrp,hpe] at hnr hae';exact⟨.nrm,tm,za1 h' h.nxt,zh3 q0 (by rw[hae']; exact .ok _ _ _),rfl,hinv⟩
  | some c=>
   rw[<- hrp,hpe] at hnr hae'
   rcases hlk.2.2.2 c hpe with rfl | ⟨id,rfl⟩
   ·exact wpIn_ret ⟨.ret,tm,za1 h' h.nxt,zh3 q0 (by rw[hae']; exact .ok _ _ _),rfl,hinv⟩
   ·exact wpIn_exit ⟨.exit id,tm,za1 h' h.nxt,zh3 q0 (by rw[hae']; exact .ok _ _ _),rfl,hinv⟩
theorem Inv.sub{tm':S3 V}(hi:Inv e0 h0 w0 N tm h a w)(ht:∀k v,zag tm' k=some v->zag tm k=some v):Inv e0 h0 w0 N tm' h a w:=by
 obtain⟨e,i,hr,q,hm,hN⟩:=hi.out;exact .mk' i hr (fun t v hv=>q t v (ht t v hv)) hm hN
theorem zkB{F:Fence}{c:Code}{Q:Exit->Act->World->Prop}(hh:c.wpIn F n P Q a w)(hq:∀l a w,¬ Q (.goto l) a w):(Code.scope c).wpIn F n P Q a w:=by
 intro b k cs q hb hr;have h0:(lone (b.atR a (.code (.scope c)::k)) cs w).fenced P F:=fenced_calm hb hr rfl;have h1:Go.step P (lone (b.atR a (.code (.scope c)::k)) cs w)=.next (lone (b.atR a (.code c :: .inScope c::k)) cs w):=step_lone_go (by simp[stepG,stepG.exec,Frame.atR]);obtain⟨e,a₁,w₁,i,h⟩:=hh b (.inScope c::k) cs q hb hr
 cases e with
 | normal=>
  have h2:Go.step P (lone (b.atR a₁ (.inScope c::k)) cs w₁)=.next (lone (b.atR a₁ k) cs w₁):=step_lone_go (by simp[stepG,stepG.exec,Frame.atR]);exact⟨.normal,a₁,w₁,i,.head h0 h1 (StepsIn.trans h (.one (fenced_calm hb hr rfl) h2))⟩
 | exit id=>
  have hx:exitTo id (.inScope c::k)=exitTo id k:=by simp[exitTo]
  exact⟨.exit id,a₁,w₁,i,fun k' hk=>.head h0 h1 (h.1 k' (by rw[hx]; exact hk)),fun s hk=>let ⟨k₁,p1,p2⟩:=h.2 s (by rw[hx]; exact hk); ⟨k₁,p1,.head h0 h1 p2⟩⟩
 | goto l=>exact absurd i (hq l a₁ w₁)
 | ret=>exact⟨_,a₁,w₁,i,.of_steps (.one h0 h1) h⟩
 | panic ch=>exact⟨_,a₁,w₁,i,.of_steps (.one h0 h1) h⟩
 | outgrown=>exact⟨_,a₁,w₁,i,.of_steps (.one h0 h1) h⟩
theorem zkC(hP:zgB P)(u:zik P rec):∀(c:Code) {tm:S3 V} {h:H} {a:Act} {w:World},slotsOk N c=true->zie ro w0->Inv e0 h0 w0 N tm h a w->zh0 (zdK P rec c tm h) ->
  c.wpIn (zic ro) n P (zig e0 h0 w0 N (zdK P rec c tm h)) a w:=by
 intro c
 induction c with
 | skip=>intro tm h a w _ _ hi _; exact wpIn_skip ⟨.nrm,tm,h,.ok _ _ _,rfl,hi⟩
 | region id ops draw=>
  intro tm h a w i _ hi hn
  have hd:∀o∈ops.toList,∀t,o.dst=some t->t < N:=fun o ho t Y=>by
   unfold slotsOk at i;have:=List.all_eq_true.1 i o ho;rw[Y] at this;have:Nat.ble (t+1) N=true:=this;exact yaj this
  cases draw with
  | false=>exact ziw hP u hd hi hn
  | true=>
   have F:zh0 (orF (zdg ops.toList) fun l=>zdu P rec ops.toList h.nxt l tm (zdw h (zdv l)) [] []):=hn;obtain⟨l,hl,h1⟩:=zh5 F
   have A:zdK P rec (.region id ops true) tm h=zdu P rec ops.toList h.nxt l tm (zdw h (zdv l)) [] []:=by
    show orF (zdg ops.toList) (fun l=>zdu P rec ops.toList h.nxt l tm (zdw h (zdv l)) [] [])=_
    rw[hl]; rfl
   rw[A];exact zkw hP u hl hd hi h1
 | seq x y ihx ihy=>
  intro tm h a w i s hi hn;unfold slotsOk at i;rw[ybL] at i;obtain⟨n1,n2⟩:=zh4 (show zh0 (bind (zdK P rec x tm h) (zdy (zdK P rec y))) from hn);refine wpIn_seq (wpIn_mono (ihx i.1 s hi n1) fun ex a' w' hq=>?_);obtain⟨exx,tm',h',q1,q2,q3⟩:=hq;have G:=n2 _ _ _ q1
  cases exx with
  | nrm=>
   have q:ex=.normal:=q2;subst q;refine wpIn_mono (ihy i.2 s q3 G) fun x2 a2 w2 I=>?_;obtain⟨J,O,h2,r1,r2,r3⟩:=I;exact⟨J,O,h2,zh3 q1 r1,r2,r3⟩
  | exit id=>have q:ex=.exit id:=q2; subst q; exact⟨.exit id,tm',h',zh3 q1 (.ok _ _ _),rfl,q3⟩
  | ret=>have q:ex=.ret:=q2; subst q; exact⟨.ret,tm',h',zh3 q1 (.ok _ _ _),rfl,q3⟩
  | val v=>exact q2.elim
 | cond c x y ihx ihy=>
  intro tm h a w i s hi hn;unfold slotsOk at i;rw[ybL] at i;have F:zh0 (orF (opd tm c) fun v=>zav v .fail fun t=>ifB t (zdK P rec x tm h) (zdK P rec y tm h)):=hn;obtain⟨v,hv,h1⟩:=zh5 F
  obtain⟨t,rfl⟩:∃t,v=.c (.bool t):=by
   cases v with
   | c z=>cases z with
    | bool t=>exact⟨t,rfl⟩
    | _=>exact h1.elim
   | _=>exact h1.elim
  have A:zdK P rec (.cond c x y) tm h=ifB t (zdK P rec x tm h) (zdK P rec y tm h):=by
   show orF (opd tm c) (fun v=>zav v .fail fun t=>ifB t (zdK P rec x tm h) (zdK P rec y tm h))=_
   rw[hv]; rfl
  rw[A];obtain⟨e,Z,hr,ht,hm,hN⟩:=hi.out;have S:a.eval c=.bool t:=ze1 ht hv
  cases t with
  | true=>exact wpIn_cond S (ihx i.1 s hi h1)
  | false=>exact wpIn_cond S (ihy i.2 s hi h1)
 | block id b ih=>
  intro tm h a w i s hi hn;obtain⟨n1,n2⟩:=zh4 (show zh0 (bind (zdK P rec b tm h) (zdz id)) from hn);refine wpIn_block (wpIn_mono (ih i s hi n1) fun ex a' w' hq=>?_);obtain⟨exx,tm',h',q1,q2,q3⟩:=hq
  cases exx with
  | nrm=>have q:ex=.normal:=q2; subst q; exact⟨.nrm,tm',h',zh3 q1 (.ok _ _ _),rfl,q3⟩
  | exit id'=>
   have q:ex=.exit id':=q2;subst q
   show(if id'=id then zig e0 h0 w0 N (zdK P rec (.block id b) tm h) .normal a' w' else zig e0 h0 w0 N (zdK P rec (.block id b) tm h) (.exit id') a' w')
   by_cases D:id'=id
   ·rw[yab D];refine⟨.nrm,tm',h',zh3 q1 ?_,rfl,q3⟩
    show zhZ (ifB (Nat.beq id id') (.ok .nrm tm' h') (.ok (.exit id') tm' h')) _ _ _
    rw[D,yar]; exact .ok _ _ _
   ·rw[yaa D];refine⟨.exit id',tm',h',zh3 q1 ?_,rfl,q3⟩
    show zhZ (ifB (Nat.beq id id') (.ok .nrm tm' h') (.ok (.exit id') tm' h')) _ _ _
    have:Nat.beq id id'=false:=by
     cases hb:Nat.beq id id' with
     | false=>rfl
     | true=>exact absurd (zgt.1 hb).symm D
    rw[this]; exact .ok _ _ _
  | ret=>have q:ex=.ret:=q2; subst q; exact⟨.ret,tm',h',zh3 q1 (.ok _ _ _),rfl,q3⟩
  | val v=>exact q2.elim
 | loop b ih=>
  intro tm h a w i s hi hn;obtain⟨n1,n2⟩:=zh4 (show zh0 (bind (zdK P rec b (zdF h b tm tm) h) (zdG rec b (zdF h b tm tm))) from hn);refine zij (zii (wpIn_mono (ih i s (hi.sub fun _ _=>zeg) n1) fun ex a' w' hq=>?_));obtain⟨exx,tm',h',q1,q2,q3⟩:=hq;have G:=n2 _ _ _ q1
  cases exx with
  | nrm=>
   have q:ex=.normal:=q2;subst q;have hl:=u.loop b (zdF h' b (zdF h b tm tm) tm') h' e0 h0 w0 N ro a' w' n s i (q3.sub fun _ _=>zeg) G;intro bb k cs b1 b2 b3;obtain⟨e2,a2,w2,I,T⟩:=hl bb k cs b1 b2 b3;obtain⟨J,O,h2,r1,r2,r3⟩:=I;exact⟨e2,a2,w2,⟨J,O,h2,zh3 q1 r1,r2,r3⟩,T⟩
  | exit id=>have q:ex=.exit id:=q2; subst q; exact⟨.exit id,tm',h',zh3 q1 (.ok _ _ _),rfl,q3⟩
  | ret=>have q:ex=.ret:=q2; subst q; exact⟨.ret,tm',h',zh3 q1 (.ok _ _ _),rfl,q3⟩
  | val v=>exact q2.elim
 | rangeFunc f ps x y _ _=>
  intro tm h a w i s hi hn;obtain⟨v,hv,h1⟩:=zh5 (show zh0 (orF (opd tm f) fun v=>zdJ rec ps.toList x y tm h v) from hn)
  have A:zdK P rec (.rangeFunc f ps x y) tm h=zdJ rec ps.toList x y tm h v:=by
   show orF (opd tm f) (fun v=>zdJ rec ps.toList x y tm h v)=_
   rw[hv]; rfl
  rw[A];exact zkA u i s hi hv h1
 | exit id=>intro tm h a w _ _ hi _; exact wpIn_exit ⟨.exit id,tm,h,.ok _ _ _,rfl,hi⟩
 | ret=>intro tm h a w _ _ hi _; exact wpIn_ret ⟨.ret,tm,h,.ok _ _ _,rfl,hi⟩
 | scope b ih=>
  intro tm h a w i s hi hn;unfold slotsOk at i
  exact zkB (Q:=zig e0 h0 w0 N (zdK P rec b tm h)) (ih i s hi hn) fun l a' w' hq=>by
   obtain⟨ex,_,_,_,hx,_⟩:=hq
   cases ex <;> first | cases hx | exact hx.elim
 | label l=>intro tm h a w _ _ hi _; exact wpIn_label ⟨.nrm,tm,h,.ok _ _ _,rfl,hi⟩
 | goto l=>intro tm h a w _ _ _ hn; exact hn.elim
 | refuse y=>intro tm h a w _ _ _ hn; exact hn.elim
end
end Go.Abs

namespace Go.Abs
noncomputable section
variable {P:Program} {w:World} {a:Act} {e:Env} {h:H} {tm:S3 V}
variable {e0:Env} {h0:H} {w0:World} {N:Nat} {ro:Option Nat} {n:Nat} {rec:Rec}
theorem zkD(v v':V)(tm tm':S3 V)(h h':H):zdT (.ok (.val v) tm h) (.ok (.val v') tm' h')=ifB (ifB (zdS h) (zcG v v') false) (.ok (.val v) e3 (zcI h h')) (.or (.ok (.val v) tm h) (.ok (.val v') tm' h')):=rfl
theorem zkE(x y:Out):zdT x y=.or x y\/∃v tm h tm' h',x=.ok (.val v) tm h/\y=.ok (.val v) tm' h'/\zdT x y=.ok (.val v) e3 (zcI h h'):=by
 cases x with
 | fail=>exact .inl rfl
 | or x1 x2=>exact .inl rfl
 | ok ex tm h=>
  cases ex with
  | nrm=>exact .inl rfl
  | exit id=>exact .inl rfl
  | ret=>exact .inl rfl
  | val v=>
   cases y with
   | fail=>exact .inl rfl
   | or y1 y2=>exact .inl rfl
   | ok a tm' h'=>
    cases a with
    | nrm=>exact .inl rfl
    | exit id=>exact .inl rfl
    | ret=>exact .inl rfl
    | val v'=>
     rw[zkD]
     cases ht:zdS h with
     | false=>exact .inl (zd1 _ _)
     | true=>
     cases hs:zcG v v' with
     | false=>exact .inl (zd1 _ _)
     | true=>
      have:=ziZ hs;subst this;exact .inr ⟨v,tm,h,tm',h',rfl,rfl,zd0 _ _⟩
theorem zkF(x y:Out):zdU (.or x y)=zdT (zdU x) (zdU y):=rfl
theorem zkG{x:Out}:zh0 (zdU x)->zh0 x:=by
 induction x with
 | fail=>exact id
 | ok ex tm h=>exact id
 | or x y ihx ihy=>
  intro hn;rw[zkF] at hn
  rcases zkE (zdU x) (zdU y) with h1 | ⟨v,tm,h,tm',h',h1,h2,h3⟩
  ·rw[h1] at hn;exact⟨ihx hn.1,ihy hn.2⟩
  ·refine⟨ihx ?_,ihy ?_⟩
   ·rw[h1]; trivial
   ·rw[h2]; trivial
theorem zkH{x:Out}{v:V}{tm:S3 V}{h:H}(hl:zhZ x (.val v) tm h):∃tm' h',zhZ (zdU x) (.val v) tm' h'/\h.nxt<=h'.nxt/\(∀b o,zaj h'.t b=some o->zaj h.t b=some o)/\∀b q,h'.vw b=some q->h.vw b=some q:=by
 induction x with
 | fail=>cases hl
 | ok ex tm1 h1=>
  obtain⟨rfl,rfl,rfl⟩:=zh1 hl;exact⟨tm,h,zhZ.ok _ _ _,yac _,fun _ _ hb=>hb,fun _ _ hb=>hb⟩
 | or x y ihx ihy=>
  rw[zkF]
  rcases zh2 hl with hl | hl
  ·obtain⟨t1,h1,q1,q2,q3⟩:=ihx hl
   rcases zkE (zdU x) (zdU y) with h4 | ⟨v',t2,h2,t3,h3,h4,h5,h6⟩
   ·rw[h4]; exact⟨t1,h1,.l q1,q2,q3⟩
   ·rw[h6];rw[h4] at q1;obtain⟨r1,r2,r3⟩:=zh1 q1
    cases r1; subst r3
    exact⟨_,_,zhZ.ok _ _ _,yad q2 zi5.1,fun b o hb=>q3.1 b o (zi5.2 b o hb),fun b q hb=>by cases hb⟩
  ·obtain⟨t1,h1,q1,q2,q3⟩:=ihy hl
   rcases zkE (zdU x) (zdU y) with h4 | ⟨v',t2,h2,t3,h3,h4,h5,h6⟩
   ·rw[h4]; exact⟨t1,h1,.r q1,q2,q3⟩
   ·rw[h6];rw[h5] at q1;obtain⟨r1,r2,r3⟩:=zh1 q1
    cases r1; subst r3
    exact⟨_,_,zhZ.ok _ _ _,yad q2 zi6.1,fun b o hb=>q3.1 b o (zi6.2 b o hb),fun b q hb=>by cases hb⟩
def zkI(tmps:Array Value):ResultVar->Sem Value
 | .tmp t=>pure (tmps.getD t undef)
 | .cell a t=>do loadVar t (<- asAddr (tmps.getD a undef))
theorem zkJ(fn:Func)(tmps:Array Value):results fn tmps=(do
  let vs <- fn.results.mapM (zkI tmps)
  pure (if h:vs.size=1 then vs[0] else .tuple vs)):=rfl
theorem zkK{r:ResultVar}{v:V}(hr:HR e h w)(ht:TR e tm a.tmps)(hv:zdN P h tm r=some v):∃v',(zkI a.tmps r).run P w=.ok v' w/\VR e v v':=by
 cases r with
 | tmp t=>exact⟨_,rfl,ht t v hv⟩
 | cell x t=>
  have h0:zaa (zag tm x) none (fun p=>zaw p none fun b o=>zbf P h t b o)=some v:=hv;obtain⟨p,hp,h1⟩:=zd4 h0;obtain⟨b,off,rfl,h2⟩:=zeM h1;obtain⟨cb,hc,hx⟩:∃cb,e.ρ b=some cb/\a.tmps.getD x undef=.pointer (some ⟨cb,off,none⟩):=ht x _ hp;obtain⟨v',h3,h4⟩:=zfq hr h2 hc;refine⟨v',?_,h4⟩
  simp only[zkI,hx]
  simp[asAddr,h3]
theorem zkL{vs:List V}:∀{rs:List ResultVar},HR e h w->TR e tm a.tmps->zen (fun r v=>zdN P h tm r=some v) rs vs->∃i,(rs.mapM (zkI a.tmps)).run P w=.ok i w/\zen (VR e) vs i:=by
 induction vs with
 | nil=>intro rs hr ht hv; cases hv; exact⟨[],rfl,.nil⟩
 | cons v vs ih=>
  intro rs hr ht hv
  cases hv with
  | cons h1 h2=>
   obtain⟨v',q1,q2⟩:=zkK hr ht h1;obtain⟨i,q3,q4⟩:=ih hr ht h2;exact⟨v'::i,by simp[q1,q3],.cons q2 q4⟩
theorem zkM{vs:List V}{a:List Value}{v:V}(hv:zen (VR e) vs a)(hm:zdO vs=some v):VR e v (if h:a.toArray.size=1 then a.toArray[0] else .tuple a.toArray):=by
 cases hv with
 | nil=>cases hm; exact⟨#[],rfl,.nil⟩
 | cons h1 h2=>
  cases h2 with
  | nil=>cases hm; exact h1
  | cons h3 h4=>
   rename_i x x' y y' r r'
   have q:zaa (zaE vU (x::y::r)) none (fun us=>some (.tup us))=some v:=hm;obtain⟨us,s,hv⟩:=zd4 q
   cases hv
   have u:¬ (x'::y'::r').toArray.size=1:=by simp
   rw[dif_neg u];refine⟨_,rfl,?_⟩;have i:zen (VR e) (x::y::r) (x'::y'::r'):=.cons h1 (.cons h3 h4);have w:=zez s
   have:∀{l:List V} {l':List Value} {us:List U},zen (VR e) l l'->zen (fun x y=>vU x=some y) l us->zen (UR e) us l':=by
    intro l l' us ha hb
    induction hb generalizing l' with
    | nil=>cases ha; exact .nil
    | cons q1 _ ih=>
     cases ha with
     | cons p1 p2=>exact .cons (zfF.1 (by rw[<- zfG q1]; exact p1)) (ih p2)
   simpa using this i w
theorem zkN{fn:Func}{vs:List V}{v:V}(hr:HR e h w)(ht:TR e tm a.tmps)(h1:zaE (zdN P h tm) fn.results.toList=some vs)(h2:zdO vs=some v) :
  ∃v',(results fn a.tmps).run P w=.ok v' w/\VR e v v':=by
 obtain⟨i,q1,q2⟩:=zkL hr ht (zez h1);refine⟨_,?_,zkM q2 h2⟩;rw[zkJ,Array.mapM_eq_mapM_toList]
 simp only[Sem.run_bind,Sem.run_map,q1,Result.andThen_ok,Sem.run_pure]
theorem zkO(a:zeB e0 h0 w0 e h w)(hr:HR e h w){r:Nat}(h1:w0.heap.size<=r)(h2:w.heap[r]? = some (.deferred (some [])))(h3:∀b o,zaj h.t b=some o->e.ρ b ≠ some r) :
  zeB e0 h0 w0 e h (w.putObj r (.deferred none))/\HR e h (w.putObj r (.deferred none)):=by
 refine⟨⟨a.le,a.nxt,by simp[World.putObj]; exact a.size,a.tape,a.os,a.output,fun c hc hn=>?_,a.org,fun c l hl=>?_,a.low⟩,⟨hr.fresh,fun b o hb=>?_,hr.inj,by simp[World.putObj]; exact hr.vws.lim,hr.vws.own,fun c cs t fr hc=>?_,hr.vws.view⟩⟩
 ·rw[yaD (fun(i:c=r)=>by omega)]; exact a.keep c hc hn
 ·have:=(yaG.1 hl).1;rw[yaD (fun(i:c=r)=>by omega)]; exact a.loops c l hl
 ·obtain⟨cb,q1,co,q2,q3⟩:=hr.live b o hb;exact⟨cb,q1,co,by rw[yaD (fun(i:cb=r)=>h3 b o hb (by rw[<- i]; exact q1))]; exact q2,q3⟩
 ·have h4:=hr.vws.kept c cs t fr hc;rw[yaD (fun(i:c=r)=>by rw[i,h2] at h4; cases h4)]; exact h4
theorem zkP{r:Nat}(h2:w.heap[r]? = some (.deferred (some []))):(Instr.takeDeferred r).run P w=.ok [] (w.putObj r (.deferred none)):=by
 simp only[Instr.takeDeferred,getObj,setObj,World.putObj]
 simp[Sem.run,h2]
theorem zkQ{F:Fence}{fn:Func}{tmps:Array Value}{R:Ending->World->Prop}:∀{ms:List Nat} {w:World},zeB e0 h0 w0 e h w->HR e h w->ms.Nodup ->
  (∀r∈ms,w0.heap.size<=r/\w.heap[r]? = some (.deferred (some []))/\∀b o,zaj h.t b=some o->e.ρ b ≠ some r) ->
  (∀w',zeB e0 h0 w0 e h w'->HR e h w'->∃v,(results fn tmps).run P w'=.ok v w'/\R (.returned v) w')->LeavesInM F n P fn tmps R (ms.map zif) .returning w
 | [],w,a,hr,_,_,hK=>hK w a hr
 | r::ms,w,a,hr,hd,hm,hK=>by
  obtain⟨h1,h2,h3⟩:=hm r (yae ..);obtain⟨q1,q2⟩:=zkO a hr h1 h2 h3;rw[yb7] at hd;rw[yaX];unfold LeavesInM;refine⟨(fun hc=>by cases hc),Or.inl ⟨r,_,rfl,zkP h2,zkQ q1 q2 hd.2 (fun r' i=>?_) hK⟩⟩;obtain⟨p1,p2,p3⟩:=hm r' (yag _ i);exact⟨p1,by rw[yaD (fun(q:r'=r)=>hd.1 (by rw[<- q]; exact i))]; exact p2,p3⟩
theorem zkR{args:List V}:∀{i:Nat} {t:S3 V} {k:Nat} {v:V},zag (zdL args i t) k=some v->(∃j,k=i+j/\args[j]? = some v)\/zag t k=some v:=by
 induction args with
 | nil=>intro i t k v hg; exact .inr hg
 | cons x xs ih=>
  intro i t k v hg
  rcases ih (show zag (zdL xs (Nat.succ i) (zah t i x)) k=some v from hg) with ⟨j,rfl,hj⟩ | h1
  ·exact .inl ⟨j+1,by omega,by simpa using hj⟩
  ·rcases zek h1 with ⟨rfl,rfl⟩ | ⟨_,h2⟩
   ·exact .inl ⟨0,rfl,rfl⟩
   ·exact .inr h2
theorem zkS{args:List V}{args':Array Value}(ha:zen (VR e) args args'.toList)(m:Nat):TR e (zdL args 0 e3) (args'++Array.replicate m undef):=fun t v hg=>by
 rcases zkR hg with ⟨j,hj,h1⟩ | h1
 ·rw[yay] at hj;subst hj;obtain⟨y,h2,h3⟩:=ha.get h1
  have h4:args'[t]? = some y:=by rw[<- ya5]; exact h2
  have a:=(yaG.1 h4).1;rw[yaB,Array.getElem?_append_left a,h4];exact h3
 ·rw[zei] at h1; cases h1
theorem zkT{ps:List Nat}:∀{args:List V} {args':List Value} {tm tm':S3 V} {tmps:Array Value},zen (VR e) args args'->TR e tm tmps->(∀p∈ps,p < tmps.size)->zdM ps args tm=some tm' ->
  ps.length=args'.length/\TR e tm' ((ps.zip args').foldl (fun ts x=>ts.setIfInBounds x.1 x.2) tmps)/\((ps.zip args').foldl (fun ts x=>ts.setIfInBounds x.1 x.2) tmps).size=tmps.size:=by
 induction ps with
 | nil=>
  intro args args' tm tm' tmps ha ht _ hs
  cases ha with
  | nil=>cases hs; exact⟨rfl,ht,rfl⟩
  | cons _ _=>cases hs
 | cons p ps ih=>
  intro args args' tm tm' tmps ha ht hp hs
  cases ha with
  | nil=>cases hs
  | cons h1 h2=>
   rename_i x y xs ys
   have i:zdM ps xs (zah tm p x)=some tm':=hs;have h:=(TR.put (a:={ tmps:=tmps,defers:=[] }) ht h1 (d:=some p) (fun t ht=>by cases ht; exact hp p (yae ..)));obtain⟨q1,q2,q3⟩:=ih h2 (tmps:=tmps.setIfInBounds p y) h.1 (fun t ht=>by simpa using hp t (yag _ ht)) i;exact⟨by simp[q1],q2,by rw[List.zip_cons_cons,List.foldl_cons,q3]; simp⟩
end
end Go.Abs

namespace Go.Abs
noncomputable section
variable {P:Program} {w:World} {a:Act} {e:Env} {h:H} {tm:S3 V}
variable {e0:Env} {h0:H} {w0:World} {N:Nat} {ro:Option Nat} {n:Nat} {rec:Rec}
theorem zkU(hP:zgB P)(hs:zik P rec){f:FuncId}{args:List V}{args':Array Value}(hr:HR e h w)(ha:zen (VR e) args args'.toList)(hn:zh0 (zdW P rec args h P.funcs[f]?)) :
  (∃ fn, P.funcs[f]? = some fn ∧ fn.body.isNone = false ∧ (fn.name == "runtime.NumGoroutine") = false) ∧ ∀ n, CallsIn Fence.wide n P f args' w (zid e h w (zdW P rec args h P.funcs[f]?)) := by
 obtain⟨fn,hf,hn1⟩:=zh5 (show zh0 (orF P.funcs[f]? _) from hn)
 have heq:zdW P rec args h P.funcs[f]? = orF fn.body fun c=>ifB (zdV fn) (ifB (Nat.ble (zaI args) fn.ntmps) (zdU (bind (zdK P rec c (zdL args 0 e3) h) (zdQ P fn))) .fail) .fail:=by rw[hf]; rfl
 obtain⟨c,hb,hn2⟩:=zh5 hn1;rw[hb,zh6] at heq
 cases hok:zdV fn with
 | false=>rw[hok] at hn2; exact hn2.elim
 | true=>
  rw[hok,zd0] at hn2 heq
  cases hle:Nat.ble (zaI args) fn.ntmps with
  | false=>rw[hle] at hn2; exact hn2.elim
  | true=>
   rw[hle,zd0] at hn2 heq;rw[heq];unfold zdV at hok;rw[hb] at hok
   have hok' : (slotsOk fn.ntmps c && fn.name != "runtime.NumGoroutine") = true := hok
   rw[ybL] at hok'
   have hnm : (fn.name == "runtime.NumGoroutine") = false := by
    have:=hok'.2;rw[bne,Bool.not_eq_true'] at this;exact this
   refine⟨⟨fn,hf,by rw[hb]; rfl,hnm⟩,fun n=>?_⟩;obtain⟨m1,m2⟩:=zh4 (zkG hn2)
   have hlen:args'.size<=fn.ntmps:=by
    have h1:=yaj hle;rw[zeq,ha.length,yba] at h1;exact h1
   have hinv:Inv e h w fn.ntmps (zdL args 0 e3) h { tmps:=args'++Array.replicate (fn.ntmps - args'.size) undef,defers:=[] } w:=by
    refine .mk' (.refl e h w) hr (zkS ha _) ⟨[],rfl,.nil,fun r hr=>by cases hr⟩ ?_
    simp only[Array.size_append,Array.size_replicate]
    omega
   refine callsIn_of_wp_marks (F:=Fence.wide) hf hb trivial (wpIn_mono (zkC (ro:=none) (n:=n) hP hs c hok'.1 (fun l hl=>by cases hl) hinv m1) fun x a' w' hq=>?_);obtain⟨ex,tm',h',q1,q2,q3⟩:=hq;have hnk:=m2 _ _ _ q1;obtain⟨e',hst,hr',ht,hm,_⟩:=q3.out
   have hfin:∀(hret:zh0 (zdP P fn tm' h')) (hl:∀ex tm2 h2,zhZ (zdP P fn tm' h') ex tm2 h2->zhZ (bind (zdK P rec c (zdL args 0 e3) h) (zdQ P fn)) ex tm2 h2),
     LeavesInM Fence.wide n P fn a'.tmps (zid e h w (zdU (bind (zdK P rec c (zdL args 0 e3) h) (zdQ P fn)))) a'.defers .returning w':=by
    intro hret hl;obtain⟨vs,hvs,hret1⟩:=zh5 (show zh0 (orF (zaE (zdN P h' tm') fn.results.toList) fun vs=>orF (zdO vs) fun v=>.ok (.val v) e3 h') from hret);obtain⟨v,hv,_⟩:=zh5 hret1
    have hreq:zdP P fn tm' h'=.ok (.val v) e3 h':=by
     show orF (zaE (zdN P h' tm') fn.results.toList) (fun vs=>orF (zdO vs) fun v=>.ok (.val v) e3 h')=_
     rw[hvs,zh6,hv,zh6]
    rw[hreq] at hl;obtain⟨tm2,h2,r1,r2,r3⟩:=zkH (hl _ _ _ (zhZ.ok _ _ _));obtain⟨ms,hms,hnd,hma⟩:=hm;rw[hms];refine zkQ hst hr' hnd hma fun w2 p1 p2=>?_;obtain⟨v',s1,s2⟩:=zkN (P:=P) p2 ht hvs hv;obtain⟨t1,t2⟩:=p2.less r2 r3.1 r3.2;exact⟨v',s1,v,v',tm2,e',h2,rfl,r1,p1.trans t2,t1,s2⟩
   cases ex with
   | nrm=>
    have hxn:x=.normal:=q2;subst hxn;exact hfin hnk (fun ex tm2 h2 hl=>zh3 q1 hl)
   | exit id=>exact hnk.elim
   | ret=>
    have hxn:x=.ret:=q2;subst hxn;exact hfin hnk (fun ex tm2 h2 hl=>zh3 q1 hl)
   | val v=>exact q2.elim
theorem zkV(l:Nat):zic (some l)=Fence.wide.inRound l:=rfl
theorem zkW{F:Fence}{c:Code}{Q Q':Exit->Act->World->Prop}(hh:zih F n P c Q a w)(hq:∀x a w,Q x a w->Q' x a w):zih F n P c Q' a w:=by
 intro b k cs b1 b2 b3;obtain⟨e2,a2,w2,i,h⟩:=hh b k cs b1 b2 b3;exact⟨e2,a2,w2,hq _ _ _ i,h⟩
theorem zkX{r:Loop}(hk:zeA r)(st:LoopState)(pend:Option Code)(hp:∀c,pend=some c->c=.ret\/∃id,c=.exit id):zeA { r with state:=st,pending:=pend }:=⟨hk.1,hk.2.1,hk.2.2.1,hp⟩
theorem zkY{c:Nat}{r:Loop}(hc:w.heap[c]? = some (.loop r)){args:Array Value}(hz:args.size=r.params.size):(Instr.yield c args).run P w=.ok (.round c r.fn ((r.params.zip args).foldl (fun tmps (t,a)=>tmps.setIfInBounds t a) r.tmps) r.assign r.body) w:=by
 simp[Instr.yield,zkx hc,hz]
theorem zkZ{c:Nat}{r:Loop}(hc:w.heap[c]? = some (.loop r))(hs:r.state=.ready):(Instr.beginRound c).run P w=.ok () (w.putObj c (.loop { r with state:=.busy })):=by
 simp[Instr.beginRound,zkx hc,zky hc,hs]
theorem zk0{c:Nat}{r:Loop}(hc:w.heap[c]? = some (.loop r))(j:Option Code):(Instr.endRound c j).run P w=.ok (.bool j.isNone) (w.putObj c (.loop { r with state:=if j.isNone then .ready else .done,pending:=j })):=by
 simp[Instr.endRound,zkx hc,zky hc]
theorem HR.setLoop(hr:HR e h w){b:Nat}{o0:AO}{c:Nat}(hb:zaj h.t b=some o0)(hc:e.ρ b=some c){r:Loop}(hk:zeA r){st:LoopState}{pend:Option Code}{fn:FuncId}{tml:S3 V}{ps:List Nat}{asn bd:Code}
  (ht:TR e tml r.tmps) (h1:r.params.toList=ps) (h2:r.assign=asn) (h3:r.body=bd) (hp:∀c,pend=some c->c=.ret\/∃id,c=.exit id) :
  HR e (za0 h b (.loop st pend fn tml ps asn bd)) (w.putObj c (.loop { r with state:=st,pending:=pend }))/\zeB e h w e (za0 h b (.loop st pend fn tml ps asn bd)) (w.putObj c (.loop { r with state:=st,pending:=pend })):=
 hr.upd hb hc ⟨{ r with state:=st,pending:=pend },rfl,zkX hk st pend hp,rfl,rfl,ht,h1,h2,h3⟩ (fun _ _=>⟨_,rfl⟩)
theorem zk1(hP:zgB P)(hs:zik P rec){l:Nat}{args:List V}{cl:Nat}{args':Array Value}(ae:e.ρ l=some cl)(hr:HR e h w)(ha:zen (VR e) args args'.toList)(hn:zh0 (zdZ P rec l args h)) :
  ∃fn tmps assign body,(Instr.yield cl args').run P w=.ok (.round cl fn tmps assign body) w/\∀n,RoundIn Fence.wide n P cl fn tmps assign body w (zid e h w (zdZ P rec l args h)):=by
 obtain⟨st,pend,aY,tml,ps,asn,bd,hg,aO⟩:=zkz (show zh0 (za5 h l .fail _) from hn);have aG:zdZ P rec l args h=LoopState.rec (motive:=fun _=>Out) (orF (zdM ps args tml) fun tm'=>bind (zdK P rec asn tm' h) (zdY P rec l bd)) .fail .fail .fail st:=aO;obtain⟨r,hw,hk,aZ,a0,aP,af,ay,az⟩:=hr.loop hg ae;rw[aG] at hn ⊢
 cases st with
 | busy=>exact hn.elim
 | done=>exact hn.elim
 | exhausted=>exact hn.elim
 | ready=>
  have aQ:zh0 (orF (zdM ps args tml) fun tm'=>bind (zdK P rec asn tm' h) (zdY P rec l bd)):=hn;obtain⟨tm1,ag,aR⟩:=zh5 aQ
  show ∃fn tmps assign body,_/\∀n,RoundIn Fence.wide n P cl fn tmps assign body w (zid e h w (orF (zdM ps args tml) fun tm'=>bind (zdK P rec asn tm' h) (zdY P rec l bd)))
  rw[ag,zh6];obtain⟨m1,m2⟩:=zh4 aR;obtain⟨k1,k2,k3⟩:=zkT ha aP (fun p hp=>hk.2.2.1 p (by rw[af]; exact hp)) ag
  have hz:args'.size=r.params.size:=by
   rw[<- yba,<- yba,<- k1,af]
  have av:(r.params.zip args').foldl (fun tmps (t,a)=>tmps.setIfInBounds t a) r.tmps=(ps.zip args'.toList).foldl (fun ts x=>ts.setIfInBounds x.1 x.2) r.tmps:=by
   rw[<- Array.foldl_toList,Array.toList_zip,af]
  refine⟨_,_,_,_,zkY hw hz,fun n=>?_⟩;rw[av];generalize (ps.zip args'.toList).foldl (fun ts x=>ts.setIfInBounds x.1 x.2) r.tmps=tmps0 at k2 k3;have aH:Inv e h w r.tmps.size tm1 h { tmps:=tmps0,defers:=[] } w:=.mk' (.refl e h w) hr k2 ⟨[],rfl,.nil,fun r hr=>by cases hr⟩ k3
  have aA:zie (some cl) w:=fun l' aS=>by cases aS; exact⟨r,hw⟩
  refine roundIn_of_wpIn trivial ?_;rw[<- zkV];have ah:=zkC (ro:=some cl) (n:=n) hP hs asn (by rw[<- ay]; exact hk.1) aA aH m1;rw[ay];refine wpIn_mono ah fun x a1 w1 hq=>?_;obtain⟨ex,G,h2,q1,q2,q3⟩:=hq;have i:=m2 _ _ _ q1
  cases ex with
  | exit id=>exact i.elim
  | ret=>exact i.elim
  | val v=>exact q2.elim
  | nrm=>
   have q:x=.normal:=q2;subst q;obtain⟨aB,pend2,I,A,Y,Z,aa,aC,aI⟩:=zkz (show zh0 (za5 h2 l .fail _) from i);have ai:zdY P rec l bd .nrm G h2=LoopState.rec (motive:=fun _=>Out) (bind (zdK P rec bd G (za0 h2 l (.loop .busy pend2 I A Y Z aa))) (zdX l)) .fail .fail .fail aB:=aI;obtain⟨e1,aj,aD,aT,aU,aV⟩:=q3.out;have ak:e1.ρ l=some cl:=aj.le.ρ _ _ ae;obtain⟨r1,ah,aE,hs1,aF,aJ,aK,aL,aM⟩:=aD.loop aC ak;rw[ai] at i
   cases aB with
   | busy=>exact i.elim
   | done=>exact i.elim
   | exhausted=>exact i.elim
   | ready=>
    refine⟨_,zkZ ah hs1,?_⟩;obtain⟨b1,b2⟩:=aD.setLoop (st:=.busy) (pend:=pend2) (fn:=I) aC ak aE aJ aK aL aM (fun c hc=>aE.2.2.2 c (by rw[aF]; exact hc))
    have aw:({ r1 with state:=.busy,pending:=pend2 }:Loop)={ r1 with state:=.busy }:=by rw[<- aF]
    rw[aw] at b1 b2;obtain⟨c1,c2⟩:=zh4 (show zh0 (bind (zdK P rec bd G (za0 h2 l (.loop .busy pend2 I A Y Z aa))) (zdX l)) from i)
    have ax:Inv e h w r.tmps.size G (za0 h2 l (.loop .busy pend2 I A Y Z aa)) a1 (w1.putObj cl (.loop { r1 with state:=.busy })):=.mk' (aj.trans b2) b1 aT (aU.step b2) aV
    rw[az];have am:∀{ex u h3},zhZ (bind (zdK P rec bd G (za0 h2 l (.loop .busy pend2 I A Y Z aa))) (zdX l)) ex u h3->zhZ (bind (zdK P rec asn tm1 h) (zdY P rec l bd)) ex u h3:=fun hl=>zh3 q1 (by rw[ai]; exact hl);refine wpIn_mono (zkC (ro:=some cl) (n:=n) hP hs bd (by rw[<- az]; exact hk.2.1) aA ax c1) fun x3 a3 w3 aW=>?_;obtain⟨aX,u,h3,s1,s2,s3⟩:=aW;have aN:=c2 _ _ _ s1;obtain⟨a2,pend4,y,J,ao,ap,aq,ab,N⟩:=zkz (show zh0 (za5 h3 l .fail _) from aN);obtain⟨ac,D,ad,a4,a5,a6⟩:=s3.out;have F:ac.ρ l=some cl:=D.le.ρ _ _ ae;obtain⟨r3,ar,au,a7,a8,O,Q,S,T⟩:=ad.loop ab F
    cases aX with
    | val v=>exact s2.elim
    | nrm=>
     have q:x3=.normal:=s2;subst q;have s:zdX l .nrm u h3=.ok (.val (.c (.bool true))) e3 (za0 h3 l (.loop .ready none y J ao ap aq)):=N;obtain⟨d1,d2⟩:=ad.setLoop (st:=.ready) (pend:=none) (fn:=y) ab F au O Q S T (fun c hc=>by cases hc);refine⟨_,_,zk0 ar none,.c (.bool true),_,e3,ac,_,rfl,am (zh3 s1 (by rw[s]; exact zhZ.ok _ _ _)),D.trans d2,d1,rfl⟩
    | exit id=>
     have q:x3=.exit id:=s2;subst q;have s:zdX l (.exit id) u h3=.ok (.val (.c (.bool false))) e3 (za0 h3 l (.loop .done (some (.exit id)) y J ao ap aq)):=N;obtain⟨d1,d2⟩:=ad.setLoop (st:=.done) (pend:=some (.exit id)) (fn:=y) ab F au O Q S T (fun c hc=>by cases hc; exact .inr ⟨id,rfl⟩);refine⟨_,_,zk0 ar (some (.exit id)),.c (.bool false),_,e3,ac,_,rfl,am (zh3 s1 (by rw[s]; exact zhZ.ok _ _ _)),D.trans d2,d1,rfl⟩
    | ret=>
     have q:x3=.ret:=s2;subst q;have s:zdX l .ret u h3=.ok (.val (.c (.bool false))) e3 (za0 h3 l (.loop .done (some .ret) y J ao ap aq)):=N;obtain⟨d1,d2⟩:=ad.setLoop (st:=.done) (pend:=some .ret) (fn:=y) ab F au O Q S T (fun c hc=>by cases hc; exact .inl rfl);refine⟨_,_,zk0 ar (some .ret),.c (.bool false),_,e3,ac,_,rfl,am (zh3 s1 (by rw[s]; exact zhZ.ok _ _ _)),D.trans d2,d1,rfl⟩
theorem zk2(hP:zgB P)(hs:zik P rec):zik P (step P rec) where
 call:=fun f args tm h e w args' hr ha hn=>zkU hP hs hr ha hn
 yield:=fun l args tm h e w cl args' u hr ha hn=>zk1 hP hs u hr ha hn
 jump:=fun c tm h e0 h0 w0 N ro a w n q s hi hn=>zkC hP hs c s q hi hn
 loop:=fun c tm h e0 h0 w0 N ro a w n q s hi hn=>by
  obtain⟨n1,n2⟩:=zh4 (show zh0 (bind (zdK P rec c (zdF h c tm tm) h) (zdG rec c (zdF h c tm tm))) from hn);refine zii (wpIn_mono (zkC hP hs c s q (hi.sub fun _ _=>zeg) n1) fun ex a' w' hq=>?_);obtain⟨exx,tm',h',q1,q2,q3⟩:=hq;have y:=n2 _ _ _ q1
  cases exx with
  | nrm=>
   have i:ex=.normal:=q2;subst i;refine zkW (hs.loop c (zdF h' c (zdF h c tm tm) tm') h' e0 h0 w0 N ro a' w' n q s (q3.sub fun _ _=>zeg) y) fun x a2 w2 A=>?_;obtain⟨D,F,h2,r1,r2,r3⟩:=A;exact⟨D,F,h2,zh3 q1 r1,r2,r3⟩
  | exit id=>have i:ex=.exit id:=q2; subst i; exact⟨.exit id,tm',h',zh3 q1 (.ok _ _ _),rfl,q3⟩
  | ret=>have i:ex=.ret:=q2; subst i; exact⟨.ret,tm',h',zh3 q1 (.ok _ _ _),rfl,q3⟩
  | val v=>exact q2.elim
end
end Go.Abs

namespace Go.Abs
noncomputable section
variable {P:Program} {w:World} {a:Act} {e:Env} {h:H} {tm:S3 V}
variable {e0:Env} {h0:H} {w0:World} {N:Nat} {ro:Option Nat} {n:Nat} {rec:Rec}
def zk3(l:List (Nat × AO)):S5 AO:=List.rec (motive:=fun _=>S5 AO) e5 (fun x _ ih=>zam ih x.1 x.2) l
def zk4(n:Nat)(l:List (Nat × AO)):H:={ nxt:=n,t:=zk3 l,vw:=fun _=>none }
theorem zk5:∀{l:List (Nat × AO)} {k:Nat} {v:AO},zaj (zk3 l) k=some v->(k,v)∈l
 | [],k,v,hh=>by rw[show zk3 []=e5 from rfl,zej] at hh; cases hh
 | x::xs,k,v,hh=>by
  rcases zel (show zaj (zam (zk3 xs) x.1 x.2) k=some v from hh) with ⟨rfl,rfl⟩ | ⟨_,h2⟩
  ·exact yae ..
  ·exact yag _ (zk5 h2)
theorem zk6{α:Type}{o:Option α}{s:α->Bool}(hh:zaa o false s=true):∃x,o=some x/\s x=true:=by
 cases o with
 | none=>cases hh
 | some x=>exact⟨x,rfl,hh⟩
def zk7(c:Code):Code:=match c with | .seq _ y=>y | _=>.skip
def zk8:Nat->Code->Code
 | 0,c=>c
 | k+1,c=>zk8 k (zk7 c)
def zk9:Env:={ ρ:=fun _=>none,sz:=fun _=>0,es:=fun _=>0,base:=#[] }
def zla(P:Program)(f:FuncId):Func:=zaa P.funcs[f]? default fun fn=>fn
def zlb(P:Program)(f:FuncId):Code:=zaa (zla P f).body .skip fun c=>c
def zlc (P : Program) (f : FuncId) : Bool := zaa P.funcs[f]? false fun fn => zaa fn.body false fun c => slotsOk fn.ntmps c && fn.name != "runtime.NumGoroutine"
theorem zld {f : FuncId} (hh : zlc P f = true) : P.funcs[f]? = some (zla P f) ∧ (zla P f).body = some (zlb P f) ∧ slotsOk (zla P f).ntmps (zlb P f) = true ∧ ((zla P f).name == "runtime.NumGoroutine") = false := by
 obtain⟨fn,hf,h1⟩:=zk6 hh;obtain⟨c,hb,h2⟩:=zk6 h1
 have hfn:zla P f=fn:=by unfold zla; rw[hf]; rfl
 have hbd:zlb P f=c:=by unfold zlb; rw[hfn,hb]; rfl
 rw[hbd,hfn];rw[ybL] at h2;refine⟨hf,hb,h2.1,?_⟩;have:=h2.2;rw[bne,Bool.not_eq_true'] at this;exact this
def zle(P:Program)(f:FuncId)(b:Bool):Prop:=∀w n,CallsIn Fence.wide n P f #[] w fun en w'=>en=.returned (.bool b)/\∃e' h',zeB zk9 (zk4 0 []) w e' h' w'
theorem zlf{n b:Nat}{o:AO}(hb:zaj (zk4 n []).t b=some o):False:=by
 have h1:zaj (zk3 []) b=some o:=hb
 cases zk5 h1
def zlg(T:List (Nat × Bool))(f:Nat):Option Bool:=List.rec (motive:=fun _=>Option Bool) none (fun x _ ih=>ifB (Nat.beq x.1 f) (some x.2) ih) T
def tab(T:List (Nat × Bool))(rec:Rec):Rec:=fun t=>zcJ.rec (motive:=fun _=>Run) (fun c=>rec (.loop c))
 (fun f args=>zab args (zaa (zlg T f) (rec (.call f [])) fun b _ h=>.ok (.val (.c (.bool b))) e3 h) fun x xs=>rec (.call f (x::xs))) (fun l args=>rec (.yield l args)) (fun c=>rec (.jump c)) t
def zlh(P:Program)(T:List (Nat × Bool)):Prop:=∀x∈T,zlc P x.1=true/\zle P x.1 x.2
theorem zli:∀{T:List (Nat × Bool)} {f:Nat} {b:Bool},zlg T f=some b->(f,b)∈T
 | [],_,_,hh=>by cases hh
 | x::xs,f,b,hh=>by
  have h0:ifB (Nat.beq x.1 f) (some x.2) (zlg xs f)=some b:=hh
  cases hb:Nat.beq x.1 f with
  | true=>
   rw[hb] at h0;have h1:some x.2=some b:=h0
   cases h1
   rw[<- zgt.1 hb];exact yae ..
  | false=>
   rw[hb] at h0;exact yag _ (zli h0)
theorem zeB.over{e':Env}{h':H}{w':World}(hs:zeB zk9 (zk4 0 []) w e' h' w')(hr:HR e h w):zeB e h w e h w'/\HR e h w':=by
 have hk:∀c,c < w.heap.size->w'.heap[c]? = w.heap[c]?:=fun c hc=>hs.keep c hc fun _ _ hb=>(zlf hb).elim;refine⟨⟨.refl e,yac _,hs.size,hs.tape,hs.os,hs.output,fun c hc _=>hk c hc,fun b o _ hb hc=>.inr ⟨b,o,hb,hc⟩,hs.loops,fun _ _=>rfl⟩,⟨hr.fresh,fun b o hb=>?_,hr.inj,hr.vws.to (.refl e) hs.size (fun c hc=>hk c (yaf hc hr.vws.lim)) hr.vws.own fun _ _ h=>h⟩⟩;obtain⟨cb,h1,co,h2,h3⟩:=hr.live b o hb;exact⟨cb,h1,co,by rw[hk cb (yaG.1 h2).1]; exact h2,h3⟩
theorem zlj{T:List (Nat × Bool)}(ht:zlh P T)(hs:zik P rec):zik P (tab T rec) where
 yield:=fun l args tm h e w cl args' y hr ha hn=>hs.yield l args tm h e w cl args' y hr ha hn
 jump:=fun c tm h e0 h0 w0 N ro a w n i q hi hn=>hs.jump c tm h e0 h0 w0 N ro a w n i q hi hn
 loop:=fun c tm h e0 h0 w0 N ro a w n i q hi hn=>hs.loop c tm h e0 h0 w0 N ro a w n i q hi hn
 call:=fun f args tm h e w args' hr ha hn=>by
  cases args with
  | cons x xs=>exact hs.call f (x::xs) tm h e w args' hr ha hn
  | nil=>
   cases hT:zlg T f with
   | none=>
    have s:tab T rec (.call f []) tm h=rec (.call f []) tm h:=by
     show zaa (zlg T f) (rec (.call f [])) (fun b _ h=>.ok (.val (.c (.bool b))) e3 h) tm h=_
     rw[hT]; rfl
    rw[s] at hn ⊢;exact hs.call f [] tm h e w args' hr ha hn
   | some b=>
    have s:tab T rec (.call f []) tm h=.ok (.val (.c (.bool b))) e3 h:=by
     show zaa (zlg T f) (rec (.call f [])) (fun b _ h=>.ok (.val (.c (.bool b))) e3 h) tm h=_
     rw[hT]; rfl
    rw[s];obtain⟨k1,k2⟩:=ht _ (zli hT);obtain⟨h1,h2,h3,h4⟩:=zld k1
    have u:args' = #[]:=by
     cases ha':args'.toList with
     | nil=>exact Array.toList_eq_nil_iff.1 ha'
     | cons _ _=>rw[ha'] at ha; cases ha
    refine⟨⟨_,h1,by rw[h2]; rfl,h4⟩,fun n=>?_⟩;rw[u];refine CallsIn.mono (k2 w n) fun en w' hp=>?_;obtain⟨rfl,e',h',A⟩:=hp;obtain⟨p1,p2⟩:=A.over hr;exact⟨.c (.bool b),.bool b,e3,e,h,rfl,zhZ.ok _ _ _,p1,p2,rfl⟩
end
end Go.Abs

