/- An evaluator of code, its soundness, and what functions of the program do. Condition: none; a lemma text. -/
import Derived.Test.YtdedachmfbiekaaTaD
import GoSem.Step
import GoSem.ClaimKeys
import Derived.DeepKeys2
import Derived.RangeFuncLeaves
import Derived.OrdersIn
import Derived.Laws.World
import Derived.Laws.Sem
import Derived.RangeFuncRecord
import Derived.Laws.CopyRow
import Derived.Laws.Append
import Derived.Laws.Rows
import Derived.Laws.Slices
import Derived.Laws.Entries
import Derived.ChangeKeysEq
import Derived.IntWalk
import Derived.DeepKeys
import Derived.DeepKeys3
import Derived.Laws.StructEq
import Derived.MapKept
import Derived.Laws.AppendOwn
import Derived.ChangeArms
import Derived.ChangeOld
import Derived.Carry
import Derived.ChangeShapes
import Derived.KernelRfl
import Derived.ProofKit

namespace Go.Abs
noncomputable section
variable {P:Program} {rec rec':Rec}
def Le(rec rec':Rec):Prop:=∀t tm h,zh6 (rec t tm h)->rec' t tm h=rec t tm h
theorem zmB{k k':K}:∀{x:Out},(∀ex tm h,zh5 x ex tm h->k' ex tm h=k ex tm h)->bind x k'=bind x k
 | .fail,_=>rfl
 | .ok ex tm h,hh=>hh _ _ _ (.ok _ _ _)
 | .or a b,hh=>by
  show Out.or (bind a k') (bind b k')=Out.or (bind a k) (bind b k)
  rw[zmB fun ex tm h hl=>hh _ _ _ (.l hl),zmB fun ex tm h hl=>hh _ _ _ (.r hl)]
theorem zmC{x x':Out}{k k':K}(hx:zh6 x->x'=x)(hn:zh6 (bind x k))(hk:∀ex tm h,zh6 (k ex tm h)->k' ex tm h=k ex tm h):bind x' k'=bind x k:=by
 obtain⟨h1,h2⟩:=zia hn;rw[hx h1];exact zmB fun ex tm h hl=>hk _ _ _ (h2 _ _ _ hl)
theorem zmD{α:Type}{o:Option α}{s s':α->Out}(hn:zh6 (orF o s))(hs:∀x,zh6 (s x)->s' x=s x):orF o s'=orF o s:=by
 cases o with
 | none=>rfl
 | some x=>exact hs x hn
theorem zmE{b:Bool}{x x' y y':Out}(hn:zh6 (ifB b x y))(hx:zh6 x->x'=x)(hy:zh6 y->y'=y):ifB b x' y'=ifB b x y:=by
 cases b with
 | true=>exact hx hn
 | false=>exact hy hn
def zmF(r r':Run):Prop:=∀tm h,zh6 (r tm h)->r' tm h=r tm h
def zmG(r r':zdo):Prop:=∀tm h hs rs,zh6 (r tm h hs rs)->r' tm h hs rs=r tm h hs rs
theorem zmH{next next':Run}(hn:zmF next next'){d:Option Nat}{tm:S3 V}:∀{l:List (V × H)},zh6 (zcR next d tm l)->zcR next' d tm l=zcR next d tm l
 | [],_=>rfl
 | [p],h0=>hn _ _ h0
 | p::q::r,h0=>by
  have h1:zh6 (next (zcP tm d p.1) p.2)/\zh6 (zcR next d tm (q::r)):=h0
  show Out.or (next' (zcP tm d p.1) p.2) (zcR next' d tm (q::r))=Out.or (next (zcP tm d p.1) p.2) (zcR next d tm (q::r))
  rw[hn _ _ h1.1,zmH hn h1.2]
theorem zmI(hr:Le rec rec'){next next':Run}(hn:zmF next next'){d:Option Nat}{tm:S3 V}{h:H}{r:R}(h0:zh6 (zcS rec next d tm h r)):zcS rec' next' d tm h r=zcS rec next d tm h r:=by
 have hk:∀ex tm1 h1,zh6 (zcQ next d tm ex tm1 h1)->zcQ next' d tm ex tm1 h1=zcQ next d tm ex tm1 h1:=fun ex tm1 h1 hq=>by
  cases ex with
  | val v=>exact hn _ _ hq
  | _=>exact hq.elim
 cases r with
 | val v h'=>exact hn _ _ h0
 | call f args=>exact zmC (hr _ _ _) h0 hk
 | yield l args=>exact zmC (hr _ _ _) h0 hk
 | alts l=>exact zmH hn h0
theorem zmJ(hr:Le rec rec'){next next':Run}(hn:zmF next next'){ops:List Oper}{o:Oper}:zmF (zcT P rec ops o next) (zcT P rec' ops o next'):=by
 intro tm h h0;unfold zcT at h0 ⊢
 cases hg:o.guard with
 | none=>
  rw[hg] at h0;exact zmD h0 fun x hx=>zmI hr hn hx
 | some g=>
  rw[hg] at h0;exact zmD h0 fun t ht=>zmE ht (fun hq=>zmD hq fun x hx=>zmI hr hn hx) (hn _ _)
theorem zmK(hr:Le rec rec'){ops:List Oper}:∀{l:List Oper},zmF (zcU P rec ops l) (zcU P rec' ops l)
 | []=>fun _ _ _=>rfl
 | _::_=>zmJ hr (zmK hr)
theorem zmL{next next':zdo}(hn:zmG next next'){d:DI}{tm:S3 V}{h:H}{hs:List (Nat × H)}{rs:List RE}{v:V}{h':H}(h0:zh6 (zdp P next d tm h hs rs v h')):zdp P next' d tm h hs rs v h'=zdp P next d tm h hs rs v h':=
 zmE h0 (hn _ _ _ _) fun h=>h.elim
theorem zmM(hr:Le rec rec'){next next':zdo}(hn:zmG next next'){d:DI}{tm:S3 V}{h:H}{hs:List (Nat × H)}{rs:List RE}{r:R}(h0:zh6 (onD P rec next d tm h hs rs r)):onD P rec' next' d tm h hs rs r=onD P rec next d tm h hs rs r:=by
 have hk:∀ex tm1 h1,zh6 (zdr P next d tm h hs rs ex tm1 h1)->zdr P next' d tm h hs rs ex tm1 h1=zdr P next d tm h hs rs ex tm1 h1:=fun ex tm1 h1 hq=>by
  unfold zdr at hq ⊢
  cases ex with
  | val v=>
   have hq':zh6 (zac d.cls .fail fun c=>zac c .fail fun _=>zdp P next d tm h hs rs v h1):=hq;generalize hc:d.cls=c at hq' ⊢
   match c,hq' with
   | 0,hq=>exact hq.elim
   | 1,hq=>exact hq.elim
   | _+2,hq=>exact zmL hn hq
  | _=>exact hq.elim
 cases r with
 | val v h'=>
  show zdq P next' d tm h hs rs v h'=zdq P next d tm h hs rs v h'
  have hq:zh6 (zdq P next d tm h hs rs v h'):=h0;unfold zdq at hq ⊢;generalize hc:d.cls=c at hq ⊢
  match c,hq with
  | 0,hq=>exact hn _ _ _ _ hq
  | 1,hq=>exact zmE hq (hn _ _ _ _) fun h=>h.elim
  | _+2,hq=>exact zmL hn hq
 | call f args=>exact zmC (hr _ _ _) h0 hk
 | yield l args=>exact zmC (hr _ _ _) h0 hk
 | alts l=>exact h0.elim
theorem zmN(hr:Le rec rec'){next next':zdo}(hn:zmG next next'){ops:List Oper}{d:DI}:zmG (zdu P rec ops d next) (zdu P rec' ops d next'):=by
 intro tm h hs rs h0;unfold zdu at h0 ⊢
 cases hg:d.o.guard with
 | none=>
  rw[hg] at h0;exact zmD h0 fun x hx=>zmM hr hn hx
 | some g=>
  rw[hg] at h0;refine zmD h0 fun t ht=>zmE ht (fun hq=>zmD hq fun x hx=>zmM hr hn hx) fun hq=>?_;unfold zds at hq ⊢;generalize hc:d.cls=c at hq ⊢
  match c,hq with
  | 0,hq=>exact hn _ _ _ _ hq
  | 1,hq=>exact hn _ _ _ _ hq
  | _+2,hq=>exact zmL hn hq
theorem zmO(hr:Le rec rec'){next next':zdo}(hn:zmG next next'){ops:List Oper}{b:Nat}{d:DI}:zmG (zdw P rec ops b d next) (zdw P rec' ops b d next'):=by
 intro tm h hs rs h0;unfold zdw at h0 ⊢
 cases hf:d.flt with
 | none=>
  rw[hf] at h0;exact zmN hr hn _ _ _ _ h0
 | some k=>
  rw[hf] at h0
  have hx:zh6 (zdv P b d k next tm h hs rs)->zdv P b d k next' tm h hs rs=zdv P b d k next tm h hs rs:=fun hq=>zmD hq fun p hp=>zmL hn hp
  cases hg:d.o.guard with
  | none=>rw[hg] at h0; exact hx h0
  | some g=>
   rw[hg] at h0;exact zmD h0 fun t ht=>zmE ht hx fun hq=>zmL hn hq
theorem zmP(hr:Le rec rec'){ops:List Oper}{b:Nat}:∀{l:List DI},zmG (zdx P rec ops b l) (zdx P rec' ops b l)
 | []=>fun _ _ _ _ _=>rfl
 | _::_=>zmO hr (zmP hr)
theorem zmQ(hr:Le rec rec'){ops:Array Oper}{draw:Bool}:zmF (zdA P rec ops draw) (zdA P rec' ops draw):=fun _tm _h h0=>
 zmE h0 (fun hq=>zmD hq fun _l hl=>zmP hr _ _ _ _ hl) (zmK hr _ _)
theorem zmR{h:H}{b:Nat}{s s':LoopState->Option Code->FuncId->S3 V->List Nat->Code->Code->Out}(hn:zh6 (za5 h b .fail s))(hs:∀st p f t ps a c,zh6 (s st p f t ps a c)->s' st p f t ps a c=s st p f t ps a c):za5 h b .fail s'=za5 h b .fail s:=by
 unfold za5 at hn ⊢
 cases hg:zaj h.t b with
 | none=>rfl
 | some o=>
  rw[hg] at hn
  cases o with
  | loop st p f t ps a c=>exact hs _ _ _ _ _ _ _ hn
  | _=>rfl
theorem zmS(hr:Le rec rec'){ps:List Nat}{asn bd:Code}{tm:S3 V}{h:H}{v:V}(h0:zh6 (zdM rec ps asn bd tm h v)):zdM rec' ps asn bd tm h v=zdM rec ps asn bd tm h v:=by
 unfold zdM at h0 ⊢
 cases v with
 | c x=>
  cases x with
  | fn f a b=>
   refine zmD h0 fun r hq=>?_
   cases r with
   | call g args=>
    refine zmC (hr _ _ _) hq fun ex tm1 h1 hk=>?_
    cases ex with
    | val v=>
     refine zmR hk fun st p f t ps a c hs=>?_
     cases st <;> first | rfl | exact hs.elim
    | _=>exact hk.elim
   | _=>exact hq.elim
  | _=>exact h0.elim
 | _=>exact h0.elim
theorem zmT(hr:Le rec rec'):∀(c:Code),zmF (zdN P rec c) (zdN P rec' c):=by
 intro c
 induction c with
 | region id ops draw=>exact zmQ hr
 | seq a b iha ihb=>
  intro tm h h0;refine zmC (iha tm h) h0 fun ex tm1 h1 hk=>?_
  cases ex with
  | nrm=>exact ihb _ _ hk
  | val v=>exact hk.elim
  | _=>rfl
 | cond x a b iha ihb=>
  intro tm h h0;refine zmD h0 fun v hv=>?_
  cases v with
  | c y=>
   cases y with
   | bool t=>exact zmE hv (iha _ _) (ihb _ _)
   | _=>exact hv.elim
  | _=>exact hv.elim
 | block id b ih=>
  intro tm h h0;exact zmC (ih tm h) h0 fun ex tm1 h1 hk=>rfl
 | loop b ih=>
  intro tm h h0;refine zmC (ih _ h) h0 fun ex tm1 h1 hk=>?_
  cases ex with
  | nrm=>exact hr _ _ _ hk
  | val v=>exact hk.elim
  | _=>rfl
 | rangeFunc f ps a b _ _=>exact fun tm h h0=>zmD h0 fun v hv=>zmS hr hv
 | scope b ih=>exact ih
 | _=>exact fun _ _ _=>rfl
theorem zmU{x x':Out}(hx:zh6 x->x'=x)(hn:zh6 (zdX x)):zdX x'=zdX x:=by rw[hx (zkM hn)]
theorem zmV(hr:Le rec rec'){args:List V}{h:H}{fn:Option Func}(h0:zh6 (zdZ P rec args h fn)):zdZ P rec' args h fn=zdZ P rec args h fn:=by
 refine zmD h0 fun fn hq=>zmD hq fun c hc=>zmE hc (fun hd=>zmE hd (fun he=>?_) fun h=>h.elim) fun h=>h.elim;exact zmU (fun hm=>zmC (zmT hr _ _ _) hm fun _ _ _ _=>rfl) he
theorem zmW(hr:Le rec rec'){l:Nat}{args:List V}{h:H}(h0:zh6 (zd2 P rec l args h)):zd2 P rec' l args h=zd2 P rec l args h:=by
 refine zmR h0 fun st p f t ps a c hs=>?_
 cases st with
 | ready=>
  refine zmD hs fun tm' hq=>zmC (zmT hr _ _ _) hq fun ex tm1 h1 hk=>?_
  cases ex with
  | nrm=>
   refine zmR hk fun st p f t ps a c hs=>?_
   cases st with
   | ready=>exact zmC (zmT hr _ _ _) hs fun _ _ _ _=>rfl
   | _=>exact hs.elim
  | _=>exact hk.elim
 | _=>exact hs.elim
theorem zmX(hr:Le rec rec'):Le (step P rec) (step P rec'):=by
 intro t tm h h0
 cases t with
 | loop c=>
  refine zmC (zmT hr _ _ _) h0 fun ex tm1 h1 hk=>?_
  cases ex with
  | nrm=>exact hr _ _ _ hk
  | val v=>exact hk.elim
  | _=>rfl
 | call f args=>exact zmV hr h0
 | yield l args=>exact zmW hr h0
 | jump c=>exact zmT hr _ _ _ h0
theorem zmY{T:List (Nat × Bool)}(hr:Le rec rec'):Le (tab T rec) (tab T rec'):=by
 intro t tm h h0
 cases t with
 | call f args=>
  cases args with
  | nil=>
   show zaa (zlA T f) (rec' (.call f [])) (fun b _ h=>.ok (.val (.c (.bool b))) e3 h) tm h=zaa (zlA T f) (rec (.call f [])) (fun b _ h=>.ok (.val (.c (.bool b))) e3 h) tm h
   have h1:zh6 (zaa (zlA T f) (rec (.call f [])) (fun b _ h=>.ok (.val (.c (.bool b))) e3 h) tm h):=h0
   cases hT:zlA T f with
   | none=>rw[hT] at h1; exact hr _ _ _ h1
   | some b=>rfl
  | cons x xs=>exact hr _ _ _ h0
 | _=>exact hr _ _ _ h0
def evT(P:Program)(T:List (Nat × Bool))(n:Nat):Rec:=Nat.rec (motive:=fun _=>Rec) (fun _ _ _=>.fail) (fun _ rec=>tab T (step P rec)) n
theorem zmZ{T:List (Nat × Bool)}:∀n,Le (evT P T n) (evT P T (n+1))
 | 0=>fun _ _ _ h0=>h0.elim
 | n+1=>zmY (zmX (zmZ n))
theorem Le.trans{r1 r2 r3:Rec}(h:Le r1 r2)(h':Le r2 r3):Le r1 r3:=fun t tm m hn=>by
 have h1:=h t tm m hn;rw[h' t tm m (by rw[h1]; exact hn),h1]
theorem zm0{T:List (Nat × Bool)}{n m:Nat}(hnm:n<=m):Le (evT P T n) (evT P T m):=by
 induction hnm with
 | refl=>exact fun _ _ _ _=>rfl
 | step _ ih=>exact ih.trans (zmZ _)
theorem zm1(hP:zgE P){T:List (Nat × Bool)}(hT:zlB P T):∀k,zir P (evT P T k)
 | 0=>⟨fun _ _ _ _ _ _ _ _ _ hn=>hn.elim,fun _ _ _ _ _ _ _ _ _ _ _ hn=>hn.elim,fun _ _ _ _ _ _ _ _ _ _ _ _ _ _ hn=>hn.elim,fun _ _ _ _ _ _ _ _ _ _ _ _ _ _ hn=>hn.elim⟩
 | k+1=>zlD hT (zk8 hP (zm1 hP hT k))
structure M where
 nxt:Nat
 g:Nat->Option AO
 vw:Nat->Option (Nat × List C)
def toH(m:M):H:={ nxt:=m.nxt,t:=.f m.g,vw:=m.vw }
def M.set(m:M)(b:Nat)(o:AO):M:={ nxt:=m.nxt,g:=fun j=>if j=b then some o else m.g j,vw:=m.vw }
def M.new(m:M)(o:AO):M:={ nxt:=m.nxt+1,g:=fun j=>if j=m.nxt then some o else m.g j,vw:=m.vw }
def M.del(m:M)(b:Nat):M:={ nxt:=m.nxt,g:=fun j=>if j=b then none else m.g j,vw:=m.vw }
theorem zm2{α:Type}(g:Nat->Option α)(k:Nat)(x:L α):zal (.f g) k x=.f fun j=>ifB (Nat.beq j k) (atL k x) (g j):=rfl
theorem zm3{α:Type}(j k:Nat)(x y:α):ifB (Nat.beq j k) x y=if j=k then x else y:=by
 by_cases h:j=k
 ·rw[if_pos h,h,Nat.beq_refl]; rfl
 ·rw[if_neg h]
  cases hb:Nat.beq j k with
  | true=>exact absurd (Nat.eq_of_beq_eq_true hb) h
  | false=>rfl
theorem zm4(m:M)(b:Nat)(o:AO):za0 (toH m) b o=toH (m.set b o):=by
 show({ nxt:=m.nxt,t:=zal (.f m.g) b (.x b o),vw:=m.vw }:H)=_
 rw[zm2]
 have:(fun j=>ifB (Nat.beq j b) (atL b (L.x b o)) (m.g j))=(m.set b o).g:=by
  funext j
  rw[zm3]
  show(if j=b then ifB (Nat.beq b b) (some o) none else m.g j)=_
  rw[Nat.beq_refl]; rfl
 rw[this]; rfl
theorem zm5(m:M)(o:AO):zaZ (toH m) o=toH (m.new o):=by
 have:=congrArg H.t (zm4 m m.nxt o)
 show({ nxt:=Nat.succ m.nxt,t:=zam (toH m).t m.nxt o,vw:=m.vw }:H)=_
 rw[show zam (toH m).t m.nxt o=(za0 (toH m) m.nxt o).t from rfl,this]; rfl
theorem zm6(m:M)(b:Nat):za1 (toH m) b=toH (m.del b):=by
 show({ nxt:=m.nxt,t:=zal (.f m.g) b .e,vw:=m.vw }:H)=_
 rw[zm2]
 have:(fun j=>ifB (Nat.beq j b) (atL b (L.e:L AO)) (m.g j))=(m.del b).g:=by
  funext j
  rw[zm3]; rfl
 rw[this]; rfl
theorem zm7(m:M)(b:Nat):zaj (toH m).t b=m.g b:=rfl
abbrev zm8:=Ex->S3 V->M->Prop
def hM:Out->zm8->Prop
 | .fail,_=>False
 | .ok ex tm h,Q=>∃m,h=toH m/\Q ex tm m
 | .or a b,Q=>hM a Q/\hM b Q
theorem zm9:∀{o:Out} {Q Q':zm8},hM o Q->(∀ex tm m,Q ex tm m->Q' ex tm m)->hM o Q'
 | .fail,_,_,h,_=>h
 | .ok _ _ _,_,_,⟨m,h1,h2⟩,hq=>⟨m,h1,hq _ _ _ h2⟩
 | .or _ _,_,_,⟨h1,h2⟩,hq=>⟨zm9 h1 hq,zm9 h2 hq⟩
theorem zna{ex:Ex}{tm:S3 V}{m:M}{Q:zm8}(h:Q ex tm m):hM (.ok ex tm (toH m)) Q:=⟨m,rfl,h⟩
theorem znb:∀{o:Out} {Q:zm8},hM o Q->zh6 o
 | .fail,_,h=>h
 | .ok _ _ _,_,_=>trivial
 | .or _ _,_,⟨h1,h2⟩=>⟨znb h1,znb h2⟩
theorem znc:∀{o:Out} {Q:zm8},hM o Q->∀{ex:Ex} {tm:S3 V} {h:H},zh5 o ex tm h->∃m,h=toH m/\Q ex tm m
 | .ok _ _ _,_,h,_,_,_,hl=>by obtain⟨rfl,rfl,rfl⟩:=zh7 hl; exact h
 | .or _ _,_,⟨h1,h2⟩,_,_,_,hl=>(zh8 hl).elim (znc h1) (znc h2)
theorem znd:∀{o:Out} {Q:zm8},hM o Q->∀{A:Ex->S3 V->H->Prop},(∀ex tm h,zh5 o ex tm h->A ex tm h)->hM o fun ex tm m=>Q ex tm m/\A ex tm (toH m)
 | .fail,_,h,_,_=>h
 | .ok _ _ _,_,⟨m,h1,h2⟩,_,ha=>⟨m,h1,h2,by rw[<- h1]; exact ha _ _ _ (.ok _ _ _)⟩
 | .or _ _,_,⟨h1,h2⟩,_,ha=>⟨znd h1 fun _ _ _ hl=>ha _ _ _ (.l hl),znd h2 fun _ _ _ hl=>ha _ _ _ (.r hl)⟩
theorem zne{o o':Out}{Q:zm8}(hle:zh6 o->o'=o)(h:hM o Q):hM o' Q:=by rw[hle (znb h)]; exact h
def KLe(k k':K):Prop:=∀ex tm h,zh6 (k ex tm h)->k' ex tm h=k ex tm h
theorem znf{Kf:Nat->K}(hup:∀k k',k<=k'->KLe (Kf k) (Kf k')):∀{x:Out} {Q1 Q:zm8},hM x Q1->(∀ex tm m,Q1 ex tm m->∃k,hM (Kf k ex tm (toH m)) Q)->∃k,hM (bind x (Kf k)) Q
 | .fail,_,_,h,_=>h.elim
 | .ok _ _ _,_,_,⟨_,h1,h2⟩,hk=>by subst h1; exact hk _ _ _ h2
 | .or a b,_,_,⟨h1,h2⟩,hk=>by
  obtain⟨k1,q1⟩:=znf hup h1 hk;obtain⟨k2,q2⟩:=znf hup h2 hk;refine⟨max k1 k2,?_,?_⟩
  ·exact zne (fun hn=>zmC (x:=a) (fun _=>rfl) hn (hup _ _ (Nat.le_max_left k1 k2))) q1
  ·exact zne (fun hn=>zmC (x:=b) (fun _=>rfl) hn (hup _ _ (Nat.le_max_right k1 k2))) q2
theorem zng{X:Nat->Out}(hX:∀k k',k<=k'->zh6 (X k)->X k'=X k){Kf:Nat->K}(hup:∀k k',k<=k'->KLe (Kf k) (Kf k')){Q1 Q:zm8}(h:∃k,hM (X k) Q1)(hk:∀ex tm m,Q1 ex tm m->∃k,hM (Kf k ex tm (toH m)) Q):∃k,hM (bind (X k) (Kf k)) Q:=by
 obtain⟨k1,h1⟩:=h;obtain⟨k2,h2⟩:=znf hup h1 hk;refine⟨max k1 k2,zne (fun hn=>?_) h2⟩;exact zmC (hX _ _ (Nat.le_max_left k1 k2)) hn (hup _ _ (Nat.le_max_right k1 k2))
def Sc(P:Program)(T:List (Nat × Bool))(c:Code)(tm:S3 V)(m:M)(Q:zm8):Prop:=∃k,hM (zdN P (evT P T k) c tm (toH m)) Q
def Wt(P:Program)(T:List (Nat × Bool))(t:zcM)(tm:S3 V)(m:M)(Q:zm8):Prop:=∃k,hM (evT P T k t tm (toH m)) Q
def znh(Q:V->M->Prop):zm8:=fun ex _ m=>exB ex False (fun _=>False) False fun v=>Q v m
def Wc(P:Program)(T:List (Nat × Bool))(f:FuncId)(args:List V)(m:M)(Q:V->M->Prop):Prop:=Wt P T (.call f args) e3 m (znh Q)
def Wy(P:Program)(T:List (Nat × Bool))(l:Nat)(args:List V)(m:M)(Q:V->M->Prop):Prop:=Wt P T (.yield l args) e3 m (znh Q)
theorem zni{Q Q':V->M->Prop}(hq:∀v m,Q v m->Q' v m){ex:Ex}{tm:S3 V}{m:M}(h:znh Q ex tm m):znh Q' ex tm m:=by
 cases ex with
 | val v=>exact hq _ _ h
 | _=>exact h.elim
theorem Wc.mono{T:List (Nat × Bool)}{f:FuncId}{args:List V}{m:M}{Q Q':V->M->Prop}(h:Wc P T f args m Q)(hq:∀v m',Q v m'->Q' v m'):Wc P T f args m Q':=h.elim fun k hk=>⟨k,zm9 hk fun _ _ _=>zni hq⟩
theorem Wy.mono{T:List (Nat × Bool)}{l:Nat}{args:List V}{m:M}{Q Q':V->M->Prop}(h:Wy P T l args m Q)(hq:∀v m',Q v m'->Q' v m'):Wy P T l args m Q':=h.elim fun k hk=>⟨k,zm9 hk fun _ _ _=>zni hq⟩
end
end Go.Abs

namespace Go.Abs
noncomputable section
def orP{α:Type}(o:Option α)(s:α->Prop):Prop:=zaa o False s
def vC1(v:V)(s:C->Prop):Prop:=V.rec (motive:=fun _=>Prop) s (fun _ _=>False) (fun _=>False) v
def znj(k:IntKind)(n:Int):Prop:=IntKind.rec (motive:=fun _=>Prop)
 (-128<=n/\n < 128) (-32768<=n/\n < 32768) (-2147483648<=n/\n < 2147483648) (-9223372036854775808<=n/\n < 9223372036854775808)
 (0<=n/\n < 256) (0<=n/\n < 65536) (0<=n/\n < 4294967296) (0<=n/\n < 18446744073709551616) k
def isSl(c:C):Prop:=match c with | .sl0=>True | .sl ..=>True | _=>False
def slLen(c:C):Nat:=match c with | .sl _ _ n _ _=>n | _=>0
def isPt(c:C):Prop:=match c with | .ptr ..=>True | _=>False
def znk(c:C)(d:Nat):C:=match c with | .ptr b o=>.ptr b (o+d) | c=>c
def znl(c:C)(d:Nat):C:=match c with | .sl b o _ _ _=>.ptr b (o+d) | c=>c
def znm(c:C):Bool:=match c with | .ptr0=>true | .sl0=>true | .map0=>true | .nilFn=>true | _=>false
def znn(c:C):Prop:=match c with | .ptr ..=>True | .fn (.func _) _ _=>True | _=>False
def zno(k:IntKind)(n:Int):Int:=ifB (fits k n) n (k.wrap n)
def ldC(m:M)(x:C):Option C:=match x with
 | .ptr b o=>rdC (toH m) b o
 | _=>none
def ldA(m:M)(x:C)(n:Nat):Option (List C):=match x with
 | .ptr b o=>rdA (toH m) b o n
 | _=>none
def stC(m:M)(x:C)(n:Nat)(new:List C):Option M:=match x with
 | .ptr b o=>match m.g b with
  | some (.cells n' vs opn)=>ifB (Nat.beq n' n) (ifB (Nat.beq o 0) (some (m.set b (.cells n' new opn))) none) (zaa (zaH o new vs) none fun vs'=>some (m.set b (.cells n' vs' opn)))
  | _=>none
 | _=>none
def znp(m:M)(o:AO)(K:M->Prop):Prop:=∀m',m'=m.new o->K m'
def subC(sz:Nat)(x:C)(l k:Nat):Option C:=match x with
 | .sl0=>ifB (Nat.beq l 0) (ifB (Nat.beq k 0) (some .sl0) none) none
 | .sl b o n s c=>ifB (Nat.ble l k)
   (zaa c (ifB (Nat.ble k n) (ifB (Nat.beq s sz) (some (.sl b (Nat.add o (Nat.mul l s)) (Nat.sub k l) s none)) none) none)
    fun c=>ifB (Nat.ble k c) (some (.sl b (ifB (Nat.beq c l) o (Nat.add o (Nat.mul l sz))) (Nat.sub k l) 0 (some (Nat.sub c l)))) none) none
 | _=>none
def arC(sz n:Nat)(x:C)(l k:Nat):Option C:=match x with
 | .ptr b o=>ifB (Nat.ble l k) (ifB (Nat.ble k n) (some (.sl b (ifB (Nat.beq n l) o (Nat.add o (Nat.mul l sz))) (Nat.sub k l) 0 (some (Nat.sub n l)))) none) none
 | _=>none
def lkM(P:Program)(kt:TypeId)(m:M)(x:C)(k:V):Option (Option U):=
 zaa (zbb P kt) none fun _=>zaa (eqV P kt k k) none fun _=>match x with
  | .map0=>some none
  | .map r=>match m.g r with
   | some (.map es _)=>zaa (zcd P kt k es 0) none fun f=>some (zaa f none fun q=>some q.2)
   | _=>none
  | _=>none
def upM(P:Program)(kt:TypeId)(m:M)(x:C)(k y:V):Option M:=
 zaa (zbb P kt) none fun _=>match x with
  | .map r=>match m.g r with
   | some (.map es clock)=>zaa (vU k) none fun ku=>zaa (vU y) none fun yu=>zaa (eqV P kt k k) none fun _=>zaa (zcd P kt k es 0) none fun f=>
    some (zaa f (m.set r (.map (appS es [{ k:=ku,v:=yu,born:=clock }]) (Nat.succ clock))) fun q=>m.set r (.map (zce ku yu es q.1) clock))
   | _=>none
  | _=>none
def znq(P:Program)(kt:TypeId)(m:M)(x:C)(k:V)(z:U):Option ((U × Nat) × M):=
 zaa (zbb P kt) none fun _=>match x with
  | .map r=>match m.g r with
   | some (.map es clock)=>zaa (vU k) none fun ku=>zaa (eqV P kt k k) none fun _=>zaa (zcd P kt k es 0) none fun f=>
    zaa f (some ((z,clock),m.set r (.map (appS es [{ k:=ku,v:=z,born:=clock }]) (Nat.succ clock)))) fun q=>zaa (atS es q.1) none fun e=>some ((q.2,e.born),m.set r (.map (zce ku e.v es q.1) clock))
   | _=>none
  | _=>none
def esM(m:M)(x:C)(n:Nat)(y:V):Option M:=match x with
 | .map r=>match m.g r with
  | some (.map es clock)=>zaa (vU y) none fun yu=>zaa (zck n yu es) none fun es'=>some (m.set r (.map es' clock))
  | _=>none
 | _=>none
def lnM(m:M)(x:C):Option Nat:=match x with
 | .map0=>some 0
 | .map r=>match m.g r with | some (.map es _)=>some es.length | _=>none
 | _=>none
def znr(m:M)(x:C):Option AO:=match x with
 | .map0=>some (.iter none 0 [] 0)
 | .map r=>match m.g r with | some (.map _ clock)=>some (.iter (some r) clock [] clock) | _=>none
 | _=>none
def nxM(m:M)(x:C):Option (List ((U × U) × M)):=match x with
 | .ptr b o=>ifB (Nat.beq o 0) (match m.g b with
  | some (.iter none _ _ _)=>some []
  | some (.iter (some r) since seen last)=>match m.g r with
   | some (.map es clock)=>ifB (zab seen true fun _ _=>zab es true fun _ _=>zaM (fun e:E=>ltN e.born last) es)
     (ifB (zaM (fun e:E=>ifB (zaK e.born seen) false (ifB (ltN e.born since) false true)) es) none
      (some (zbZ (fun e:E=>((e.k,e.v),m.set b (.iter (some r) since (e.born::seen) clock))) (zaN (fun e:E=>ifB (zaK e.born seen) false true) es)))) none
   | _=>none
  | _=>none) none
 | _=>none
def InL(k y:U)(m':M)(l:List ((U × U) × M)):Prop:=((k,y),m')∈l
def zns(n:Nat)(es:List E):Option (U × U):=List.rec (motive:=fun _=>Option (U × U)) none (fun e _ ih=>ifB (Nat.beq e.born n) (some (e.k,e.v)) ih) es
def enM(m:M)(x:C):Option (U × U):=match x with
 | .ptr b o=>ifB (Nat.beq o 0) (match m.g b with
  | some (.iter (some r) _ (stamp::_) last)=>match m.g r with
   | some (.map es clock)=>ifB (Nat.beq clock last) (zns stamp es) none
   | _=>none
  | _=>none) none
 | _=>none
def ApR(P:Program)(t:TypeId)(m:M)(s x:C)(c:C)(m':M):Prop:=zcx P (toH m) t (.c s) (.c x)=some (.val (.c c) (toH m'))
def CpR(P:Program)(t:TypeId)(m:M)(d s:C)(n:Int)(m':M):Prop:=zcy P (toH m) t (.c d) (.c s)=some (.val (.c (.int .i64 n)) (toH m'))
inductive SK where
 | bool | int (k:IntKind) | cell
def exC(k:SK)(K:C->Prop):Prop:=SK.rec (motive:=fun _=>Prop) (∃b,K (.bool b)) (fun k=>∃n,K (.int k n)) (∃c,K c) k
def exL(ks:List SK):(List C->Prop)->Prop:=List.rec (motive:=fun _=>(List C->Prop)->Prop) (fun K=>K []) (fun k _ ih K=>exC k fun c=>ih fun l=>K (c::l)) ks
def znt(P:Program)(t:TypeId):SK:=TK.rec (motive:=fun _=>SK) .bool .int .cell (fun _=>.cell) (fun _=>.cell) (fun _ _=>.cell) (fun _ _=>.cell) (fun _=>.cell) .cell .cell (tk P t)
def znu(P:Program):Nat->TypeId->List SK
 | 0,_=>[]
 | d+1,t=>match tk P t with
  | .arr n e=>(List.replicate n (znu P d e)).flatten
  | .st fs=>(fs.map fun f=>znu P d f.type).flatten
  | _=>[znt P t]
def few(P:Program)(t:TypeId):Bool:=Nat.ble (P.cellsOf t) 32
def exA(P:Program)(t:TypeId)(K:List C->Prop):Prop:=ifB (few P t) (exL (znu P 9 t) K) (∃l,K l)
def exU(P:Program)(t:TypeId)(K:U->Prop):Prop:=ifB (za9 P t) (exA P t fun l=>K (.agg (P.cellsOf t) l)) (exC (znt P t) fun c=>K (.c c))
def znv(P:Program)(ts:List TypeId):(List U->Prop)->Prop:=List.rec (motive:=fun _=>(List U->Prop)->Prop) (fun K=>K []) (fun t _ ih K=>exU P t fun u=>ih fun l=>K (u::l)) ts
def znw(P:Program)(t:TypeId):Option (List TypeId):=match P.underlying t with | some (.tuple es)=>some es.toList | _=>none
def exV(P:Program)(t:TypeId)(K:V->Prop):Prop:=zaa (znw P t) (exU P t fun u=>K (uV u)) fun es=>znv P es fun l=>K (.tup l)
def znx(P:Program)(t:TypeId)(K:V->M->Prop):V->M->Prop:=fun v m=>exV P t fun x=>v=x/\K x m
def zny(P:Program)(t:TypeId)(cs:List C)(off:Nat)(K:V->Prop):Prop:=
 ifB (zba P t) (ifB (za9 P t) (exA P t fun l=>seg cs off (P.cellsOf t)=some l/\K (.agg (P.cellsOf t) l)) (exC (znt P t) fun c=>atS cs off=some c/\K (.c c))) False
def znz(op:BinOp)(a b:Int):Bool:=BinOp.rec (motive:=fun _=>Bool) false false false false false false false false false false false
 (decide (a=b)) (!decide (a=b)) (decide (a < b)) (decide (a<=b)) (decide (b < a)) (decide (b<=a)) op
def znA(k:IntKind)(a b r:Int)(K:C->Prop):Prop:=0<=a/\0<=b/\znj k a/\znj k b/\znj k r/\K (.int k r)
def shP(k:IntKind)(a b r:Int)(K:C->Prop):Prop:=0<=a/\0<=b/\b<=k.bits/\znj k r/\K (.int k r)
def znB(op:BinOp)(k:IntKind)(a b:Int)(K:C->Prop):Prop:=BinOp.rec (motive:=fun _=>Prop)
 (znj k (a+b)/\K (.int k (a+b))) (znj k (a - b)/\K (.int k (a - b))) (0<=a/\0<=b/\znj k (a * b)/\K (.int k (a * b)))
 (0<=a/\0 < b/\znj k (a / b)/\K (.int k (a / b))) (0<=a/\0 < b/\znj k (a % b)/\K (.int k (a % b)))
 (znA k a b (Int.ofNat (Nat.land a.toNat b.toNat)) K) (znA k a b (Int.ofNat (Nat.lor a.toNat b.toNat)) K) (znA k a b (Int.ofNat (Nat.xor a.toNat b.toNat)) K)
 False False (znA k a b (Int.ofNat (Nat.xor a.toNat (Nat.land a.toNat b.toNat))) K)
 (K (.bool (znz op a b))) (K (.bool (znz op a b))) (K (.bool (znz op a b))) (K (.bool (znz op a b))) (K (.bool (znz op a b))) (K (.bool (znz op a b))) op
def znC(op:BinOp)(k:IntKind)(a:Int)(k':IntKind)(b:Int)(K:C->Prop):Prop:=
 zbq op (ifB (zaQ k k') (znB op k a b K) False) (shP k a b (a * 2 ^ b.toNat) K) (shP k a b (a / 2 ^ b.toNat) K)
def okE(k:CK)(a b:C)(X:Prop):Prop:=CK.rec (motive:=fun _=>Prop) (zav (.c a) False fun _=>zav (.c b) False fun _=>X)
 (fun q=>zat (.c a) False fun p x=>zat (.c b) False fun p' y=>ifB (zaQ q p) (ifB (zaQ q p') (znj q x/\znj q y/\X) False) False) False k
def znD(k:CK)(a b:C):Bool:=CK.rec (motive:=fun _=>Bool) (zav (.c a) false fun x=>zav (.c b) false fun y=>x == y)
 (fun _=>zat (.c a) false fun _ x=>zat (.c b) false fun _ y=>decide (x=y)) false k
def znE(ks:List CK):List C->List C->(Bool->Prop)->Prop:=
 List.rec (motive:=fun _=>List C->List C->(Bool->Prop)->Prop) (fun xs ys K=>zab xs (zab ys (K true) fun _ _=>False) fun _ _=>False)
  (fun k ks ih xs ys K=>zab xs False fun x xs=>zab ys False fun y ys=>okE k x y (zab ks (zab xs (zab ys (K (znD k x y)) fun _ _=>False) fun _ _=>False) fun _ _=>ih xs ys fun r=>K (znD k x y && r))) ks
def okN(k:TK)(c:C):Prop:=TK.rec (motive:=fun _=>Prop) False (fun _=>False) False
 (fun _=>C.rec (motive:=fun _=>Prop) (fun _=>False) (fun _ _=>False) (fun _=>False) True (fun _ _=>True) False (fun _ _ _ _ _=>False) False (fun _=>False) (fun _ _ _=>False) False False c)
 (fun _=>C.rec (motive:=fun _=>Prop) (fun _=>False) (fun _ _=>False) (fun _=>False) False (fun _ _=>False) True (fun _ _ _ _ _=>True) False (fun _=>False) (fun _ _ _=>False) False False c)
 (fun _ _=>False)
 (fun _ _=>C.rec (motive:=fun _=>Prop) (fun _=>False) (fun _ _=>False) (fun _=>False) False (fun _ _=>False) False (fun _ _ _ _ _=>False) True (fun _=>True) (fun _ _ _=>False) False False c)
 (fun _=>False)
 (C.rec (motive:=fun _=>Prop) (fun _=>False) (fun _ _=>False) (fun _=>False) False (fun _ _=>False) False (fun _ _ _ _ _=>False) False (fun _=>False) (fun _ _ _=>True) True False c)
 False k
def eqP(P:Program)(t:TypeId)(x y:V)(K:Bool->Prop):Prop:=
 zaa (zbb P t) (vC1 x fun a=>vC1 y fun b=>okN (tk P t) a/\okN (tk P t) b/\(znm a || znm b)=true/\K (znm a && znm b))
  fun ks=>ifB (few P t) (orP (zbz P t x) fun xs=>orP (zbz P t y) fun ys=>znE ks xs ys K) (∃r,eqV P t x y=some r/\K r)
def eqQ(P:Program)(op:BinOp)(t:TypeId)(x y:V)(K:C->Prop):Prop:=zbA op False (eqP P t x y fun b=>K (.bool b)) (eqP P t x y fun b=>K (.bool (!b)))
def znF(P:Program)(op:BinOp)(t:TypeId)(x y:V)(K:C->Prop):Prop:=vC1 x fun a=>okN (tk P t) a/\eqQ P op t x y K
def znG(P:Program)(op:BinOp)(t:TypeId)(x y:V)(K:C->Prop):Prop:=
 TK.rec (motive:=fun _=>Prop) (zav x False fun _=>eqQ P op t x y K) (fun _=>zat x False fun k a=>zat y False fun k' b=>znC op k a k' b K) False (fun _=>znF P op t x y K) (fun _=>znF P op t x y K)
  (fun _ _=>zaz x False fun _ _=>eqQ P op t x y K) (fun _ _=>znF P op t x y K) (fun _=>zaz x False fun _ _=>eqQ P op t x y K) (znF P op t x y K) False (tk P t)
def znH(op:UnOp)(x:V)(K:C->Prop):Prop:=
 UnOp.rec (motive:=fun _=>Prop) (zat x False fun k n=>znj k (0 - n)/\K (.int k (0 - n))) False (zav x False fun b=>K (.bool (!b))) False op
def znI(P:Program)(src dst:TypeId)(x:V)(K:V->Prop):Prop:=
 TK.rec (motive:=fun _=>Prop) False (fun _=>TK.rec (motive:=fun _=>Prop) False (fun k=>zat x False fun _ n=>K (.c (.int k (zno k n)))) False (fun _=>False) (fun _=>False) (fun _ _=>False) (fun _ _=>False) (fun _=>False) False False (tk P dst))
  False (fun _=>False) (fun _=>False) (fun _ _=>False) (fun _ _=>False) (fun _=>False) False False (tk P src)
def znJ(P:Program)(T:List (Nat × Bool))(args:List V)(x:C)(m:M)(K:V->M->Prop):Prop:=
 C.rec (motive:=fun _=>Prop) (fun _=>False) (fun _ _=>False) (fun _=>False) False (fun _ _=>False) False (fun _ _ _ _ _=>False) False (fun _=>False)
  (fun f a b=>Fn.rec (motive:=fun _=>Prop) (fun g=>Wc P T g (appS (zbZ wV a) (appS args (zbZ wV b))) m K) (fun _=>False) (fun t n=>zab a (zab b (orP (zcE P t n args) fun r=>R.rec (motive:=fun _=>Prop) (fun _ _=>False) (fun g vs=>Wc P T g vs m K) (fun _ _=>False) (fun _=>False) r) fun _ _=>False) fun _ _=>False) (fun _ _ _ _=>False)
   (fun l=>zab a (Wy P T l args m K) fun _ _=>False) f) False False x
def znK(mx:Bool)(vs:List V):V->(C->Prop)->Prop:=
 List.rec (motive:=fun _=>V->(C->Prop)->Prop) (fun x K=>vC1 x K)
  (fun y _ ih x K=>zat x False fun k a=>zat y False fun _ b=>ih (.c (.int k (ifB mx (max a b) (min a b)))) K) vs
def znL(P:Program)(t:TypeId)(x:V)(m:M)(K:C->Prop):Prop:=
 TK.rec (motive:=fun _=>Prop) False (fun _=>False) False (fun e=>TK.rec (motive:=fun _=>Prop) False (fun _=>False) False (fun _=>False) (fun _=>False) (fun n _=>K (.int .i64 (Int.ofNat n))) (fun _ _=>False) (fun _=>False) False False (tk P e))
  (fun _=>vC1 x fun c=>isSl c/\K (.int .i64 (Int.ofNat (slLen c)))) (fun n _=>K (.int .i64 (Int.ofNat n)))
  (fun _ _=>vC1 x fun c=>∃n,lnM m c=some n/\K (.int .i64 (Int.ofNat n))) (fun _=>False) False False (tk P t)
def znM(P:Program)(b:Builtin)(ts:List TypeId)(args:List V)(m:M)(K:V->M->Prop):Prop:=
 match b with
 | .append=>zab ts False fun t r2=>zab r2 False fun t2 _=>za6 (tk P t2) False fun _=>zab args False fun s r=>zab r False fun x _=>vC1 s fun s=>vC1 x fun x=>∃c m',ApR P t m s x c m'/\K (.c c) m'
 | .copy=>zab ts False fun t _=>zab args False fun d r=>zab r False fun s _=>vC1 d fun d=>vC1 s fun s=>∃n m',CpR P t m d s n m'/\K (.c (.int .i64 n)) m'
 | .len=>zab ts False fun t _=>zab args False fun x _=>znL P t x m fun c=>K (.c c) m
 | .min=>zab args False fun x r=>znK false r x fun c=>K (.c c) m
 | .max=>zab args False fun x r=>znK true r x fun c=>K (.c c) m
 | _=>False
def znN(tm:S3 V)(o:Option Operand)(d n:Nat):Prop:=zaa o (n=d) fun p=>orP (opd tm p) fun v=>zat v False fun _ z=>z=Int.ofNat n
def exE(P:Program)(t:TypeId)(K:U->Prop):Prop:=ifB (Nat.beq t 0) (∃u,K u) (exU P t K)
def exM(P:Program)(t:TypeId)(K:U->Prop):Prop:=za6 (tk P t) (∃y,K y) fun _=>∃c,K (.c c)
def znO(ops:List Oper)(d:Option Nat)(i:Nat):TypeId:=zaa d 0 fun d=>List.rec (motive:=fun _=>TypeId) 0 (fun o _ ih=>match o.op with | .extract (.tmp t) j=>ifB (Nat.beq t d) (ifB (Nat.beq i j) o.type ih) ih | _=>ih) ops
def znP(v:V)(ok found:Bool):Option V:=ifB ok (zcf v found) (some v)
def op1(P:Program)(T:List (Nat × Bool))(al:Bool)(xt:Nat->TypeId)(tm:S3 V)(m:M)(ty:TypeId)(op:Op)(K:V->M->Prop):Prop:=
 match op with
 | .move x=>orP (opd tm x) fun v=>K v m
 | .assign x=>orP (opd tm x) fun v=>K v m
 | .pick c a b=>orP (opd tm c) fun v=>zav v False fun t=>ifB t (orP (opd tm a) fun x=>K x m) (orP (opd tm b) fun y=>K y m)
 | .alloc t=>orP (zeroV P t) fun z=>znp m (.cells (zaC z) (zaB z) false) fun m'=>K (.c (.ptr m.nxt 0)) m'
 | .box _ x=>orP (opd tm x) fun a=>zbh a False (znp m (.cells (zaC a) (zaB a) false) fun m'=>K (.c (.ptr m.nxt 0)) m')
 | .build t ps=>orP (zeroV P t) fun z=>orP (zaE (zbN tm) ps.toList) fun l=>orP (zbO P t (zaB z) (zaC z) l) fun v=>K v m
 | .buildSlice t len ps=>za6 (tk P t) False fun e=>ifB (Nat.ble (Nat.mul len (P.cellsOf e)) 1048576) (orP (zeroV P e) fun z=>ifB (Nat.ble len 1048576) (ifB (Nat.beq (zaC z) (P.cellsOf e)) (orP (zaE (zbN tm) ps.toList) fun l=>
   orP (zbF (zbI P e) l (zaJ (zaB z) len)) fun cs=>znp m (.cells (Nat.mul len (zaC z)) cs false) fun m'=>K (.c (.sl m.nxt 0 len 0 (some len))) m') False) False) False
 | .load t a=>orP (opd tm a) fun v=>vC1 v fun x=>ifB (zba P t) (ifB (za9 P t) (exA P t fun l=>ldA m x (P.cellsOf t)=some l/\K (.agg (P.cellsOf t) l) m) (exC (znt P t) fun c=>ldC m x=some c/\K (.c c) m)) False
 | .store t a y=>orP (opd tm a) fun v=>vC1 v fun x=>orP (opd tm y) fun y=>zbh y False (ifB (zba P t) (ifB (Nat.beq (zaC y) (P.cellsOf t)) (∃m',stC m x (zaC y) (zaB y)=some m'/\K (.tup []) m') False) False)
 | .nilCheck x=>orP (opd tm x) fun v=>vC1 v fun x=>znn x/\K (.c x) m
 | .binOp op t x y _=>orP (opd tm x) fun x=>orP (opd tm y) fun y=>znG P op t x y fun c=>K (.c c) m
 | .unOp op _ x=>orP (opd tm x) fun x=>znH op x fun c=>K (.c c) m
 | .convert s d x=>orP (opd tm x) fun x=>znI P s d x fun v=>K v m
 | .makeFunc f a b=>ifB (zb1 f) (orP (zaE (opd tm) a.toList) fun a=>orP (zaE vW a) fun a=>orP (zaE (opd tm) b.toList) fun b=>orP (zaE vW b) fun b=>K (.c (.fn f a b)) m) False
 | .makeMap _ r=>zaa r (znp m (.map [] 0) fun m'=>K (.c (.map m.nxt)) m') fun _=>False
 | .makeSlice t l c=>za6 (tk P t) False fun e=>orP (opd tm l) fun l=>orP (opd tm c) fun c=>zat l False fun _ l=>zat c False fun _ c=>orP (zeroV P e) fun z=>ifB (Nat.ble (P.bytesOf e) 1048576) (ifB (Nat.beq (zaC z) (P.cellsOf e))
   (∃l' c':Nat,l=Int.ofNat l'/\c=Int.ofNat c'/\l'<=c'/\c'<=4096/\znp m (.cells (Nat.mul c' (zaC z)) (zaJ (zaB z) c') false) fun m'=>K (.c (.sl m.nxt 0 l' 0 (some c'))) m') False) False
 | .slice t x lo hi mx=>zaa mx (orP (opd tm x) fun v=>vC1 v fun x=>TK.rec (motive:=fun _=>Prop) False (fun _=>False) False (fun _=>False)
   (fun e=>ifB (zba P e) (∃l k:Nat,znN tm lo 0 l/\znN tm hi (slLen x) k/\∃c',subC (P.cellsOf e) x l k=some c'/\K (.c c') m) False)
   (fun n e=>ifB (zba P e) (ifB (Nat.ble n 1048576) (∃l k:Nat,znN tm lo 0 l/\znN tm hi n k/\∃c',arC (P.cellsOf e) n x l k=some c'/\K (.c c') m) False) False)
   (fun _ _=>False) (fun _=>False) False False (tk P t)) fun _=>False
 | .fieldAddr s x f=>za8 (tk P s) False fun fs=>orP (atS fs f) fun fl=>orP (opd tm x) fun v=>vC1 v fun x=>ifB (Nat.beq (P.cellsOf fl.type) 0) False (isPt x/\K (.c (znk x fl.offset)) m)
 | .field s x f=>za8 (tk P s) False fun fs=>orP (atS fs f) fun fl=>orP (opd tm x) fun v=>zaz v False fun _ cs=>ifB (few P s) (orP (zbe P fl.type cs fl.offset) fun v=>K v m) (zny P fl.type cs fl.offset fun v=>K v m)
 | .indexAddr t x i=>orP (opd tm x) fun v=>vC1 v fun x=>orP (opd tm i) fun i=>zat i False fun _ i=>TK.rec (motive:=fun _=>Prop) False (fun _=>False) False (fun _=>False)
   (fun e=>ifB (zba P e) (∃n:Nat,i=Int.ofNat n/\n < slLen x/\K (.c (znl x (n * P.cellsOf e))) m) False)
   (fun len e=>ifB (zba P e) (isPt x/\∃n:Nat,i=Int.ofNat n/\n < len/\K (.c (znk x (n * P.cellsOf e))) m) False)
   (fun _ _=>False) (fun _=>False) False False (tk P t)
 | .index t x i=>orP (opd tm x) fun x=>orP (opd tm i) fun i=>zat i False fun _ i=>TK.rec (motive:=fun _=>Prop) False (fun _=>False) False (fun _=>False) (fun _=>False)
   (fun len e=>zaz x False fun _ cs=>∃n:Nat,i=Int.ofNat n/\n < len/\zny P e cs (n * P.cellsOf e) fun v=>K v m)
   (fun _ _=>False) (fun _=>False) False False (tk P t)
 | .lookup t x k ok=>za7 (tk P t) False fun kt et=>orP (opd tm x) fun v=>vC1 v fun x=>orP (opd tm k) fun k=>orP (zeroV P et) fun z=>
   ∃f,lkM P kt m x k=some f/\(f=none->orP (znP z ok false) fun v=>K v m)/\∀u,f=some u->exU P et fun y=>u=y/\orP (znP (uV y) ok true) fun v=>K v m
 | .mapUpdate t x k y=>za7 (tk P t) False fun kt _=>orP (opd tm x) fun v=>vC1 v fun x=>orP (opd tm k) fun k=>orP (opd tm y) fun y=>∃m',upM P kt m x k y=some m'/\K (.tup []) m'
 | .insert t x k y=>za7 (tk P t) False fun kt _=>orP (opd tm x) fun v=>vC1 v fun x=>orP (opd tm k) fun k=>orP (opd tm y) fun y=>∃m',upM P kt m x k y=some m'/\K (.tup []) m'
 | .mapEntry t x k=>za7 (tk P t) False fun kt et=>orP (opd tm x) fun v=>vC1 v fun x=>orP (opd tm k) fun k=>orP (zeroV P et) fun z=>orP (vU z) fun z=>exM P et fun y=>∃(n:Nat) (m':M),znq P kt m x k z=some ((y,n),m')/\K (.tup [y,.c (.int .i64 (Int.ofNat n))]) m'
 | .entryStore _ x s y=>orP (opd tm x) fun v=>vC1 v fun x=>orP (opd tm s) fun s=>orP (opd tm y) fun y=>zat s False fun _ z=>∃(n:Nat) (m':M),z=Int.ofNat n/\esM m x n y=some m'/\K (.tup []) m'
 | .range t x=>za7 (tk P t) False fun _ _=>orP (opd tm x) fun v=>vC1 v fun x=>∃o,znr m x=some o/\znp m o fun m'=>K (.c (.ptr m.nxt 0)) m'
 | .next it s=>ifB s False (ifB al (orP (opd tm it) fun v=>vC1 v fun x=>∃l,nxM m x=some l/\(l=[]->K (.tup [.c (.bool false)]) m)/\∀k y m',InL k y m' l->K (.tup [.c (.bool true),k,y]) m') False)
 | .entry it=>orP (opd tm it) fun v=>vC1 v fun x=>exE P (xt 0) fun k=>exE P (xt 1) fun y=>enM m x=some (k,y)/\K (.tup [k,y]) m
 | .extract t i=>orP (opd tm t) fun t=>zaA t False fun us=>orP (atS us i) fun u=>K (uV u) m
 | .call c=>orP (zaE (opd tm) c.args.toList) fun args=>Callee.rec (motive:=fun _=>Prop) (fun f=>orP (opd tm f) fun v=>vC1 v fun x=>znJ P T args x m (znx P ty K)) (fun _ _=>False) (fun b=>znM P b c.argTypes.toList args m K) c.callee
 | _=>False
variable {P:Program} {T:List (Nat × Bool)} {tm:S3 V} {m:M} {K:V->M->Prop}
theorem znQ{α:Type}{o:Option α}{s:α->Prop}(h:orP o s):∃x,o=some x/\s x:=by
 cases o with
 | none=>exact h.elim
 | some x=>exact⟨x,rfl,h⟩
theorem znR{b:Bool}{x:Prop}(h:ifB b x False):b=true/\x:=by
 cases b with
 | true=>exact⟨rfl,h⟩
 | false=>exact h.elim
theorem znS{v:V}{s:C->Prop}(h:vC1 v s):∃c,v=.c c/\s c:=by
 cases v with
 | c x=>exact⟨x,rfl,h⟩
 | _=>exact h.elim
theorem znT{v:V}{s:IntKind->Int->Prop}(h:zat v False s):∃k n,v=.c (.int k n)/\s k n:=by
 cases v with
 | c x=>cases x with
  | int k n=>exact⟨k,n,rfl,h⟩
  | _=>exact h.elim
 | _=>exact h.elim
theorem znU{v:V}{s:Bool->Prop}(h:zav v False s):∃b,v=.c (.bool b)/\s b:=by
 cases v with
 | c x=>cases x with
  | bool b=>exact⟨b,rfl,h⟩
  | _=>exact h.elim
 | _=>exact h.elim
theorem znV{v:V}{s:Nat->List C->Prop}(h:zaz v False s):∃n l,v=.agg n l/\s n l:=by
 cases v with
 | agg n l=>exact⟨n,l,rfl,h⟩
 | _=>exact h.elim
theorem znW{v:V}{s:List U->Prop}(h:zaA v False s):∃l,v=.tup l/\s l:=by
 cases v with
 | tup l=>exact⟨l,rfl,h⟩
 | _=>exact h.elim
theorem znX{v:V}{s:Prop}(h:zbh v False s):s/\∀{β:Type} (d x:β),zbh v d x=x:=by
 cases v with
 | c x=>exact⟨h,fun _ _=>rfl⟩
 | agg n l=>exact⟨h,fun _ _=>rfl⟩
 | tup l=>exact h.elim
theorem znY{k:TK}{s:TypeId->Prop}(h:za6 k False s):∃e,k=.sl e/\s e:=by
 cases k with
 | sl e=>exact⟨e,rfl,h⟩
 | _=>exact h.elim
theorem znZ{k:TK}{s:TypeId->TypeId->Prop}(h:za7 k False s):∃a b,k=.map a b/\s a b:=by
 cases k with
 | map a b=>exact⟨a,b,rfl,h⟩
 | _=>exact h.elim
theorem zn0{k:TK}{s:List Field->Prop}(h:za8 k False s):∃fs,k=.st fs/\s fs:=by
 cases k with
 | st fs=>exact⟨fs,rfl,h⟩
 | _=>exact h.elim
theorem zn1{α:Type}{l:List α}{s:α->List α->Prop}(h:zab l False s):∃x xs,l=x::xs/\s x xs:=by
 cases l with
 | nil=>exact h.elim
 | cons x xs=>exact⟨x,xs,rfl,h⟩
theorem zn2{a b:Nat}(h:a < b):ltN a b=true:=Nat.ble_eq_true_of_le h
theorem zn3{k:IntKind}{n:Int}(h:znj k n):fits k n=true:=by
 cases n with
 | ofNat a=>
  show ltN a (zaR k)=true
  apply zn2
  cases k <;> (simp only[znj] at h; simp only[zaR]; have:=h.2; simp only[Int.ofNat_eq_natCast] at this; omega)
 | negSucc a=>
  show ltN a (zaS k)=true
  apply zn2
  cases k <;> (simp only[znj] at h; simp only[zaS]; have:=h.1; have:=h.2; omega)
theorem zn4{k:SK}{K:C->Prop}(h:exC k K):∃c,K c:=by
 cases k with
 | bool=>exact h.elim fun b h=>⟨_,h⟩
 | int k=>exact h.elim fun b h=>⟨_,h⟩
 | cell=>exact h
theorem zn5{ks:List SK}:∀{K:List C->Prop},exL ks K->∃l,K l:=by
 induction ks with
 | nil=>exact fun h=>⟨_,h⟩
 | cons k ks ih=>
  intro K h;obtain⟨c,h1⟩:=zn4 (show exC k fun c=>exL ks fun l=>K (c::l) from h);obtain⟨l,h2⟩:=ih h1;exact⟨_,h2⟩
theorem zn6{t:TypeId}{K:List C->Prop}(h:exA P t K):∃l,K l:=by
 unfold exA at h
 cases hf:few P t with
 | true=>rw[hf] at h; exact zn5 h
 | false=>rw[hf] at h; exact h
theorem zn7{t:TypeId}{K:U->Prop}(h:exU P t K):∃u,K u/\((za9 P t=true/\∃l,u=.agg (P.cellsOf t) l)\/(za9 P t=false/\∃c,u=.c c)):=by
 unfold exU at h
 cases hf:za9 P t with
 | true=>rw[hf] at h; exact(zn6 h).elim fun l h=>⟨_,h,.inl ⟨rfl,l,rfl⟩⟩
 | false=>rw[hf] at h; exact(zn4 (show exC (znt P t) (fun c=>K (.c c)) from h)).elim fun c h=>⟨_,h,.inr ⟨rfl,c,rfl⟩⟩
theorem zn8{ts:List TypeId}:∀{K:List U->Prop},znv P ts K->∃l,K l:=by
 induction ts with
 | nil=>exact fun h=>⟨_,h⟩
 | cons k ks ih=>
  intro K h;obtain⟨c,h1,_⟩:=zn7 (show exU P k fun c=>znv P ks fun l=>K (c::l) from h);obtain⟨l,h2⟩:=ih h1;exact⟨_,h2⟩
theorem zn9{t:TypeId}{K:V->Prop}(h:exV P t K):∃v,K v:=by
 unfold exV at h
 cases hf:znw P t with
 | none=>rw[hf] at h; exact(zn7 (show exU P t (fun u=>K (uV u)) from h)).elim fun u h=>⟨_,h.1⟩
 | some es=>rw[hf] at h; exact(zn8 h).elim fun u h=>⟨_,h⟩
theorem zoa{t:TypeId}{v:V}{m':M}(h:znx P t K v m'):K v m':=by
 obtain⟨x,h1,h2⟩:=zn9 h;rw[h1]; exact h2
theorem zob{t:TypeId}{cs:List C}{off:Nat}{K:V->Prop}(h:zny P t cs off K):∃v,zbe P t cs off=some v/\K v:=by
 obtain⟨h1,h2⟩:=znR h;unfold zbe;rw[h1,zd3]
 cases hf:za9 P t with
 | true=>
  rw[hf] at h2;obtain⟨l,h3,h4⟩:=zn6 h2;rw[zd3,h3];exact⟨_,rfl,h4⟩
 | false=>
  rw[hf] at h2;obtain⟨l,h3,h4⟩:=zn4 (show exC (znt P t) (fun c=>atS cs off=some c/\K (.c c)) from h2);rw[zd4,h3];exact⟨_,rfl,h4⟩
theorem zoc{x c:C}(h:ldC m x=some c):∃b o,x=.ptr b o/\rdC (toH m) b o=some c:=by
 cases x with
 | ptr b o=>exact⟨b,o,rfl,h⟩
 | _=>cases h
theorem zod{x:C}{k:Nat}{l:List C}(h:ldA m x k=some l):∃b o,x=.ptr b o/\rdA (toH m) b o k=some l:=by
 cases x with
 | ptr b o=>exact⟨b,o,rfl,h⟩
 | _=>cases h
theorem zoe{β:Type}{b n:Nat}{vs:List C}{opn:Bool}{d:β}{s:Nat->List C->Bool->β}(hg:m.g b=some (.cells n vs opn)):za2 (toH m) b d s=s n vs opn:=by
 unfold za2;rw[zm7,hg]; rfl
theorem zof{β:Type}{b:Nat}{es:List E}{clock:Nat}{d:β}{s:List E->Nat->β}(hg:m.g b=some (.map es clock)):za3 (toH m) b d s=s es clock:=by
 unfold za3;rw[zm7,hg]; rfl
theorem zog{x:C}{k:Nat}{new:List C}{m':M}(h:stC m x k new=some m'):∃b o,x=.ptr b o/\zbg (toH m) b o k new=some (toH m'):=by
 cases x with
 | ptr b o=>
  refine⟨b,o,rfl,?_⟩
  cases hg:m.g b with
  | none=>simp only[stC,hg] at h; cases h
  | some a=>
   cases a with
   | cells n vs opn=>
    simp only[stC,hg] at h
    unfold zbg;rw[zoe hg]
    cases h1:Nat.beq n k with
    | true=>
     rw[h1] at h
     cases h2:Nat.beq o 0 with
     | true=>
      rw[h2] at h;have h3:some (m.set b (.cells n new opn))=some m':=h
      cases h3
      show some _=_
      rw[zm4]
     | false=>rw[h2] at h; cases h
    | false=>
     rw[h1] at h;have h3:zaa (zaH o new vs) none (fun vs'=>some (m.set b (.cells n vs' opn)))=some m':=h;obtain⟨vs',h4,h5⟩:=zd7 h3
     cases h5
     show zaa (zaH o new vs) none (fun vs'=>some (za0 (toH m) b (.cells n vs' opn)))=_
     rw[h4]
     show some _=_
     rw[zm4]
   | _=>simp only[stC,hg] at h; cases h
 | _=>cases h
def RK(P:Program)(T:List (Nat × Bool))(al:Bool)(m:M)(K:V->M->Prop):R->Prop
 | .val v h'=>∃m',h'=toH m'/\K v m'
 | .call f args=>Wc P T f args m K
 | .yield l args=>Wy P T l args m K
 | .alts l=>al=true/\l ≠ []/\∀p∈l,∃m',p.2=toH m'/\K p.1 m'
def isV(r:R):Bool:=match r with | .val _ _=>true | _=>false
variable {al:Bool}
theorem RK.same{X:Prop}{v:V}{r:Option R}(hr:r=some (.val v (toH m)))(h:K v m):∃r',r=some r'/\RK P T al m K r'/\(isV r'=true\/X):=⟨_,hr,⟨m,rfl,h⟩,.inl rfl⟩
theorem RK.to{X:Prop}{v:V}{m':M}{r:Option R}(hr:r=some (.val v (toH m')))(h:K v m'):∃r',r=some r'/\RK P T al m K r'/\(isV r'=true\/X):=⟨_,hr,⟨m',rfl,h⟩,.inl rfl⟩
theorem RK.new{X:Prop}{o:AO}{v:V}{r:Option R}(hr:r=some (.val v (zaZ (toH m) o)))(h:znp m o fun m'=>K v m'):∃r',r=some r'/\RK P T al m K r'/\(isV r'=true\/X):=⟨_,hr,⟨m.new o,by rw[zm5],h _ rfl⟩,.inl rfl⟩
theorem zoh{f:Nat->Nat->Option Int}{a b:Int}(ha:0<=a)(hb:0<=b):zaY f a b=f a.toNat b.toNat:=by
 obtain⟨x,rfl⟩:=Int.eq_ofNat_of_zero_le ha;obtain⟨y,rfl⟩:=Int.eq_ofNat_of_zero_le hb
 rfl
theorem zoi{k:IntKind}{n:Int}(h:znj k n):vI k n=some (.c (.int k n)):=by
 unfold vI;rw[zn3 h]; rfl
theorem zoj{k:IntKind}{a:Int}(h0:0<=a)(h:znj k a):ltN a.toNat (zaR k)=true:=by
 obtain⟨x,rfl⟩:=Int.eq_ofNat_of_zero_le h0;exact zn3 h
theorem zok{op:BinOp}{k:IntKind}{a b:Int}(hop:zbp op k a b=zbj op a b)(hc:op=.eql\/op=.neq\/op=.lss\/op=.leq\/op=.gtr\/op=.geq):zbp op k a b=some (.c (.bool (znz op a b))):=by
 rw[hop]
 rcases hc with rfl | rfl | rfl | rfl | rfl | rfl
 ·show some _=some _; rw[zgd]; rfl
 ·show some _=some (V.c (C.bool (!decide (a=b)))); rw[zgd]; show some (V.c (C.bool (ifB (decide (a=b)) false true)))=_; cases decide (a=b) <;> rfl
 ·show some _=some (V.c (C.bool (decide (a < b)))); rw[zgf]
 ·show some _=some (V.c (C.bool (decide (a<=b)))); rw[zgf]; by_cases h:b < a <;> simp[h,ifB] <;> omega
 ·show some _=some (V.c (C.bool (decide (b < a)))); rw[zgf]
 ·show some _=some (V.c (C.bool (decide (b<=a)))); rw[zgf]; by_cases h:a < b <;> simp[h,ifB] <;> omega
theorem zol{k:IntKind}{a b r:Int}{K:C->Prop}{f:Nat->Nat->Nat}(hr:r=Int.ofNat (f a.toNat b.toNat))(h:znA k a b r K):∃c,zaa (zaY (zbo k f) a b) none (vI k)=some (.c c)/\K c:=by
 obtain⟨h1,h2,h3,h4,h5,h6⟩:=h;refine⟨_,?_,h6⟩;rw[zoh h1 h2];unfold zbo;rw[zoj h1 h3,zd3,zoj h2 h4,zd3,<- hr];exact zoi h5
theorem zom{op:BinOp}{k:IntKind}{a b:Int}{K:C->Prop}(h:znB op k a b K):∃c,zbp op k a b=some (.c c)/\K c:=by
 cases op with
 | add=>exact⟨_,by show vI k (zaW a b)=_; rw[zf9]; exact zoi h.1,h.2⟩
 | sub=>exact⟨_,by show vI k (zaX a b)=_; rw[zga]; exact zoi h.1,h.2⟩
 | mul=>
  obtain⟨h1,h2,h3,h4⟩:=h;refine⟨_,?_,h4⟩
  show zaa (zaY _ a b) none (vI k)=_
  rw[zoh h1 h2]
  show vI k (Int.ofNat (a.toNat * b.toNat))=_
  rw[show Int.ofNat (a.toNat * b.toNat)=a * b by
   obtain⟨x,rfl⟩:=Int.eq_ofNat_of_zero_le h1;obtain⟨y,rfl⟩:=Int.eq_ofNat_of_zero_le h2
   simp]
  exact zoi h3
 | quo=>
  obtain⟨h1,h2,h3,h4⟩:=h;refine⟨_,?_,h4⟩
  show zaa (zaY zbm a b) none (vI k)=_
  rw[zoh h1 (by omega)];obtain⟨x,rfl⟩:=Int.eq_ofNat_of_zero_le h1;obtain⟨y,rfl⟩:=Int.eq_ofNat_of_zero_le (show 0<=b by omega)
  cases y with
  | zero=>simp at h2
  | succ y=>exact zoi h3
 | rem=>
  obtain⟨h1,h2,h3,h4⟩:=h;refine⟨_,?_,h4⟩
  show zaa (zaY zbn a b) none (vI k)=_
  rw[zoh h1 (by omega)];obtain⟨x,rfl⟩:=Int.eq_ofNat_of_zero_le h1;obtain⟨y,rfl⟩:=Int.eq_ofNat_of_zero_le (show 0<=b by omega)
  cases y with
  | zero=>simp at h2
  | succ y=>exact zoi h3
 | and=>exact zol rfl h
 | or=>exact zol rfl h
 | xor=>exact zol rfl h
 | shl=>exact h.elim
 | shr=>exact h.elim
 | andNot=>exact zol (f:=fun m n=>Nat.xor m (Nat.land m n)) rfl h
 | eql=>exact⟨_,zok rfl (.inl rfl),h⟩
 | neq=>exact⟨_,zok rfl (.inr (.inl rfl)),h⟩
 | lss=>exact⟨_,zok rfl (.inr (.inr (.inl rfl))),h⟩
 | leq=>exact⟨_,zok rfl (.inr (.inr (.inr (.inl rfl)))),h⟩
 | gtr=>exact⟨_,zok rfl (.inr (.inr (.inr (.inr (.inl rfl))))),h⟩
 | geq=>exact⟨_,zok rfl (.inr (.inr (.inr (.inr (.inr rfl))))),h⟩
theorem zon{op:BinOp}{k k':IntKind}{a b:Int}{K:C->Prop}(h:znC op k a k' b K):∃c,zbr op k a k' b=some (.c c)/\K c:=by
 have hf:zbq op True False False->∃c,zbr op k a k' b=some (.c c)/\K c:=by
  intro hs
  have h1:ifB (zaQ k k') (znB op k a b K) False:=by
   cases op <;> first | exact h | exact hs.elim
  obtain⟨h2,h3⟩:=znR h1;obtain⟨c,h4,h5⟩:=zom h3;refine⟨c,?_,h5⟩
  have:zbr op k a k' b=ifB (zaQ k k') (zbp op k a b) none:=by cases op <;> first | rfl | exact hs.elim
  rw[this,h2,h4]; rfl
 cases op with
 | shl=>
  obtain⟨h1,h2,h3,h4,h5⟩:=(show shP k a b (a * 2 ^ b.toNat) K from h);refine⟨_,?_,h5⟩
  show zbk k a b=_
  unfold zbk;rw[zoh h1 h2];obtain⟨x,rfl⟩:=Int.eq_ofNat_of_zero_le h1;obtain⟨y,rfl⟩:=Int.eq_ofNat_of_zero_le h2;have:Nat.ble y k.bits=true:=Nat.ble_eq_true_of_le (by omega)
  show zaa (ifB (Nat.ble y k.bits) (some (.ofNat (Nat.mul x (Nat.pow 2 y)))) none) none (vI k)=_
  rw[this]
  show vI k (Int.ofNat (x * 2 ^ y))=_
  rw[show Int.ofNat (x * 2 ^ y)=(x:Int) * 2 ^ ((y:Int)).toNat by simp];exact zoi h4
 | shr=>
  obtain⟨h1,h2,h3,h4,h5⟩:=(show shP k a b (a / 2 ^ b.toNat) K from h);refine⟨_,?_,h5⟩
  show zbl k a b=_
  unfold zbl;rw[zoh h1 h2];obtain⟨x,rfl⟩:=Int.eq_ofNat_of_zero_le h1;obtain⟨y,rfl⟩:=Int.eq_ofNat_of_zero_le h2;have:Nat.ble y k.bits=true:=Nat.ble_eq_true_of_le (by omega)
  show zaa (ifB (Nat.ble y k.bits) (some (.ofNat (Nat.div x (Nat.pow 2 y)))) none) none (vI k)=_
  rw[this]
  show vI k (Int.ofNat (x / 2 ^ y))=_
  rw[show Int.ofNat (x / 2 ^ y)=(x:Int) / 2 ^ ((y:Int)).toNat by simp];exact zoi h4
 | _=>exact hf trivial
theorem zoo(a b:Bool):zbs a b=(a == b):=by cases a <;> cases b <;> rfl
theorem zop{k:CK}{a b:C}{X:Prop}(h:okE k a b X):eqK k a b=some (znD k a b)/\X:=by
 cases k with
 | bool=>
  obtain⟨x,hx,h1⟩:=znU (show zav (.c a) False _ from h);obtain⟨y,hy,h2⟩:=znU h1
  cases hx; cases hy
  refine⟨?_,h2⟩
  show some (zbs x y)=some (x == y)
  rw[zoo]
 | int q=>
  obtain⟨p,x,hx,h1⟩:=znT (show zat (.c a) False _ from h);obtain⟨p',y,hy,h2⟩:=znT h1
  cases hx; cases hy
  obtain⟨h3,h4⟩:=znR h2;obtain⟨h5,h6,h7,h8⟩:=znR h4;refine⟨?_,h8⟩
  show ifB (zaQ q p) (ifB (zaQ q p') (ifB (fits q x) (ifB (fits q y) (some (zaT x y)) none) none) none) none=some (decide (x=y))
  rw[h3,h5,zn3 h6,zn3 h7,zgd]; rfl
 | str=>exact h.elim
theorem zoq:∀{ks:List CK} {xs ys:List C} {K:Bool->Prop},znE ks xs ys K->∃b,zby ks xs ys=some b/\K b
 | [],xs,ys,K,h=>by
  cases xs with
  | nil=>cases ys with
   | nil=>exact⟨true,rfl,h⟩
   | cons _ _=>exact h.elim
  | cons _ _=>exact h.elim
 | k::ks,xs,ys,K,h=>by
  obtain⟨x,xs,rfl,h1⟩:=zn1 (show zab xs False _ from h);obtain⟨y,ys,rfl,h2'⟩:=zn1 h1;obtain⟨h2,h3⟩:=zop h2'
  have hstep:∀{r:Bool},zby ks xs ys=some r->zby (k::ks) (x::xs) (y::ys)=some (znD k x y && r):=by
   intro r hr
   show zaa (eqK k x y) none (fun b=>zaa (zby ks xs ys) none fun r=>some (ifB b r false))=_
   rw[h2,hr]
   show some (ifB (znD k x y) r false)=_
   cases znD k x y <;> rfl
  cases ks with
  | nil=>
   cases xs with
   | nil=>cases ys with
    | nil=>exact⟨_,hstep rfl,by rw[Bool.and_true]; exact h3⟩
    | cons _ _=>exact h3.elim
   | cons _ _=>exact h3.elim
  | cons k2 ks=>
   obtain⟨b,h4,h5⟩:=zoq (show znE (k2::ks) xs ys fun r=>K (znD k x y && r) from h3);exact⟨_,hstep h4,h5⟩
theorem zor{k:TK}{c:C}(h:okN k c):zbv k c=some (znm c):=by
 cases k with
 | bool=>exact h.elim
 | int q=>exact h.elim
 | str=>exact h.elim
 | ptr e=>cases c <;> first | exact h.elim | rfl
 | sl e=>cases c <;> first | exact h.elim | rfl
 | arr n e=>exact h.elim
 | map q e=>cases c <;> first | exact h.elim | rfl
 | st fs=>exact h.elim
 | fn=>cases c <;> first | exact h.elim | rfl
 | other=>exact h.elim
theorem zos{t:TypeId}{x y:V}{K:Bool->Prop}(h:eqP P t x y K):∃b,eqV P t x y=some b/\K b:=by
 unfold eqP at h
 cases hp:zbb P t with
 | none=>
  unfold eqV;rw[hp] at h ⊢;obtain⟨a,rfl,h1⟩:=znS h;obtain⟨b,rfl,h2,h3,h4,h5⟩:=znS h1;refine⟨_,?_,h5⟩
  show zbw (tk P t) a b=_
  unfold zbw;rw[zor h2,zor h3]
  show ifB (znm a) (some (znm b)) (ifB (znm b) (some false) none)=_
  cases ha:znm a <;> cases hb:znm b
  ·rw[ha,hb] at h4; cases h4
  ·rfl
  ·rfl
  ·rfl
 | some ks=>
  rw[hp] at h;have h:ifB (few P t) (orP (zbz P t x) fun xs=>orP (zbz P t y) fun ys=>znE ks xs ys K) (∃r,eqV P t x y=some r/\K r):=h
  cases hf:few P t with
  | false=>rw[hf] at h; exact h
  | true=>
  rw[hf] at h;unfold eqV;rw[hp];obtain⟨xs,h1,h2⟩:=znQ h;obtain⟨ys,h3,h4⟩:=znQ h2;obtain⟨b,h5,h6⟩:=zoq h4;refine⟨b,?_,h6⟩
  show zaa (zbz P t x) none (fun xs=>zaa (zbz P t y) none fun ys=>zby ks xs ys)=_
  rw[h1,h3]; exact h5
theorem zot{op:BinOp}{t:TypeId}{x y:V}{K:C->Prop}(hv:∀{β:Type} (d:β) (s:IntKind->Int->β),zat x d s=d)(hs:∀{β:Type} (d:β) (s:ByteArray->β),zay x d s=d)(h:eqQ P op t x y K):∃c,zbC P op t x y=some (.c c)/\K c:=by
 unfold zbC;rw[hv,hs]
 cases op with
 | eql=>
  obtain⟨b,h1,h2⟩:=zos (show eqP P t x y (fun b=>K (.bool b)) from h);refine⟨_,?_,h2⟩
  show zaa (eqV P t x y) none vB=_
  rw[h1]; rfl
 | neq=>
  obtain⟨b,h1,h2⟩:=zos (show eqP P t x y (fun b=>K (.bool (!b))) from h);refine⟨_,?_,h2⟩
  show zaa (eqV P t x y) none (fun b=>vB (ifB b false true))=_
  rw[h1]; cases b <;> rfl
 | _=>exact h.elim
theorem zou{op:BinOp}{t:TypeId}{x y:V}{K:C->Prop}(h:znF P op t x y K):∃c,zbC P op t x y=some (.c c)/\K c:=by
 obtain⟨a,rfl,h1,h2⟩:=znS h
 cases a with
 | int k n=>cases hk:tk P t <;> (rw[hk] at h1; exact h1.elim)
 | str s=>cases hk:tk P t <;> (rw[hk] at h1; exact h1.elim)
 | _=>exact zot (fun _ _=>rfl) (fun _ _=>rfl) h2
theorem zov{op:BinOp}{t:TypeId}{x y:V}{K:C->Prop}(h:znG P op t x y K):∃c,zbC P op t x y=some (.c c)/\K c:=by
 unfold znG at h
 cases hk:tk P t with
 | bool=>
  rw[hk] at h;obtain⟨b,rfl,h1⟩:=znU (show zav x False fun _=>eqQ P op t x y K from h);exact zot (fun _ _=>rfl) (fun _ _=>rfl) h1
 | int q=>
  rw[hk] at h;obtain⟨k,a,rfl,h1⟩:=znT (show zat x False fun k a=>zat y False fun k' b=>znC op k a k' b K from h);obtain⟨k',b,rfl,h2⟩:=znT h1;exact zon h2
 | arr n e=>
  rw[hk] at h;obtain⟨n,l,rfl,h1⟩:=znV (show zaz x False fun _ _=>eqQ P op t x y K from h);exact zot (fun _ _=>rfl) (fun _ _=>rfl) h1
 | st fs=>
  rw[hk] at h;obtain⟨n,l,rfl,h1⟩:=znV (show zaz x False fun _ _=>eqQ P op t x y K from h);exact zot (fun _ _=>rfl) (fun _ _=>rfl) h1
 | ptr e=>rw[hk] at h; exact zou h
 | sl e=>rw[hk] at h; exact zou h
 | map a b=>rw[hk] at h; exact zou h
 | fn=>rw[hk] at h; exact zou h
 | str=>rw[hk] at h; exact h.elim
 | other=>rw[hk] at h; exact h.elim
theorem zow{op:UnOp}{x:V}{K:C->Prop}(h:znH op x K):∃c,unV op x=some (.c c)/\K c:=by
 cases op with
 | neg=>
  obtain⟨k,n,rfl,h1,h2⟩:=znT (show zat x False _ from h);refine⟨_,?_,h2⟩
  show vI k (zaX (.ofNat 0) n)=_
  rw[zga];exact zoi h1
 | not=>
  obtain⟨b,rfl,h2⟩:=znU (show zav x False _ from h);refine⟨_,?_,h2⟩
  show vB (ifB b false true)=_
  cases b <;> rfl
 | _=>exact h.elim
theorem zox{s d:TypeId}{x:V}{K:V->Prop}(h:znI P s d x K):∃v,zbE P s d x=some v/\K v:=by
 unfold znI at h;unfold zbE
 cases hs:tk P s with
 | int q=>
  rw[hs] at h
  cases hd:tk P d with
  | int k=>
   rw[hd] at h;obtain⟨k',n,rfl,h1⟩:=znT h;refine⟨_,?_,h1⟩
   show some (zbD k n)=some (.c (.int k (zno k n)))
   unfold zbD zno
   cases fits k n <;> rfl
  | _=>rw[hd] at h; exact h.elim
 | _=>rw[hs] at h; exact h.elim
end
end Go.Abs

namespace Go.Abs
noncomputable section
variable {P:Program} {T:List (Nat × Bool)} {tm:S3 V} {m:M} {K:V->M->Prop} {al:Bool}
theorem zoy{mx:Bool}:∀{vs:List V} {x:V} {K:C->Prop},znK mx vs x K->∃c,zcA (ifB mx (fun b a=>zaU a b) zaU) vs x=some (.c c)/\K c
 | [],x,K,h=>by
  obtain⟨c,rfl,h1⟩:=znS (show vC1 x K from h);exact⟨c,rfl,h1⟩
 | y::vs,x,K,h=>by
  obtain⟨k,a,rfl,h1⟩:=znT (show zat x False fun k a=>zat y False fun _ b=>znK mx vs (.c (.int k (ifB mx (max a b) (min a b)))) K from h);obtain⟨k',b,rfl,h2⟩:=znT h1;obtain⟨c,h3,h4⟩:=zoy h2;refine⟨c,?_,h4⟩;rw[<- h3]
  show zcA _ vs (.c (.int k (ifB (ifB mx (fun b a=>zaU a b) zaU b a) b a)))=_
  congr 3
  cases mx with
  | true=>
   show ifB (zaU a b) b a=max a b
   rw[zgf]
   by_cases h:a < b
   ·rw[decide_eq_true h]; show b=_; omega
   ·rw[decide_eq_false h]; show a=_; omega
  | false=>
   show ifB (zaU b a) b a=min a b
   rw[zgf]
   by_cases h:b < a
   ·rw[decide_eq_true h]; show b=_; omega
   ·rw[decide_eq_false h]; show a=_; omega
theorem zoz{t:TypeId}{x:V}{K:C->Prop}(h:znL P t x m K):∃c,zcz P (toH m) t x=some (.c c)/\K c:=by
 unfold znL at h;unfold zcz
 cases hk:tk P t with
 | ptr e=>
  rw[hk] at h
  dsimp only at h
  cases he:tk P e with
  | arr n e'=>rw[he] at h; exact⟨_,by dsimp only; rw[he]; rfl,h⟩
  | _=>rw[he] at h; exact h.elim
 | sl e=>
  rw[hk] at h;obtain⟨c,rfl,h1,h2⟩:=znS (show vC1 x fun c=>isSl c/\K (.int .i64 (Int.ofNat (slLen c))) from h);refine⟨_,?_,h2⟩
  cases c <;> first | exact h1.elim | rfl
 | arr n e=>rw[hk] at h; exact⟨_,rfl,h⟩
 | map a b=>
  rw[hk] at h;obtain⟨c,rfl,n,h1,h2⟩:=znS (show vC1 x fun c=>∃n,lnM m c=some n/\K (.int .i64 (Int.ofNat n)) from h);refine⟨_,?_,h2⟩
  cases c with
  | map0=>cases h1; rfl
  | map r=>
   simp only[lnM] at h1
   cases hg:m.g r with
   | none=>rw[hg] at h1; cases h1
   | some a=>
    rw[hg] at h1
    cases a with
    | map es clock=>
     cases h1
     show za3 (toH m) r none (fun es _=>goN (zaI es))=_
     rw[zof hg,zet]; rfl
    | _=>cases h1
  | _=>cases h1
 | _=>rw[hk] at h; exact h.elim
theorem zoA{o:Option Operand}{d n:Nat}(h:znN tm o d n):zb4 tm d o=some n:=by
 cases o with
 | none=>
  have:n=d:=h;subst this; rfl
 | some p=>
  obtain⟨v,h1,h2⟩:=znQ (show orP (opd tm p) fun v=>zat v False fun _ z=>z=Int.ofNat n from h);obtain⟨k,z,rfl,h3⟩:=znT h2;subst h3
  show zaa (opd tm p) none (fun v=>zau v none some)=_
  rw[h1]; rfl
theorem zoB{args:List V}{x:C}{K:V->M->Prop}(h:znJ P T args x m K):∃r,vFn (.c x) none (fun f a b=>zcF P args f a b)=some r/\RK P T al m K r:=by
 cases x with
 | fn f a b=>
  cases f with
  | func g=>exact⟨_,rfl,h⟩
  | yield l=>
   cases a with
   | nil=>exact⟨_,rfl,h⟩
   | cons _ _=>exact h.elim
  | methodOf t n=>
   cases a with
   | nil=>
    cases b with
    | nil=>
     obtain⟨r,h1,h2⟩:=znQ (show orP (zcE P t n args) _ from h)
     cases r with
     | call g vs=>exact⟨_,h1,h2⟩
     | _=>exact h2.elim
    | cons _ _=>exact h.elim
   | cons _ _=>exact h.elim
  | _=>exact h.elim
 | _=>exact h.elim
theorem zoC{X:Prop}{b:Builtin}{ts:List TypeId}{args:List V}(h:znM P b ts args m K):∃r,zcB P (toH m) b ts args=some r/\RK P T al m K r/\(isV r=true\/X):=by
 cases b with
 | append=>
  obtain⟨t,r2,rfl,h1⟩:=zn1 (show zab ts False _ from h);obtain⟨t2,r3,rfl,h2⟩:=zn1 h1;obtain⟨e,he,h3⟩:=znY h2;obtain⟨s,r4,rfl,h4⟩:=zn1 h3;obtain⟨x,r5,rfl,h5⟩:=zn1 h4;obtain⟨s,rfl,h6⟩:=znS h5;obtain⟨x,rfl,c,m',h7,h8⟩:=znS h6;exact RK.to (by show za6 (tk P t2) none (fun _=>zcx P (toH m) t (.c s) (.c x))=_; rw[he]; exact h7) h8
 | copy=>
  obtain⟨t,r2,rfl,h1⟩:=zn1 (show zab ts False _ from h);obtain⟨s,r4,rfl,h4⟩:=zn1 h1;obtain⟨x,r5,rfl,h5⟩:=zn1 h4;obtain⟨s,rfl,h6⟩:=znS h5;obtain⟨x,rfl,c,m',h7,h8⟩:=znS h6;exact RK.to h7 h8
 | len=>
  obtain⟨t,r2,rfl,h1⟩:=zn1 (show zab ts False _ from h);obtain⟨x,r4,rfl,h4⟩:=zn1 h1;obtain⟨c,h5,h6⟩:=zoz h4;exact RK.same (by show vR (toH m) (zcz P (toH m) t x)=_; rw[h5]; rfl) h6
 | min=>
  obtain⟨x,r4,rfl,h4⟩:=zn1 (show zab args False _ from h);obtain⟨c,h5,h6⟩:=zoy h4;exact RK.same (by show vR (toH m) (zcA zaU r4 x)=_; rw[show zcA zaU r4 x=some (.c c) from h5]; rfl) h6
 | max=>
  obtain⟨x,r4,rfl,h4⟩:=zn1 (show zab args False _ from h);obtain⟨c,h5,h6⟩:=zoy h4;exact RK.same (by show vR (toH m) (zcA (fun b a=>zaU a b) r4 x)=_; rw[show zcA (fun b a=>zaU a b) r4 x=some (.c c) from h5]; rfl) h6
 | _=>exact h.elim
theorem zoD{t kt et:TypeId}{x:C}{k y:V}{m':M}(htk:tk P t=.map kt et)(h:upM P kt m x k y=some m'){ox ok oy:Operand}(h1:opd tm ox=some (.c x))(h2:opd tm ok=some k)(h3:opd tm oy=some y) :
  zci P tm (toH m) t ox ok oy=some (.val (.tup []) (toH m')):=by
 unfold upM at h;obtain⟨ks,hks,h4⟩:=zd7 h
 cases x with
 | map r=>
  cases hg:m.g r with
  | none=>simp only[hg] at h4; cases h4
  | some a=>
   cases a with
   | map es clock=>
    simp only[hg] at h4
    obtain⟨ku,hku,h5⟩:=zd7 h4;obtain⟨yu,hyu,h6⟩:=zd7 h5;obtain⟨q,hq,h7⟩:=zd7 h6;obtain⟨f,hf,h8⟩:=zd7 h7;unfold zci;rw[htk]
    show zaa (zbb P kt) none _=_
    rw[hks]
    show zaa (opd tm ox) none _=_
    rw[h1,zd6,h2,zd6,h3,zd6]
    show za3 (toH m) r none _=_
    rw[zof hg,hku,zd6,hyu,zd6,hq,zd6,hf,zd6]
    cases f with
    | none=>cases h8; exact congrArg (fun x=>some (R.val (V.tup []) x)) (zm4 m r _)
    | some p=>cases h8; exact congrArg (fun x=>some (R.val (V.tup []) x)) (zm4 m r _)
   | _=>simp only[hg] at h4; cases h4
 | _=>cases h4
theorem zoE{t kt et:TypeId}{x:C}{k:V}{zu y:U}{n:Nat}{m':M}(htk:tk P t=.map kt et){z:V}(hz:zeroV P et=some z)(hzu:vU z=some zu)(h:znq P kt m x k zu=some ((y,n),m')){ox ok:Operand}(h1:opd tm ox=some (.c x))(h2:opd tm ok=some k) :
  zcj P tm (toH m) t ox ok=some (.val (.tup [y,.c (.int .i64 (Int.ofNat n))]) (toH m')):=by
 unfold znq at h;obtain⟨ks,hks,h4⟩:=zd7 h
 cases x with
 | map r=>
  cases hg:m.g r with
  | none=>simp only[hg] at h4; cases h4
  | some a=>
   cases a with
   | map es clock=>
    simp only[hg] at h4
    obtain⟨ku,hku,h5⟩:=zd7 h4;obtain⟨q,hq,h7⟩:=zd7 h5;obtain⟨f,hf,h8⟩:=zd7 h7;unfold zcj;rw[htk]
    show zaa (zbb P kt) none _=_
    rw[hks]
    show zaa (opd tm ox) none _=_
    rw[h1,zd6,h2,zd6]
    show za3 (toH m) r none _=_
    rw[zof hg,hku,zd6,hq,zd6,hf,zd6]
    cases f with
    | none=>
     have h9:some ((zu,clock),m.set r (.map (appS es [{ k:=ku,v:=zu,born:=clock }]) (Nat.succ clock)))=some ((y,n),m'):=h8
     cases h9
     show zaa (zeroV P et) none _=_
     rw[hz,zd6,hzu,zd6];exact congrArg (fun x=>some (R.val _ x)) (zm4 m r _)
    | some p=>
     obtain⟨e,he,h9⟩:=zd7 (show zaa (atS es p.1) none _=_ from h8)
     cases h9
     show zaa (atS es p.1) none _=_
     rw[he,zd6];exact congrArg (fun x=>some (R.val _ x)) (zm4 m r _)
   | _=>simp only[hg] at h4; cases h4
 | _=>cases h4
theorem zoF{x:C}{y:V}{n:Nat}{k:IntKind}{m':M}(h:esM m x n y=some m'){ox os oy:Operand}(h1:opd tm ox=some (.c x))(h2:opd tm os=some (.c (.int k (Int.ofNat n))))(h3:opd tm oy=some y) :
  zcl tm (toH m) ox os oy=some (.val (.tup []) (toH m')):=by
 cases x with
 | map r=>
  simp only[esM] at h
  cases hg:m.g r with
  | none=>rw[hg] at h; cases h
  | some a=>
   rw[hg] at h
   cases a with
   | map es clock=>
    obtain⟨yu,hyu,h5⟩:=zd7 (show zaa (vU y) none _=_ from h);obtain⟨es',hes,h6⟩:=zd7 h5
    cases h6
    unfold zcl;rw[h1,zd6,h2,zd6,h3,zd6]
    show za3 (toH m) r none _=_
    rw[zof hg,hyu,zd6,hes,zd6];exact congrArg (fun x=>some (R.val (V.tup []) x)) (zm4 m r _)
   | _=>cases h
 | _=>cases h
theorem zoG{t kt et:TypeId}{x:C}{k:V}{f:Option U}(htk:tk P t=.map kt et)(h:lkM P kt m x k=some f){ox ok:Operand}(h1:opd tm ox=some (.c x))(h2:opd tm ok=some k){z:V}(hz:zeroV P et=some z)(cok:Bool) :
  zch P tm (toH m) t ox ok cok=zaa f (zcg (toH m) z cok false) fun q=>zcg (toH m) (uV q) cok true:=by
 unfold lkM at h;obtain⟨ks,hks,h3⟩:=zd7 h;obtain⟨q,hq,h4⟩:=zd7 h3;unfold zch;rw[htk]
 show zaa (zbb P kt) none _=_
 rw[hks]
 show zaa (opd tm ox) none _=_
 rw[h1,zd6,h2,zd6,hq,zd6]
 cases x with
 | map0=>
  cases h4
  show zaa (zeroV P et) none _=_
  rw[hz]; rfl
 | map r=>
  cases hg:m.g r with
  | none=>simp only[hg] at h4; cases h4
  | some a=>
   cases a with
   | map es clock=>
    simp only[hg] at h4
    obtain⟨f',hf,h8⟩:=zd7 h4
    cases h8
    show zaa (za3 (toH m) r none fun es _=>zcd P kt k es 0) none _=_
    rw[zof hg,hf,zd6]
    cases f' with
    | none=>show zaa (zeroV P et) none _=_; rw[hz]; rfl
    | some p=>rfl
   | _=>simp only[hg] at h4; cases h4
 | _=>cases h4
theorem zoH{t:TypeId}{K:U->Prop}(h:exM P t K):∃u,K u:=by
 unfold exM at h
 cases hk:tk P t with
 | sl e=>rw[hk] at h; obtain⟨c,hc⟩:=(show ∃c,K (.c c) from h); exact⟨_,hc⟩
 | _=>rw[hk] at h; exact h
theorem zoI{t:TypeId}{K:U->Prop}(h:exE P t K):∃u,K u:=by
 unfold exE at h
 cases hb:Nat.beq t 0 with
 | true=>rw[hb] at h; exact h
 | false=>rw[hb] at h; exact(zn7 h).imp fun _ q=>q.1
theorem zoJ{t kt et:TypeId}{x:C}{o:AO}(htk:tk P t=.map kt et)(h:znr m x=some o){ox:Operand}(h1:opd tm ox=some (.c x)):zcn P tm (toH m) t ox=some (.val (.c (.ptr m.nxt 0)) (zaZ (toH m) o)):=by
 unfold zcn;rw[htk]
 show zaa (opd tm ox) none _=_
 rw[h1,zd6]
 cases x with
 | map0=>cases h; rfl
 | map r=>
  simp only[znr] at h
  cases hg:m.g r with
  | none=>rw[hg] at h; cases h
  | some a=>
   rw[hg] at h
   cases a with
   | map es clock=>
    cases h
    show za3 (toH m) r none (fun _ clock=>zcm (toH m) (some r) clock)=_
    rw[zof hg]; rfl
   | _=>cases h
 | _=>cases h
theorem zoK{b:Nat}{mm:Option Nat}{since:Nat}{seen:List Nat}{last:Nat}(hg:m.g b=some (.iter mm since seen last)){β:Type}(d:β)(s:Option Nat->Nat->List Nat->Nat->β):za4 (toH m) b d s=s mm since seen last:=by
 unfold za4;rw[zm7,hg]; rfl
theorem zoL{it:Operand}{x:C}{l:List ((U × U) × M)}(h:nxM m x=some l)(h1:opd tm it=some (.c x)):zcp tm (toH m) it=some (zab l (.val zco (toH m)) fun p q=>.alts (zbZ (fun p:(U × U) × M=>(.tup [.c (.bool true),p.1.1,p.1.2],toH p.2)) (p::q))):=by
 unfold zcp;rw[h1,zd6]
 cases x with
 | ptr b o=>
  have h2:ifB (Nat.beq o 0) (match m.g b with
   | some (.iter none _ _ _)=>some []
   | some (.iter (some r) since seen last)=>match m.g r with
    | some (.map es clock)=>ifB (zab seen true fun _ _=>zab es true fun _ _=>zaM (fun e:E=>ltN e.born last) es)
      (ifB (zaM (fun e:E=>ifB (zaK e.born seen) false (ifB (ltN e.born since) false true)) es) none
       (some (zbZ (fun e:E=>((e.k,e.v),m.set b (.iter (some r) since (e.born::seen) clock))) (zaN (fun e:E=>ifB (zaK e.born seen) false true) es)))) none
    | _=>none
   | _=>none) none=some l:=h
  obtain⟨h3,h4⟩:=zd8 h2
  show ifB (Nat.beq o 0) _ none=_
  rw[h3,zd3]
  cases hg:m.g b with
  | none=>rw[hg] at h4; cases h4
  | some a=>
   rw[hg] at h4
   cases a with
   | iter mm since seen last=>
    rw[zoK hg]
    cases mm with
    | none=>cases h4; rfl
    | some r=>
     rw[zd6]
     cases hr:m.g r with
     | none=>simp only[hr] at h4; cases h4
     | some c=>
      simp only[hr] at h4
      cases c with
      | map es clock=>
       simp only at h4
       rw[zof hr];obtain⟨h5,h6⟩:=zd8 h4;rw[h5,zd3]
       cases ha:zaM (fun e:E=>ifB (zaK e.born seen) false (ifB (ltN e.born since) false true)) es with
       | true=>rw[ha] at h6; cases h6
       | false=>
        rw[ha,zd4] at h6;rw[zd4]
        cases h6
        generalize zaN (fun e:E=>ifB (zaK e.born seen) false true) es=fs
        cases fs with
        | nil=>rfl
        | cons e fs=>
         show some (R.alts _)=some (R.alts _)
         congr 2
         have:∀q:List E,zbZ (fun e:E=>((.tup [.c (.bool true),e.k,e.v],za0 (toH m) b (.iter (some r) since (e.born::seen) clock)):V × H)) q=zbZ (fun p:(U × U) × M=>((.tup [.c (.bool true),p.1.1,p.1.2],toH p.2):V × H)) (zbZ (fun e:E=>((e.k,e.v),m.set b (.iter (some r) since (e.born::seen) clock))) q):=by
          intro q
          induction q with
          | nil=>rfl
          | cons e q ih=>
           show(_,za0 (toH m) b _)::zbZ _ q=(_,_)::zbZ _ (zbZ _ q)
           rw[ih,zm4]
         exact this (e::fs)
      | _=>cases h4
   | _=>cases h4
 | _=>cases h
theorem zoM{it:Operand}{x:C}{k y:U}(h:enM m x=some (k,y))(h1:opd tm it=some (.c x)):zcr tm (toH m) it=some (.val (.tup [k,y]) (toH m)):=by
 unfold zcr;rw[h1,zd6]
 cases x with
 | ptr b o=>
  have h2:ifB (Nat.beq o 0) (match m.g b with
   | some (.iter (some r) _ (stamp::_) last)=>match m.g r with
    | some (.map es clock)=>ifB (Nat.beq clock last) (zns stamp es) none
    | _=>none
   | _=>none) none=some (k,y):=h
  obtain⟨h3,h4⟩:=zd8 h2
  show ifB (Nat.beq o 0) _ none=_
  rw[h3,zd3]
  cases hg:m.g b with
  | none=>rw[hg] at h4; cases h4
  | some a=>
   rw[hg] at h4
   cases a with
   | iter mm since seen last=>
    rw[zoK hg]
    cases mm with
    | none=>cases h4
    | some r=>
     cases seen with
     | nil=>cases h4
     | cons stamp rest=>
      rw[zd6]
      show za3 (toH m) r none _=_
      cases hr:m.g r with
      | none=>simp only[hr] at h4; cases h4
      | some c=>
       simp only[hr] at h4
       cases c with
       | map es clock=>
        simp only at h4
        rw[zof hr];obtain⟨h5,h6⟩:=zd8 h4;rw[h5,zd3]
        have:∀q:List E,zns stamp q=some (k,y)->zcq stamp q=some (.tup [k,y]):=by
         intro q
         induction q with
         | nil=>intro hq; cases hq
         | cons e q ih=>
          intro hq;have hq':ifB (Nat.beq e.born stamp) (some (e.k,e.v)) (zns stamp q)=some (k,y):=hq
          show ifB (Nat.beq e.born stamp) (some (.tup [e.k,e.v])) (zcq stamp q)=_
          cases hb:Nat.beq e.born stamp with
          | true=>rw[hb] at hq'; cases hq'; rfl
          | false=>rw[hb] at hq'; exact ih hq'
        rw[this es h6]; rfl
       | _=>cases h4
   | _=>cases h4
 | _=>cases h
theorem zoN{α β:Type}(f:α->β):∀l:List α,zbZ f l=l.map f
 | []=>rfl
 | x::l=>by show f x::zbZ f l=_; rw[zoN f l]; rfl
theorem zoO{ty:TypeId}{op:Op}{xt:Nat->TypeId}(h:op1 P T al xt tm m ty op K):∃r,opR P tm (toH m) op=some r/\RK P T al m K r/\(isV r=true\/classOf op=2):=by
 cases op with
 | move x=>
  obtain⟨v,h1,h2⟩:=znQ (show orP (opd tm x) fun v=>K v m from h);exact RK.same (by show vR (toH m) (opd tm x)=_; rw[h1]; rfl) h2
 | assign x=>
  obtain⟨v,h1,h2⟩:=znQ (show orP (opd tm x) fun v=>K v m from h);exact RK.same (by show vR (toH m) (opd tm x)=_; rw[h1]; rfl) h2
 | pick c x y=>
  obtain⟨v,h1,h2⟩:=znQ (show orP (opd tm c) _ from h);obtain⟨t,rfl,h3⟩:=znU h2
  cases t with
  | true=>
   obtain⟨a,h4,h5⟩:=znQ (show orP (opd tm x) _ from h3);exact RK.same (by show zaa (opd tm c) none _=_; rw[h1]; show vR (toH m) (opd tm x)=_; rw[h4]; rfl) h5
  | false=>
   obtain⟨a,h4,h5⟩:=znQ (show orP (opd tm y) _ from h3);exact RK.same (by show zaa (opd tm c) none _=_; rw[h1]; show vR (toH m) (opd tm y)=_; rw[h4]; rfl) h5
 | alloc t=>
  obtain⟨z,h1,h2⟩:=znQ (show orP (zeroV P t) _ from h);exact RK.new (by show zaa (zeroV P t) none _=_; rw[h1]; rfl) h2
 | box t x=>
  obtain⟨a,h1,h2⟩:=znQ (show orP (opd tm x) _ from h);obtain⟨h3,h4⟩:=znX h2;exact RK.new (by show zaa (opd tm x) none _=_; rw[h1]; show zbh a none _=_; rw[h4]; rfl) h3
 | build t ps=>
  obtain⟨z,h1,h2⟩:=znQ (show orP (zeroV P t) _ from h);obtain⟨l,h3,h4⟩:=znQ h2;obtain⟨v,h5,h6⟩:=znQ h4;exact RK.same (by show zaa (zeroV P t) none _=_; rw[h1]; show zaa (zaE (zbN tm) ps.toList) none _=_; rw[h3]; show vR (toH m) _=_; rw[h5]; rfl) h6
 | buildSlice t len ps=>
  obtain⟨e,he,h0⟩:=znY (show za6 (tk P t) False _ from h);obtain⟨h1,h2⟩:=znR h0;obtain⟨z,h3,h4⟩:=znQ h2;obtain⟨h5,h6⟩:=znR h4;obtain⟨h7,h8⟩:=znR h6;obtain⟨l,h9,h10⟩:=znQ h8;obtain⟨cs,h11,h12⟩:=znQ h10;refine RK.new ?_ h12
  show za6 (tk P t) none _=_
  rw[he]
  show ifB _ _ none=_
  rw[h1,zd3,h3,zd6,h5,zd3,h7,zd3,h9,zd6,h11]; rfl
 | load t a=>
  obtain⟨v,h1,h2⟩:=znQ (show orP (opd tm a) _ from h);obtain⟨x,rfl,h3⟩:=znS h2;obtain⟨h4,h5⟩:=znR h3
  cases hf:za9 P t with
  | true=>
   rw[hf] at h5;obtain⟨l,h6,h7⟩:=zn6 h5;obtain⟨b,o,rfl,h8⟩:=zod h6;refine RK.same ?_ h7
   show zaa (opd tm a) none _=_
   rw[h1]
   show vR (toH m) (zbf P (toH m) t b o)=_
   unfold zbf;rw[h4,hf,zd3,zd3,h8]; rfl
  | false=>
   rw[hf] at h5;obtain⟨c,h6,h7⟩:=zn4 (show exC (znt P t) (fun c=>ldC m x=some c/\K (.c c) m) from h5);obtain⟨b,o,rfl,h8⟩:=zoc h6;refine RK.same ?_ h7
   show zaa (opd tm a) none _=_
   rw[h1]
   show vR (toH m) (zbf P (toH m) t b o)=_
   unfold zbf;rw[h4,hf,zd3,zd4,h8]; rfl
 | store t a y=>
  obtain⟨v,h1,h2⟩:=znQ (show orP (opd tm a) _ from h);obtain⟨x,rfl,h3⟩:=znS h2;obtain⟨w,h4,h5⟩:=znQ h3;obtain⟨h6,h7⟩:=znX h5;obtain⟨h8,h9⟩:=znR h6;obtain⟨h10,m',h11,h12⟩:=znR h9;obtain⟨b,o,rfl,h13⟩:=zog h11;refine RK.to ?_ h12
  show zaa (opd tm a) none _=_
  rw[h1]
  show zaa (opd tm y) none _=_
  rw[h4]
  show uR (zbi P (toH m) t b o w)=_
  unfold zbi;rw[h7,h8,zd3,h10,zd3,h13]; rfl
 | nilCheck x=>
  obtain⟨v,h1,h2⟩:=znQ (show orP (opd tm x) _ from h);obtain⟨c,rfl,h3,h4⟩:=znS h2;refine RK.same ?_ h4
  show zaa (opd tm x) none _=_
  rw[h1]
  cases c with
  | fn f a b=>cases f <;> first | exact h3.elim | rfl
  | _=>first | exact h3.elim | rfl
 | binOp op t x y yt=>
  obtain⟨a,h1,h2⟩:=znQ (show orP (opd tm x) _ from h);obtain⟨b,h3,h4⟩:=znQ h2;obtain⟨c,h5,h6⟩:=zov h4;exact RK.same (by show zaa (opd tm x) none _=_; rw[h1]; show zaa (opd tm y) none _=_; rw[h3]; show vR (toH m) _=_; rw[h5]; rfl) h6
 | unOp op t x=>
  obtain⟨a,h1,h2⟩:=znQ (show orP (opd tm x) _ from h);obtain⟨c,h5,h6⟩:=zow h2;exact RK.same (by show zaa (opd tm x) none _=_; rw[h1]; show vR (toH m) _=_; rw[h5]; rfl) h6
 | convert s d x=>
  obtain⟨a,h1,h2⟩:=znQ (show orP (opd tm x) _ from h);obtain⟨c,h5,h6⟩:=zox h2;exact RK.same (by show zaa (opd tm x) none _=_; rw[h1]; show vR (toH m) _=_; rw[h5]; rfl) h6
 | makeFunc f a b=>
  obtain⟨h0,h1⟩:=znR h
  have two:∀{l:List Operand} {vs:List V} {ws:List W},zaE (opd tm) l=some vs->zaE vW vs=some ws->zaE (zb0 tm) l=some ws:=by
   intro l
   induction l with
   | nil=>intro vs ws q1 q2; cases q1; cases q2; rfl
   | cons x xs ih=>
    intro vs ws q1 q2;obtain⟨v,r1,r2⟩:=zd7 (show zaa (opd tm x) none (fun y=>zaa (zaE (opd tm) xs) none fun ys=>some (y::ys))=some vs from q1);obtain⟨ys,r3,r4⟩:=zd7 r2
    cases r4
    obtain⟨u,s1,s2⟩:=zd7 (show zaa (vW v) none (fun y=>zaa (zaE vW ys) none fun ys=>some (y::ys))=some ws from q2);obtain⟨us,s3,s4⟩:=zd7 s2
    cases s4
    show zaa (zaa (opd tm x) none vW) none (fun y=>zaa (zaE (zb0 tm) xs) none fun ys=>some (y::ys))=_
    rw[r1,zd6,s1,zd6,ih r3 s3]; rfl
  obtain⟨va,h2a,h3a⟩:=znQ h1;obtain⟨a',h2b,h3⟩:=znQ h3a;obtain⟨vb,h4a,h5a⟩:=znQ h3;obtain⟨b',h4b,h5⟩:=znQ h5a;have h2:=two h2a h2b;have h4:=two h4a h4b;refine RK.same ?_ h5
  show zb2 tm (toH m) f a b=_
  unfold zb2;rw[h0,zd3,h2,zd6,h4]; rfl
 | makeMap t r=>
  cases r with
  | none=>exact RK.new rfl h
  | some r=>exact h.elim
 | makeSlice t l c=>
  obtain⟨e,he,h0⟩:=znY (show za6 (tk P t) False _ from h);obtain⟨x,h1,h2⟩:=znQ h0;obtain⟨y,h3,h4⟩:=znQ h2;obtain⟨k1,l',rfl,h5⟩:=znT h4;obtain⟨k2,c',rfl,h6⟩:=znT h5;obtain⟨z,h7,h8⟩:=znQ h6;obtain⟨h9,h10⟩:=znR h8;obtain⟨h11,l2,c2,rfl,rfl,h12,h13,h14⟩:=znR h10;refine RK.new ?_ h14
  show zb3 P tm (toH m) t l c=_
  unfold zb3;rw[he]
  show zaa (opd tm l) none _=_
  rw[h1]
  show zaa (opd tm c) none _=_
  rw[h3]
  show ifB (Nat.ble l2 c2) _ none=_
  rw[Nat.ble_eq_true_of_le h12,zd3,Nat.ble_eq_true_of_le h13,zd3,h9,zd3,h7,zd6,h11]; rfl
 | slice t x lo hi mx=>
  cases mx with
  | some _=>exact h.elim
  | none=>
   obtain⟨v,h1,h2⟩:=znQ (show orP (opd tm x) _ from h);obtain⟨a,rfl,h3⟩:=znS h2
   cases htk:tk P t with
   | sl e=>
    rw[htk] at h3;obtain⟨h4,l,k,h5,h6,c',h7,h8⟩:=znR h3;refine RK.same ?_ h8
    show zaa (opd tm x) none _=_
    rw[h1]
    show zaa (zb4 tm 0 lo) none _=_
    rw[zoA h5,zd6,htk]
    show ifB (zba P e) _ none=_
    rw[h4,zd3]
    cases a with
    | sl0=>
     show ifB (Nat.beq l 0) (zaa (zb4 tm 0 hi) none _) none=_
     rw[show zb4 tm 0 hi=some k from zoA h6,zd6];have h9:ifB (Nat.beq l 0) (ifB (Nat.beq k 0) (some C.sl0) none) none=some c':=h7;obtain⟨q1,h10⟩:=zd8 h9;obtain⟨q2,h11⟩:=zd8 h10
     cases h11
     rw[q1,zd3,q2]; rfl
    | sl b o n s c=>
     show zaa (zb4 tm n hi) none _=_
     rw[show zb4 tm n hi=some k from zoA h6,zd6];obtain⟨q1,h10⟩:=zd8 (show ifB (Nat.ble l k) _ none=some c' from h7);rw[q1,zd3]
     cases c with
     | none=>
      obtain⟨q2,h11⟩:=zd8 (show ifB (Nat.ble k n) _ none=some c' from h10);obtain⟨q3,h12⟩:=zd8 h11
      cases h12
      rw[zd5,q2,zd3,q3]; rfl
     | some c=>
      obtain⟨q2,h11⟩:=zd8 (show ifB (Nat.ble k c) _ none=some c' from h10)
      cases h11
      rw[zd6,q2]; rfl
    | _=>cases h7
   | arr n e=>
    rw[htk] at h3;obtain⟨h4,h4'⟩:=znR h3;obtain⟨h4b,l,k,h5,h6,c',h7,h8⟩:=znR h4';refine RK.same ?_ h8
    show zaa (opd tm x) none _=_
    rw[h1]
    show zaa (zb4 tm 0 lo) none _=_
    rw[zoA h5,zd6,htk]
    show ifB (zba P e) _ none=_
    rw[h4,zd3,h4b,zd3]
    cases a with
    | ptr b o=>
     show zaa (zb4 tm n hi) none _=_
     rw[zoA h6,zd6];obtain⟨q1,h10⟩:=zd8 (show ifB (Nat.ble l k) _ none=some c' from h7);obtain⟨q2,h11⟩:=zd8 h10
     cases h11
     rw[q1,zd3,q2]; rfl
    | _=>cases h7
   | _=>rw[htk] at h3; exact h3.elim
 | fieldAddr s x f=>
  obtain⟨fs,h1,h2⟩:=zn0 (show za8 (tk P s) False _ from h);obtain⟨fl,h3,h4⟩:=znQ h2;obtain⟨v,h5,h6⟩:=znQ h4;obtain⟨c,rfl,h7⟩:=znS h6
  cases hz:Nat.beq (P.cellsOf fl.type) 0 with
  | true=>rw[hz] at h7; exact h7.elim
  | false=>
   rw[hz] at h7;have h8:isPt c/\K (.c (znk c fl.offset)) m:=h7
   cases c with
   | ptr b o=>
    refine RK.same ?_ h8.2
    show zb8 P tm (toH m) s x f=_
    unfold zb8;rw[h1]
    show zaa (atS fs f) none _=_
    rw[h3,zd6,h5]
    show ifB _ none _=_
    rw[hz]; rfl
   | _=>exact h8.1.elim
 | field s x f=>
  obtain⟨fs,h1,h2⟩:=zn0 (show za8 (tk P s) False _ from h);obtain⟨fl,h3,h4⟩:=znQ h2;obtain⟨v,h5,h6⟩:=znQ h4;obtain⟨n,cs,rfl,h7⟩:=znV h6
  have h8:∃v,zbe P fl.type cs fl.offset=some v/\K v m:=by
   cases hz:few P s with
   | true=>rw[hz] at h7; exact znQ h7
   | false=>rw[hz] at h7; exact zob h7
  obtain⟨v,h9,h10⟩:=h8;refine RK.same ?_ h10
  show zb9 P tm (toH m) s x f=_
  unfold zb9;rw[h1]
  show zaa (atS fs f) none _=_
  rw[h3,zd6,h5]
  show vR (toH m) _=_
  rw[h9]; rfl
 | indexAddr t x i=>
  obtain⟨v,h1,h2⟩:=znQ (show orP (opd tm x) _ from h);obtain⟨c,rfl,h3⟩:=znS h2;obtain⟨iv,h4,h5⟩:=znQ h3;obtain⟨k,z,rfl,h6⟩:=znT h5
  cases htk:tk P t with
  | sl e=>
   rw[htk] at h6;obtain⟨h7,n,rfl,h8,h9⟩:=znR h6
   cases c with
   | sl b o len s cc=>
    refine RK.same ?_ h9
    show zcb P tm (toH m) t x i=_
    unfold zcb;rw[h1,zd6,h4,zd6,htk]
    show zca P (toH m) e len b o n=_
    unfold zca;rw[h7,zd3,zn2 (show n < len from h8)]; rfl
   | _=>exact absurd h8 (Nat.not_lt_zero _)
  | arr len e=>
   rw[htk] at h6;obtain⟨h7,h7b,n,rfl,h8,h9⟩:=znR h6
   cases c with
   | ptr b o=>
    refine RK.same ?_ h9
    show zcb P tm (toH m) t x i=_
    unfold zcb;rw[h1,zd6,h4,zd6,htk]
    show zca P (toH m) e len b o n=_
    unfold zca;rw[h7,zd3,zn2 h8]; rfl
   | _=>exact h7b.elim
  | _=>rw[htk] at h6; exact h6.elim
 | index t x i=>
  obtain⟨v,h1,h2⟩:=znQ (show orP (opd tm x) _ from h);obtain⟨iv,h4,h5⟩:=znQ h2;obtain⟨k,z,rfl,h6⟩:=znT h5
  cases htk:tk P t with
  | arr len e=>
   rw[htk] at h6;obtain⟨n',cs,rfl,n,rfl,h8,h9⟩:=znV h6;obtain⟨w,h10,h11⟩:=zob h9;refine RK.same ?_ h11
   show zcc P tm (toH m) t x i=_
   unfold zcc;rw[h1,zd6,h4,zd6,htk]
   show ifB (ltN n len) (vR (toH m) (zbe P e cs (Nat.mul n (P.cellsOf e)))) none=_
   rw[zn2 h8,zd3,show zbe P e cs (Nat.mul n (P.cellsOf e))=some w from h10]; rfl
  | _=>rw[htk] at h6; exact h6.elim
 | lookup t x k cok=>
  obtain⟨kt,et,h1,h2⟩:=znZ (show za7 (tk P t) False _ from h);obtain⟨v,h3,h4⟩:=znQ h2;obtain⟨c,rfl,h5⟩:=znS h4;obtain⟨kv,h6,h7⟩:=znQ h5;obtain⟨z,h8,f,h9,h10,h11⟩:=znQ h7;have h12:=zoG h1 h9 h3 h6 h8 cok
  cases f with
  | none=>
   obtain⟨w,h13,h14⟩:=znQ (h10 rfl);refine RK.same ?_ h14
   show zch P tm (toH m) t x k cok=_
   rw[h12]
   show vR (toH m) (znP z cok false)=_
   rw[h13]; rfl
  | some u=>
   obtain⟨y,⟨rfl,h13⟩,_⟩:=zn7 (h11 u rfl);obtain⟨w,h14,h15⟩:=znQ h13;refine RK.same ?_ h15
   show zch P tm (toH m) t x k cok=_
   rw[h12]
   show vR (toH m) (znP (uV u) cok true)=_
   rw[h14]; rfl
 | mapUpdate t x k y=>
  obtain⟨kt,et,h1,h2⟩:=znZ (show za7 (tk P t) False _ from h);obtain⟨v,h3,h4⟩:=znQ h2;obtain⟨c,rfl,h5⟩:=znS h4;obtain⟨kv,h6,h7⟩:=znQ h5;obtain⟨w,h8,m',h9,h10⟩:=znQ h7;exact RK.to (zoD h1 h9 h3 h6 h8) h10
 | insert t x k y=>
  obtain⟨kt,et,h1,h2⟩:=znZ (show za7 (tk P t) False _ from h);obtain⟨v,h3,h4⟩:=znQ h2;obtain⟨c,rfl,h5⟩:=znS h4;obtain⟨kv,h6,h7⟩:=znQ h5;obtain⟨w,h8,m',h9,h10⟩:=znQ h7;exact RK.to (zoD h1 h9 h3 h6 h8) h10
 | mapEntry t x k=>
  obtain⟨kt,et,h1,h2⟩:=znZ (show za7 (tk P t) False _ from h);obtain⟨v,h3,h4⟩:=znQ h2;obtain⟨c,rfl,h5⟩:=znS h4;obtain⟨kv,h6,h7⟩:=znQ h5;obtain⟨z,h8,h9⟩:=znQ h7;obtain⟨zu,h10,h13⟩:=znQ h9;obtain⟨y,n,m',h11,h12⟩:=zoH h13;exact RK.to (zoE h1 h8 h10 h11 h3 h6) h12
 | entryStore t x s y=>
  obtain⟨v,h3,h4⟩:=znQ (show orP (opd tm x) _ from h);obtain⟨c,rfl,h5⟩:=znS h4;obtain⟨sv,h6,h7⟩:=znQ h5;obtain⟨w,h8,h9⟩:=znQ h7;obtain⟨k,z,rfl,n,m',rfl,h10,h11⟩:=znT h9;exact RK.to (zoF h10 h3 h6 h8) h11
 | range t x=>
  obtain⟨kt,et,h1,h2⟩:=znZ (show za7 (tk P t) False _ from h);obtain⟨v,h3,h4⟩:=znQ h2;obtain⟨c,rfl,o,h5,h6⟩:=znS h4;exact RK.new (zoJ h1 h5 h3) h6
 | next it s=>
  cases s with
  | true=>exact h.elim
  | false=>
   cases hal:al with
   | false=>rw[hal] at h; exact h.elim
   | true=>
    rw[hal] at h;obtain⟨v,h3,h4⟩:=znQ (show orP (opd tm it) _ from h);obtain⟨c,rfl,l,h5,h7,h8⟩:=znS h4;have h9:=zoL h5 h3;refine⟨_,h9,?_,.inr rfl⟩
    cases l with
    | nil=>exact⟨m,rfl,h7 rfl⟩
    | cons p q=>
     refine⟨rfl,(fun hc=>by cases hc),fun r hr=>?_⟩
     ·rw[zoN] at hr;obtain⟨⟨⟨k,y⟩,m'⟩,hm,rfl⟩:=List.mem_map.1 hr;exact⟨m',rfl,h8 k y m' hm⟩
 | entry it=>
  obtain⟨v,h3,h4⟩:=znQ (show orP (opd tm it) _ from h);obtain⟨c,rfl,h5⟩:=znS h4;obtain⟨k,h6⟩:=zoI h5;obtain⟨y,h7,h8⟩:=zoI h6;exact RK.same (zoM h7 h3) h8
 | extract t i=>
  obtain⟨v,h1,h2⟩:=znQ (show orP (opd tm t) _ from h);obtain⟨us,rfl,h3⟩:=znW h2;obtain⟨u,h4,h5⟩:=znQ h3;exact RK.same (by show zaa (opd tm t) none _=_; rw[h1]; show zaa (atS us i) none _=_; rw[h4]; rfl) h5
 | call c=>
  obtain⟨args,h1,h2⟩:=znQ (show orP (zaE (opd tm) c.args.toList) _ from h);have heq:opR P tm (toH m) (.call c)=zcG P tm (toH m) c:=rfl;rw[heq];unfold zcG;rw[h1,zd6]
  cases hc:c.callee with
  | value f=>
   rw[hc] at h2;obtain⟨v,h3,h4⟩:=znQ (show orP (opd tm f) _ from h2);obtain⟨x,rfl,h5⟩:=znS h4;obtain⟨r,h6,h7⟩:=zoB (al:=al) h5;refine⟨r,by show zaa (opd tm f) none _=_; rw[h3]; exact h6,?_,.inr (by obtain⟨cal,asn,ts⟩:=c; simp only at hc; subst hc; rfl)⟩
   cases r with
   | val v h'=>exact h7.elim fun m' h8=>⟨m',h8.1,zoa h8.2⟩
   | call g args=>exact Wc.mono h7 fun _ _=>zoa
   | yield l args=>exact Wy.mono h7 fun _ _=>zoa
   | alts l=>exact⟨h7.1,h7.2.1,fun p hp=>(h7.2.2 p hp).imp fun m' h8=>⟨h8.1,zoa h8.2⟩⟩
  | invoke r s=>rw[hc] at h2; exact h2.elim
  | builtin b=>
   rw[hc] at h2;exact zoC h2
 | _=>exact h.elim
end
end Go.Abs

namespace Go.Abs
noncomputable section
variable {P:Program} {rec:Rec}
def zoP(A:List Nat)(tm tm':S3 V):Prop:=∀p,(∀s∈A,zae s ≠ p)->zec p tm'=zec p tm
theorem zoP.refl(A:List Nat)(tm:S3 V):zoP A tm tm:=fun _ _=>rfl
theorem zoP.trans{A B C:List Nat}{t1 t2 t3:S3 V}(h:zoP A t1 t2)(h':zoP B t2 t3)(ha:∀s∈A,s∈C)(hb:∀s∈B,s∈C):zoP C t1 t3:=fun p hp=>
 (h' p fun s hs=>hp s (hb s hs)).trans (h p fun s hs=>hp s (ha s hs))
theorem zoP.sub{A B:List Nat}{t1 t2:S3 V}(h:zoP A t1 t2)(hs:∀s∈A,s∈B):zoP B t1 t2:=fun p hp=>h p fun s hm=>hp s (hs s hm)
theorem zoQ{tm:S3 V}{d:Option Nat}{v:V}{A:List Nat}(hd:∀t,d=some t->t∈A):zoP A tm (zcP tm d v):=fun p hp=>by
 cases d with
 | none=>rfl
 | some t=>rw[zig,zeg,if_neg fun h=>hp t (hd t rfl) h.symm]
theorem zoR{k:K}{ex:Ex}{tm:S3 V}{h:H}:∀{x:Out},zh5 (bind x k) ex tm h->∃ex1 tm1 h1,zh5 x ex1 tm1 h1/\zh5 (k ex1 tm1 h1) ex tm h
 | .ok ex1 tm1 h1,hh=>⟨ex1,tm1,h1,.ok _ _ _,hh⟩
 | .or a b,hh=>by
  rcases zh8 (show zh5 (.or (bind a k) (bind b k)) ex tm h from hh) with h1 | h1
  ·obtain⟨ex1,tm1,h2,h3,h4⟩:=zoR h1; exact⟨ex1,tm1,h2,.l h3,h4⟩
  ·obtain⟨ex1,tm1,h2,h3,h4⟩:=zoR h1; exact⟨ex1,tm1,h2,.r h3,h4⟩
theorem zoS{α:Type}{o:Option α}{s:α->Out}{ex:Ex}{tm:S3 V}{h:H}(hh:zh5 (orF o s) ex tm h):∃x,o=some x/\zh5 (s x) ex tm h:=by
 cases o with
 | none=>cases hh
 | some x=>exact⟨x,rfl,hh⟩
theorem zoT{b:Bool}{x:Out}{ex:Ex}{tm:S3 V}{h:H}(hh:zh5 (ifB b x .fail) ex tm h):b=true/\zh5 x ex tm h:=by
 cases b with
 | true=>exact⟨rfl,hh⟩
 | false=>cases hh
theorem zoU{ex0 ex:Ex}{f:V->Out}{tm:S3 V}{h:H}(hh:zh5 (exB ex0 .fail (fun _=>.fail) .fail f) ex tm h):∃v,ex0=.val v/\zh5 (f v) ex tm h:=by
 cases ex0 with
 | val v=>exact⟨v,rfl,hh⟩
 | _=>cases hh
def zoV(A:List Nat)(r:Run):Prop:=∀tm h ex tm' h',zh5 (r tm h) ex tm' h'->zoP A tm tm'
def zoW(A:List Nat)(r:zdo):Prop:=∀tm h hs rs ex tm' h',zh5 (r tm h hs rs) ex tm' h'->zoP A tm tm'
theorem zoX{o:Oper}{l:List Oper}:(∀t,o.dst=some t->t∈zdD (o::l))/\∀s∈zdD l,s∈zdD (o::l):=by
 have h0:zdD (o::l)=zaa o.dst (zdD l) fun d=>d::zdD l:=rfl;rw[h0]
 cases o.dst with
 | none=>exact⟨fun t ht=>(by cases ht),fun s hs=>hs⟩
 | some d=>exact⟨fun t ht=>(by cases ht; exact List.mem_cons_self ..),fun s hs=>List.mem_cons_of_mem _ hs⟩
theorem zoY{A:List Nat}{next:Run}(hn:zoV A next){d:Option Nat}(hd:∀t,d=some t->t∈A){tm:S3 V}{h:H}{r:R}{ex:Ex}{tm':S3 V}{h':H}(hh:zh5 (zcS rec next d tm h r) ex tm' h'):zoP A tm tm':=by
 have hk:∀{v h1},zh5 (next (zcP tm d v) h1) ex tm' h'->zoP A tm tm':=fun hq=>(zoQ hd).trans (hn _ _ _ _ _ hq) (fun _ h=>h) fun _ h=>h
 cases r with
 | val v h1=>exact hk hh
 | call f args=>
  obtain⟨ex1,tm1,h1,_,h2⟩:=zoR hh;obtain⟨v,_,h3⟩:=zoU h2;exact hk h3
 | yield f args=>
  obtain⟨ex1,tm1,h1,_,h2⟩:=zoR hh;obtain⟨v,_,h3⟩:=zoU h2;exact hk h3
 | alts l=>
  have hl:∀l,zh5 (zcR next d tm l) ex tm' h'->zoP A tm tm':=fun l=>by
   induction l with
   | nil=>intro hh; cases hh
   | cons p ps ih=>
    cases ps with
    | nil=>exact fun hh=>hk hh
    | cons q qs=>
     intro hh
     rcases zh8 (show zh5 (.or (next (zcP tm d p.1) p.2) (zcR next d tm (q::qs))) ex tm' h' from hh) with h1 | h1
     ·exact hk h1
     ·exact ih h1
  exact hl l hh
theorem zoZ{ops:List Oper}:∀{l:List Oper},zoV (zdD l) (zcU P rec ops l)
 | []=>fun tm h ex tm' h' hh=>by cases hh; exact .refl _ _
 | o::l=>fun tm h ex tm' h' hh=>by
  have h0:zh5 (zcT P rec ops o (zcU P rec ops l) tm h) ex tm' h':=hh;obtain⟨m1,m2⟩:=zoX (o:=o) (l:=l);have hn:zoV (zdD (o::l)) (zcU P rec ops l):=fun _ _ _ _ _ hq=>(zoZ _ _ _ _ _ hq).sub m2;rw[zid] at h0;obtain⟨t,_,h1⟩:=zoS h0
  cases t with
  | true=>
   obtain⟨r,_,h2⟩:=zoS h1;exact zoY hn m1 h2
  | false=>exact(zoQ m1).trans (hn _ _ _ _ _ h1) (fun _ h=>h) fun _ h=>h
theorem zo0{A:List Nat}{next:zdo}(hn:zoW A next){d:DI}(hd:∀t,d.o.dst=some t->t∈A){tm:S3 V}{h:H}{hs:List (Nat × H)}{rs:List RE}{v:V}{h1:H}{ex:Ex}{tm':S3 V}{h':H}
  (hh:zh5 (zdp P next d tm h hs rs v h1) ex tm' h'):zoP A tm tm':=by
 obtain⟨_,h2⟩:=zoT hh;exact(zoQ hd).trans (hn _ _ _ _ _ _ _ h2) (fun _ h=>h) fun _ h=>h
theorem zo1{A:List Nat}{next:zdo}(hn:zoW A next){d:DI}(hd:∀t,d.o.dst=some t->t∈A){tm:S3 V}{h:H}{hs:List (Nat × H)}{rs:List RE}{r:R}{ex:Ex}{tm':S3 V}{h':H}
  (hh:zh5 (onD P rec next d tm h hs rs r) ex tm' h'):zoP A tm tm':=by
 have hk:∀{ex1 tm1 h1},zh5 (zdr P next d tm h hs rs ex1 tm1 h1) ex tm' h'->zoP A tm tm':=fun {ex1 tm1 h1} hq=>by
  obtain⟨v,_,h3⟩:=zoU hq;generalize hc:d.cls=c at h3
  match c,h3 with
  | 0,h3=>cases h3
  | 1,h3=>cases h3
  | _+2,h3=>exact zo0 hn hd h3
 cases r with
 | val v h1=>
  have h0:zh5 (zdq P next d tm h hs rs v h1) ex tm' h':=hh;unfold zdq at h0;generalize hc:d.cls=c at h0
  match c,h0 with
  | 0,h0=>exact(zoQ hd).trans (hn _ _ _ _ _ _ _ h0) (fun _ h=>h) fun _ h=>h
  | 1,h0=>
   obtain⟨_,h2⟩:=zoT h0;exact(zoQ hd).trans (hn _ _ _ _ _ _ _ h2) (fun _ h=>h) fun _ h=>h
  | _+2,h0=>exact zo0 hn hd h0
 | call f args=>obtain⟨ex1,tm1,h1,_,h2⟩:=zoR hh; exact hk h2
 | yield f args=>obtain⟨ex1,tm1,h1,_,h2⟩:=zoR hh; exact hk h2
 | alts l=>cases hh
theorem zo2{ops:List Oper}{b:Nat}:∀{l:List DI},zoW (zdD (l.map (·.o))) (zdx P rec ops b l)
 | []=>fun tm h hs rs ex tm' h' hh=>by cases hh; exact .refl _ _
 | d::l=>fun tm h hs rs ex tm' h' hh=>by
  have h0:zh5 (zdw P rec ops b d (zdx P rec ops b l) tm h hs rs) ex tm' h':=hh;obtain⟨m1,m2⟩:=zoX (o:=d.o) (l:=l.map (·.o));have hn:zoW (zdD ((d::l).map (·.o))) (zdx P rec ops b l):=fun _ _ _ _ _ _ _ hq=>(zo2 _ _ _ _ _ _ _ hq).sub m2
  cases hf:d.flt with
  | some k=>
   rw[zif hf] at h0;obtain⟨t,_,h1⟩:=zoS h0
   cases t with
   | true=>
    obtain⟨p,_,h2⟩:=zoS h1;exact zo0 hn m1 h2
   | false=>exact zo0 hn m1 h1
  | none=>
   unfold zdw at h0;rw[hf] at h0;have h0':zh5 (zdu P rec ops d (zdx P rec ops b l) tm h hs rs) ex tm' h':=h0;rw[zie] at h0';obtain⟨t,_,h1⟩:=zoS h0'
   cases t with
   | true=>
    obtain⟨r,_,h2⟩:=zoS h1;exact zo1 hn m1 h2
   | false=>
    have h2:zh5 (zds P (zdx P rec ops b l) d tm h hs rs) ex tm' h':=h1;unfold zds at h2;generalize hc:d.cls=c at h2
    match c,h2 with
    | 0,h2=>exact(zoQ m1).trans (hn _ _ _ _ _ _ _ h2) (fun _ h=>h) fun _ h=>h
    | 1,h2=>exact(zoQ m1).trans (hn _ _ _ _ _ _ _ h2) (fun _ h=>h) fun _ h=>h
    | _+2,h2=>exact zo0 hn m1 h2
theorem zo3{L:List Oper}{l:List DI}(h:zdj L=some l):l.map (·.o)=L:=by
 obtain⟨_,h1,h2⟩:=zjF h
 apply List.ext_getElem?
 intro i;rw[List.getElem?_map]
 by_cases hi:i < L.length
 ·rw[h2 i hi]
  show some (atO L i)=_
  unfold atO;rw[zjj,List.getD_eq_getElem?_getD,List.getElem?_eq_getElem hi]; rfl
 ·rw[List.getElem?_eq_none (by omega),List.getElem?_eq_none (by omega)]; rfl
theorem zo4{tm:S3 V}:∀{A:List Nat},∀s∈zdG tm A,s∈A
 | []=>fun s h=>(by cases h)
 | a::A=>fun s h=>by
  have hd:zdG tm (a::A)=zaa (zag tm a) (a::zdG tm A) fun v=>ifB (zdF v) (a::zdG tm A) (zdG tm A):=rfl;have h2:s∈zdG tm A->s∈a::A:=fun hs=>List.mem_cons_of_mem _ (zo4 s hs);have h3:s∈a::zdG tm A->s∈a::A:=fun hs=>(List.mem_cons.1 hs).elim (fun h=>h ▸ List.mem_cons_self ..) h2;rw[hd] at h
  cases hg:zag tm a with
  | none=>rw[hg] at h; exact h3 h
  | some v=>
   rw[hg,zd6] at h
   cases ht:zdF v with
   | true=>rw[ht] at h; exact h3 h
   | false=>rw[ht] at h; exact h2 h
theorem zo5{tm:S3 V}(p:P3):∀(D:List Nat),((∃s∈D,zae s=p)/\zec p (zdH tm D)=.e)\/((∀s∈D,zae s ≠ p)/\zec p (zdH tm D)=zec p tm)
 | []=>.inr ⟨(fun _ h=>by cases h),rfl⟩
 | s::D=>by
  have h0:zec p (zdH tm (s::D))=if p=zae s then .e else zec p (zdH tm D):=zeh ..;rw[h0]
  by_cases hp:p=zae s
  ·rw[if_pos hp]; exact .inl ⟨⟨s,List.mem_cons_self ..,hp.symm⟩,rfl⟩
  ·rw[if_neg hp]
   rcases zo5 p D with ⟨⟨s',h1,h2⟩,h3⟩ | ⟨h1,h2⟩
   ·exact .inl ⟨⟨s',List.mem_cons_of_mem _ h1,h2⟩,h3⟩
   ·refine .inr ⟨fun s' hs'=>?_,h2⟩
    rcases List.mem_cons.1 hs' with rfl | hs'
    ·exact fun h=>hp h.symm
    ·exact h1 s' hs'
theorem zo6{h:H}{c:Code}{tm0 tm:S3 V}:zoP (asg c) tm (zdI h c tm0 tm):=by
 unfold zdI
 cases h.t with
 | t x=>exact .refl _ _
 | f g=>
  intro p hp
  rcases zo5 (tm:=tm) p (zdG tm0 (asg c)) with ⟨⟨s,h1,h2⟩,_⟩ | ⟨_,h2⟩
  ·exact absurd h2 (hp s (zo4 s h1))
  ·exact h2
def zo7(rec:Rec):Prop:=∀c tm h ex tm' h',zh5 (rec (.loop c) tm h) ex tm' h'->zoP (asg c) tm tm'
theorem zo8(hr:zo7 rec):∀(c:Code),zoV (asg c) (zdN P rec c):=by
 intro c
 induction c with
 | region id ops draw=>
  intro tm h ex tm' h' hh;have h0:zh5 (zdA P rec ops draw tm h) ex tm' h':=hh
  cases draw with
  | false=>exact zoZ _ _ _ _ _ h0
  | true=>
   obtain⟨l,hl,h1⟩:=zoS h0;have:=zo2 _ _ _ _ _ _ _ h1;rw[zo3 hl] at this;exact this
 | seq a b iha ihb=>
  intro tm h ex tm' h' hh;obtain⟨ex1,tm1,h1,h2,h3⟩:=zoR hh;have q1:=iha _ _ _ _ _ h2
  have hsub1:∀s∈asg a,s∈asg (.seq a b):=fun s hs=>by show s∈appS (asg a) (asg b); rw[zes]; exact List.mem_append_left _ hs
  have hsub2:∀s∈asg b,s∈asg (.seq a b):=fun s hs=>by show s∈appS (asg a) (asg b); rw[zes]; exact List.mem_append_right _ hs
  cases ex1 with
  | nrm=>exact q1.trans (ihb _ _ _ _ _ h3) hsub1 hsub2
  | val v=>cases h3
  | exit id=>cases h3; exact q1.sub hsub1
  | ret=>cases h3; exact q1.sub hsub1
 | cond x a b iha ihb=>
  intro tm h ex tm' h' hh;obtain⟨v,_,h1⟩:=zoS hh
  have hsub1:∀s∈asg a,s∈asg (.cond x a b):=fun s hs=>by show s∈appS (asg a) (asg b); rw[zes]; exact List.mem_append_left _ hs
  have hsub2:∀s∈asg b,s∈asg (.cond x a b):=fun s hs=>by show s∈appS (asg a) (asg b); rw[zes]; exact List.mem_append_right _ hs
  cases v with
  | c y=>
   cases y with
   | bool t=>
    cases t with
    | true=>exact(iha _ _ _ _ _ h1).sub hsub1
    | false=>exact(ihb _ _ _ _ _ h1).sub hsub2
   | _=>cases h1
  | _=>cases h1
 | block id b ih=>
  intro tm h ex tm' h' hh;obtain⟨ex1,tm1,h1,h2,h3⟩:=zoR hh;have q1:=ih _ _ _ _ _ h2
  cases ex1 with
  | nrm=>cases h3; exact q1
  | val v=>cases h3
  | ret=>cases h3; exact q1
  | exit id'=>
   have h4:zh5 (ifB (Nat.beq id id') (.ok .nrm tm1 h1) (.ok (.exit id') tm1 h1)) ex tm' h':=h3
   cases hb:Nat.beq id id' <;> (rw[hb] at h4; cases h4; exact q1)
 | loop b ih=>
  intro tm h ex tm' h' hh;obtain⟨ex1,tm1,h1,h2,h3⟩:=zoR hh;have q1:zoP (asg b) tm tm1:=(zo6 (h:=h) (c:=b) (tm0:=tm)).trans (ih _ _ _ _ _ h2) (fun _ h=>h) fun _ h=>h
  cases ex1 with
  | nrm=>exact(q1.trans (zo6 (h:=h1) (c:=b) (tm0:=zdI h b tm tm)) (fun _ h=>h) fun _ h=>h).trans (hr _ _ _ _ _ _ h3) (fun _ h=>h) fun _ h=>h
  | val v=>cases h3
  | exit id=>cases h3; exact q1
  | ret=>cases h3; exact q1
 | rangeFunc f ps a b _ _=>
  intro tm h ex tm' h' hh;obtain⟨v,_,h1⟩:=zoS hh;have h1':zh5 (zdM rec ps.toList a b tm h v) ex tm' h':=h1;unfold zdM at h1'
  cases v with
  | c x=>
   cases x with
   | fn f1 a1 b1=>
    obtain⟨r,_,h2⟩:=zoS h1'
    cases r with
    | call g args=>
     obtain⟨ex1,tm1,h3,_,h4⟩:=zoR h2
     cases ex1 with
     | val w=>
      have hj:∀{pend:Option Code} {hh1:H},zh5 (zdK rec tm hh1 pend) ex tm' h'->zoP (asg (.rangeFunc f ps a b)) tm tm':=fun {pend hh1} hq=>by
       cases pend with
       | none=>cases hq; exact .refl _ _
       | some c=>cases c <;> first | (cases hq; done) | (cases hq; exact .refl _ _)
      have h5:zh5 (za5 h3 h.nxt Out.fail (fun st pend _ _ _ _ _=>LoopState.rec (motive:=fun _=>Out) (zdK rec tm (za1 h3 h.nxt) pend) .fail (zdK rec tm (za1 h3 h.nxt) pend) (zdK rec tm (za1 h3 h.nxt) pend) st)) ex tm' h':=h4;unfold za5 at h5
      cases hg:zaj h3.t h.nxt with
      | none=>rw[hg] at h5; cases h5
      | some o=>
       rw[hg] at h5
       cases o with
       | loop st p f t ps a c=>cases st <;> first | exact hj h5 | cases h5
       | _=>cases h5
     | _=>cases h4
    | _=>cases h2
   | _=>cases h1'
  | _=>cases h1'
 | scope b ih=>exact ih
 | skip=>intro tm h ex tm' h' hh; cases hh; exact .refl _ _
 | exit id=>intro tm h ex tm' h' hh; cases hh; exact .refl _ _
 | label l=>intro tm h ex tm' h' hh; cases hh; exact .refl _ _
 | ret=>intro tm h ex tm' h' hh; cases hh; exact .refl _ _
 | goto l=>intro tm h ex tm' h' hh; cases hh
 | refuse l=>intro tm h ex tm' h' hh; cases hh
theorem zo9{T:List (Nat × Bool)}:∀k,zo7 (evT P T k)
 | 0=>fun _ _ _ _ _ _ hh=>by cases hh
 | k+1=>fun c tm h ex tm' h' hh=>by
  have h0:zh5 (bind (zdN P (evT P T k) c (zdI h c tm tm) h) (zdJ (evT P T k) c (zdI h c tm tm))) ex tm' h':=hh;obtain⟨ex1,tm1,h1,h2,h3⟩:=zoR h0;have q1:zoP (asg c) tm tm1:=(zo6 (h:=h) (c:=c) (tm0:=tm)).trans (zo8 (zo9 k) c _ _ _ _ _ h2) (fun _ h=>h) fun _ h=>h
  cases ex1 with
  | nrm=>exact(q1.trans (zo6 (h:=h1) (c:=c) (tm0:=zdI h c tm tm)) (fun _ h=>h) fun _ h=>h).trans (zo9 k _ _ _ _ _ _ h3) (fun _ h=>h) fun _ h=>h
  | val v=>cases h3
  | exit id=>cases h3; exact q1
  | ret=>cases h3; exact q1
theorem N8.ext'{α:Type}{x y:N8 α}(h:∀d,sel d x=sel d y):x=y:=by
 cases x; cases y
 have e0:=h .d0; have e1:=h .d1; have e2:=h .d2; have e3:=h .d3; have e4:=h .d4; have e5:=h .d5; have e6:=h .d6; have e7:=h .d7
 simp only[sel] at e0 e1 e2 e3 e4 e5 e6 e7
 simp only[e0,e1,e2,e3,e4,e5,e6,e7]
theorem S3.ext'{α:Type}{x y:S3 α}(h:∀p,zec p x=zec p y):x=y:=
 N8.ext' fun a=>N8.ext' fun b=>N8.ext' fun c=>h (.p a b c)
theorem zpa{α:Type}{t:S3 α}{k:Nat}{x:α}(h:zag t k=some x):zah t k x=t:=by
 apply S3.ext'
 intro p;rw[zeg]
 by_cases hp:p=zae k
 ·rw[if_pos hp,hp];rw[zee] at h;exact(zeb h).symm
 ·rw[if_neg hp]
end
end Go.Abs

namespace Go.Abs
noncomputable section
def zpb(ops:List Oper)(tm:S3 V)(g:Nat × Bool)(run skip:S3 V->Prop):Prop:=
 zaa (atS ops g.1) (skip tm) fun p=>zaa p.dst (skip tm) fun t=>orP (zag tm t) fun v=>
  V.rec (motive:=fun _=>Prop) (fun c=>C.rec (motive:=fun _=>Prop)
   (fun b=>ifB b (ifB g.2 (run (zah tm t (.c (.bool true)))) (skip (zah tm t (.c (.bool true))))) (ifB g.2 (skip (zah tm t (.c (.bool false)))) (run (zah tm t (.c (.bool false))))))
   (fun _ _=>skip tm) (fun _=>skip tm) (skip tm) (fun _ _=>skip tm) (skip tm) (fun _ _ _ _ _=>skip tm) (skip tm) (fun _=>skip tm) (fun _ _ _=>skip tm) (skip tm) (skip tm) c) (fun _ _=>skip tm) (fun _=>skip tm) v
def zpc(P:Program)(T:List (Nat × Bool))(ops:List Oper)(K:S3 V->M->Prop)(l:List Oper):S3 V->M->Prop:=
 List.rec (motive:=fun _=>S3 V->M->Prop) K (fun o _ ih tm m=>zaa o.guard (op1 P T true (znO ops o.dst) tm m o.type o.op fun v m'=>ih (zcP tm o.dst v) m')
  fun g=>zpb ops tm g (fun tm=>op1 P T true (znO ops o.dst) tm m o.type o.op fun v m'=>ih (zcP tm o.dst v) m') fun tm=>ih (zcP tm o.dst (.tup [])) m) l
def zpd(c:C):Bool:=C.rec (motive:=fun _=>Bool) (fun _=>true) (fun _ _=>true) (fun _=>false) true (fun _ _=>true) true (fun _ _ _ _ _=>true) true (fun _=>true) (fun _ _ _=>false) false false c
def zpe(f:Fn):Bool:=Fn.rec (motive:=fun _=>Bool) (fun _=>true) (fun _=>false) (fun _ _=>false) (fun _ _ _ _=>false) (fun _=>true) f
def okW(w:W):Bool:=W.rec (motive:=fun _=>Bool) (fun x=>zpd (c0C x)) (fun _ l=>zaL zpd (zbZ c0C l)) w
def cmC(c:C):Bool:=C.rec (motive:=fun _=>Bool) (fun _=>true) (fun _ _=>true) (fun _=>false) true (fun _ _=>true) true (fun _ _ _ _ _=>true) true (fun _=>true) (fun f p q=>ifB (zpe f) (ifB (zaL okW p) (zaL okW q) false) false) true false c
def cmV(v:V):Bool:=V.rec (motive:=fun _=>Bool) cmC (fun _ l=>zaL cmC l) (fun _=>false) v
def zpf(P:Program)(tm:S3 V)(op:Op)(v:V)(m:M):Prop:=
 match op with
 | .load t a=>orP (opd tm a) fun p=>vC1 p fun x=>ifB (zba P t) (ifB (za9 P t) (zaz v False fun n l=>ifB (Nat.beq n (P.cellsOf t)) (ifB (zaL cmC l) (ldA m x n=some l) False) False)
   (vC1 v fun c=>ifB (cmC c) (ldC m x=some c) False)) False
 | .lookup t x k ok=>za7 (tk P t) False fun kt et=>orP (opd tm x) fun xv=>vC1 xv fun x=>orP (opd tm k) fun k=>orP (zeroV P et) fun z=>
   ∃f,lkM P kt m x k=some f/\zaa f (znP z ok false=some v) (fun u=>znP (uV u) ok true=some v)/\cmV v=true
 | .call c=>Callee.rec (motive:=fun _=>Prop) (fun _=>False) (fun _ _=>False) (fun b=>match b with
   | .len=>orP (zaE (opd tm) c.args.toList) fun args=>zab c.argTypes.toList False fun t _=>zab args False fun x _=>znL P t x m fun c=>V.c c=v
   | _=>False) c.callee
 | _=>False
def zpg(P:Program)(m:M)(again:List Nat)(rs:List RE)(K:Prop):Prop:=
 List.rec (motive:=fun _=>Prop) K (fun r _ ih=>ifB (zaK r.idx again) (zpf P r.tm r.o.op r.v m/\ih) ih) rs
def zph(P:Program)(tm:S3 V)(op:Op)(v:V)(back:List Nat)(hs:List (Nat × M))(K:Prop):Prop:=
 List.rec (motive:=fun _=>Prop) K (fun p _ ih=>ifB (zaK p.1 back) (zpf P tm op v p.2/\ih) ih) hs
abbrev ShD:=S3 V->M->List (Nat × M)->List RE->Prop
def zpi(P:Program)(d:DI)(next:ShD)(tm:S3 V)(m:M)(hs:List (Nat × M))(rs:List RE)(v:V)(m':M):Prop:=zpg P m' d.again rs (next (zcP tm d.o.dst v) m' ((d.idx,m)::hs) rs)
def zpj(P:Program)(d:DI)(next:ShD)(tm:S3 V)(m:M)(hs:List (Nat × M))(rs:List RE)(v:V)(m':M):Prop:=
 zac d.cls (next (zcP tm d.o.dst v) m hs rs) fun c=>zac c (zph P tm d.o.op v d.back hs (next (zcP tm d.o.dst v) m hs ({ idx:=d.idx,o:=d.o,tm:=tm,v:=v } :: rs))) fun _=>zpi P d next tm m hs rs v m'
def zpk(P:Program)(d:DI)(next:ShD)(tm:S3 V)(m:M)(hs:List (Nat × M))(rs:List RE):Prop:=
 zac d.cls (next (zcP tm d.o.dst (.tup [])) m hs rs) fun c=>zac c (next (zcP tm d.o.dst (.tup [])) m hs rs) fun _=>zpi P d next tm m hs rs (.tup []) m
def shN(P:Program)(T:List (Nat × Bool))(ops:List Oper)(d:DI)(next:ShD)(tm:S3 V)(m:M)(hs:List (Nat × M))(rs:List RE):Prop:=
 zaa d.o.guard (op1 P T false (znO ops d.o.dst) tm m d.o.type d.o.op fun v m'=>zpj P d next tm m hs rs v m')
  fun g=>zpb ops tm g (fun tm=>op1 P T false (znO ops d.o.dst) tm m d.o.type d.o.op fun v m'=>zpj P d next tm m hs rs v m') fun tm=>zpk P d next tm m hs rs
def zpl(P:Program)(tm:S3 V)(op:Op)(id:Nat)(K:V->AO->Prop):Prop:=
 match op with
 | .makeSlice t l c=>za6 (tk P t) False fun e=>orP (opd tm l) fun l=>orP (opd tm c) fun c=>zat l False fun _ l=>zat c False fun _ c=>orP (zeroV P e) fun z=>ifB (Nat.ble (P.bytesOf e) 1048576) (ifB (Nat.beq (zaC z) (P.cellsOf e))
   (∃l' c':Nat,l=Int.ofNat l'/\c=Int.ofNat c'/\l'<=c'/\c'<=4096/\K (.c (.sl id 0 l' 0 (some c'))) (.cells (Nat.mul c' (zaC z)) (zaJ (zaB z) c') false)) False) False
 | op=>orP (zdt P tm op id) fun p=>K p.1 p.2
def zpm(P:Program)(b:Nat)(d:DI)(k:Nat)(next:ShD)(tm:S3 V)(m:M)(hs:List (Nat × M))(rs:List RE):Prop:=zpl P tm d.o.op (Nat.add b k) fun v o=>∀m',m'=m.set (Nat.add b k) o->zpi P d next tm m hs rs v m'
def zpn(P:Program)(T:List (Nat × Bool))(ops:List Oper)(b:Nat)(d:DI)(next:ShD)(tm:S3 V)(m:M)(hs:List (Nat × M))(rs:List RE):Prop:=
 zaa d.flt (shN P T ops d next tm m hs rs) fun k=>zaa d.o.guard (zpm P b d k next tm m hs rs) fun g=>zpb ops tm g (fun tm=>zpm P b d k next tm m hs rs) fun tm=>zpi P d next tm m hs rs (.tup []) m
def shD(P:Program)(T:List (Nat × Bool))(ops:List Oper)(b:Nat)(K:S3 V->M->Prop)(l:List DI):ShD:=
 List.rec (motive:=fun _=>ShD) (fun tm m _ _=>K tm m) (fun d _ ih=>zpn P T ops b d ih) l
def zpo(m:M)(k:Nat):M:={ nxt:=Nat.add m.nxt k,g:=m.g,vw:=m.vw }
def zpp(m:M)(k:Nat)(K:M->Prop):Prop:=zac k (K m) fun _=>∀m',m'=zpo m k->K m'
def zpq(P:Program)(T:List (Nat × Bool))(ops:List Oper)(draw:Bool)(tm:S3 V)(m:M)(K:S3 V->M->Prop):Prop:=
 ifB draw (orP (zdj ops) fun l=>zpp m (zdy l) fun m'=>shD P T ops m.nxt K l tm m' [] []) (zpc P T ops K ops tm m)
def zpr(c:C)(K:C->Prop):Prop:=C.rec (motive:=fun _=>Prop) (fun _=>∀b,K (.bool b)) (fun k _=>∀n,K (.int k n)) (fun _=>∀c,K c) (∀c,K c) (fun _ _=>∀c,K c) (∀c,K c) (fun _ _ _ _ _=>∀c,K c) (∀c,K c) (fun _=>∀c,K c) (fun _ _ _=>∀c,K c) (∀c,K c) (∀c,K c) c
def zps(l:List C):(List C->Prop)->Prop:=List.rec (motive:=fun _=>(List C->Prop)->Prop) (fun K=>K []) (fun c _ ih K=>zpr c fun c'=>ih fun l=>K (c'::l)) l
def zpt(v:V)(K:V->Prop):Prop:=V.rec (motive:=fun _=>Prop) (fun c=>zpr c fun c'=>K (.c c')) (fun n l=>zps l fun l'=>K (.agg n l')) (fun _=>K v) v
def zpu(k:SK)(K:C->Prop):Prop:=SK.rec (motive:=fun _=>Prop) (∀b,K (.bool b)) (fun k=>∀n,K (.int k n)) (∀c,K c) k
def zpv(ks:List SK):(List C->Prop)->Prop:=List.rec (motive:=fun _=>(List C->Prop)->Prop) (fun K=>K []) (fun k _ ih K=>zpu k fun c=>ih fun l=>K (c::l)) ks
def zpw(P:Program)(t:TypeId)(K:V->Prop):Prop:=
 ifB (za9 P t) (ifB (few P t) (zpv (znu P 9 t) fun l=>K (.agg (P.cellsOf t) l)) (∀l,K (.agg (P.cellsOf t) l))) (zpu (znt P t) fun c=>K (.c c))
def zpx(c:Code):List Oper:=Code.rec (motive:=fun _=>List Oper) [] (fun _ ops _=>ops.toList) (fun _ _ a b=>appS a b) (fun _ _ _ a b=>appS a b) (fun _ _ b=>b) (fun _ b=>b) (fun _ _ _ _ a b=>appS a b) (fun _=>[]) (fun _ b=>b)
 (fun _=>[]) (fun _=>[]) [] (fun _=>[]) c
def zpy(G:List Oper)(t:Nat):Option TypeId:=List.rec (motive:=fun _=>Option TypeId) none (fun o _ ih=>zaa o.dst ih fun d=>ifB (Nat.beq d t) (some o.type) ih) G
def zpz(P:Program)(G:List Oper)(s:Nat)(v:V)(K:V->Prop):Prop:=zaa (zpy G s) (zpt v K) fun t=>ifB (Nat.beq t 0) (zpt v K) (zpw P t K)
def zpA(P:Program)(G:List Oper)(l:List (Nat × V)):(List V->Prop)->Prop:=List.rec (motive:=fun _=>(List V->Prop)->Prop) (fun K=>K []) (fun x _ ih K=>zpz P G x.1 x.2 fun v=>ih fun l=>K (v::l)) l
def zpB(tm:S3 V)(A:List Nat):List (Nat × V):=List.rec (motive:=fun _=>List (Nat × V)) [] (fun s _ ih=>zaa (zag tm s) ih fun v=>ifB (zdF v) ih ((s,v)::ih)) A
def zpC(A:List (Nat × V)):List V->S3 V->S3 V:=List.rec (motive:=fun _=>List V->S3 V->S3 V) (fun _ t=>t) (fun x _ ih vs t=>zab vs t fun v vs=>zah (ih vs t) x.1 v) A
def zpD(A:List (Nat × V)):List V:=zbZ (fun x=>x.2) A
def zpE(tm:S3 V)(s:Nat):Option V:=zaa (zag tm s) none fun v=>ifB (zdF v) none (some v)
def zpF(A:List (Nat × V))(tm:S3 V):Option (List V):=zaE (fun x=>zpE tm x.1) A
def zpG(P:Program)(G:List Oper)(A:List Nat)(body:S3 V->M->zm8->Prop)(tm:S3 V)(m:M)(Q:zm8):Prop:=
 ∀R:List V->M->Prop,(zpA P G (zpB tm A) fun vs=>∀m,body (zpC (zpB tm A) vs tm) m (fun ex tm' m'=>
   exB ex (orP (zpF (zpB tm A) tm') fun vs'=>R vs' m') (fun _=>Q ex tm' m') (Q ex tm' m') fun _=>False)->R vs m)->R (zpD (zpB tm A)) m
def zpH(P:Program)(G:List Oper)(A:List Nat)(body:S3 V->M->zm8->Prop)(tm:S3 V)(m:M)(Q:zm8):Prop:=zpG P G A body (zdH tm (zdG tm A)) m Q
def zpI(P:Program)(t:TypeId):Option (List TypeId):=match P.underlying t with | some (.func ps _ _)=>some ps.toList | _=>none
def zpJ(P:Program)(G:List Oper)(f:Operand):Option (List TypeId):=
 Operand.rec (motive:=fun _=>Option (List TypeId)) (fun t=>zaa (zpy G t) none fun ty=>zaa (zpI P ty) none fun ps=>zaa (atS ps (nat_lit 0)) none fun y=>zpI P y) (fun _=>none) (fun _=>none) (fun _=>none) f
def zpK(P:Program)(ts:List TypeId):(List V->Prop)->Prop:=List.rec (motive:=fun _=>(List V->Prop)->Prop) (fun K=>K []) (fun t _ ih K=>exV P t fun v=>ih fun l=>K (v::l)) ts
def zpL(P:Program)(ys:Option (List TypeId))(args:List V)(K:List V->Prop):Prop:=zaa ys (K args) fun ts=>zpK P ts fun l=>args=l/\K l
structure zpM where
 nrm:M->Prop
 exits:List (Nat × (M->Prop))
 ret:M->Prop
def zpN(id:Nat)(m:M)(l:List (Nat × (M->Prop))):Prop:=List.rec (motive:=fun _=>Prop) False (fun x _ ih=>ifB (Nat.beq x.1 id) (x.2 m) ih) l
def zpO(after:zpM)(pend:Option Code)(m:M):Prop:=
 zaa pend (after.nrm m) fun c=>Code.rec (motive:=fun _=>Prop) False (fun _ _ _=>False) (fun _ _ _ _=>False) (fun _ _ _ _ _=>False) (fun _ _ _=>False) (fun _ _=>False) (fun _ _ _ _ _ _=>False)
  (fun id=>zpN id m after.exits) (fun _ _=>False) (fun _=>False) (fun _=>False) (after.ret m) (fun _=>False) c
def zpP(c:Code):List Nat:=Code.rec (motive:=fun _=>List Nat) [] (fun _ _ _=>[]) (fun _ _ a b=>appS a b) (fun _ _ _ a b=>appS a b) (fun id _ b=>zaN (fun i=>ifB (Nat.beq i id) false true) b) (fun _ b=>b) (fun _ _ _ _ _ b=>b) (fun id=>[id]) (fun _ b=>b)
 (fun _=>[]) (fun _=>[]) [] (fun _=>[]) c
def zpQ(l:List Nat):List Nat:=List.rec (motive:=fun _=>List Nat) [] (fun x _ ih=>ifB (zaK x ih) ih (x::ih)) l
def zpR(Q:Nat->M->Prop)(l:List Nat):List (Nat × (M->Prop)):=zbZ (fun id=>(id,Q id)) l
abbrev zpS:=List V->M->(M->(M->Prop)->Prop)->(Ex->M->Prop)->Prop
def zpT(mk:LoopState->Option Code->AO)(l:Nat)(Q:V->M->Prop):Ex->M->Prop:=fun ex m=>(∃st pd,m.g l=some (mk st pd)) /\
 exB ex (Q (.c (.bool true)) (m.set l (mk .ready none))) (fun id=>Q (.c (.bool false)) (m.set l (mk .done (some (.exit id))))) (Q (.c (.bool false)) (m.set l (mk .done (some .ret)))) fun _=>False
def zpU(mk:LoopState->Option Code->AO)(l:Nat):M->(M->Prop)->Prop:=fun m k=>m.g l=some (mk .ready none)/\k (m.set l (mk .busy none))
def zpV(P:Program)(T:List (Nat × Bool))(mk:LoopState->Option Code->AO)(l:Nat)(round:zpS):Prop:=
 ∀args m Q,m.g l=some (mk .ready none)->round args m (zpU mk l) (zpT mk l Q)->Wy P T l args m Q
def zpW(P:Program)(T:List (Nat × Bool))(x:C)(m:M)(round:zpS)(after:zpM):Prop:=
 C.rec (motive:=fun _=>Prop) (fun _=>False) (fun _ _=>False) (fun _=>False) False (fun _ _=>False) False (fun _ _ _ _ _=>False) False (fun _=>False)
  (fun f a b=>Fn.rec (motive:=fun _=>Prop) (fun g=>∀mk,zpV P T mk m.nxt round->Wc P T g (appS (zbZ wV a) (appS [.c (.fn (.yield m.nxt) [] [])] (zbZ wV b))) (m.new (mk .ready none))
    fun _ m5=>∃st pd,m5.g m.nxt=some (mk st pd)/\st ≠ .busy/\zpO after pd (m5.del m.nxt))
   (fun _=>False) (fun _ _=>False) (fun _ _ _ _=>False) (fun _=>False) f) False False x
def sh(P:Program)(T:List (Nat × Bool))(G:List Oper)(c:Code):S3 V->M->zm8->Prop:=
 Code.rec (motive:=fun _=>S3 V->M->zm8->Prop)
  (fun tm m Q=>Q .nrm tm m)
  (fun _ ops draw tm m Q=>zpq P T ops.toList draw tm m fun tm m=>Q .nrm tm m)
  (fun _ _ a b tm m Q=>a tm m fun ex tm m=>exB ex (b tm m Q) (fun _=>Q ex tm m) (Q ex tm m) fun _=>False)
  (fun x _ _ a b tm m Q=>orP (opd tm x) fun v=>zav v False fun t=>ifB t (a tm m Q) (b tm m Q))
  (fun id _ b tm m Q=>b tm m fun ex tm m=>exB ex (Q .nrm tm m) (fun id'=>ifB (Nat.beq id id') (Q .nrm tm m) (Q ex tm m)) (Q ex tm m) fun _=>False)
  (fun c b tm m Q=>zpH P G (asg c) b tm m Q)
  (fun f ps _ bd a b tm m Q=>orP (opd tm f) fun v=>vC1 v fun x=>zpW P T x m (fun args m1 J K=>zpL P (zpJ P G f) args fun args=>orP (zdP ps.toList args tm) fun tm1=>a tm1 m1 fun ex tm2 m2=>exB ex (J m2 fun m3=>b tm2 m3 fun ex _ m4=>K ex m4) (fun _=>False) False fun _=>False)
   { nrm:=fun m=>Q .nrm tm m,exits:=zpR (fun id m=>Q (.exit id) tm m) (zpQ (zpP bd)),ret:=fun m=>Q .ret tm m })
  (fun id tm m Q=>Q (.exit id) tm m) (fun _ b=>b) (fun _ tm m Q=>Q .nrm tm m) (fun _ _ _ _=>False) (fun tm m Q=>Q .ret tm m) (fun _ _ _ _=>False) c
variable {P:Program} {T:List (Nat × Bool)}
theorem zpX{ops:List Oper}{tm:S3 V}{g:Nat × Bool}{run skip:S3 V->Prop}(h:zpb ops tm g run skip):∃t,zcN ops tm g.1 g.2=some t/\(t=true->run tm)/\(t=false->skip tm):=by
 unfold zpb at h;unfold zcN
 cases hp:atS ops g.1 with
 | none=>rw[hp] at h; exact⟨false,rfl,(fun hc=>by cases hc),fun _=>h⟩
 | some p=>
  rw[hp,zd6] at h;rw[zd6]
  cases hd:p.dst with
  | none=>rw[hd] at h; exact⟨false,rfl,(fun hc=>by cases hc),fun _=>h⟩
  | some t=>
   rw[hd,zd6] at h;rw[zd6];obtain⟨v,hv,h1⟩:=znQ h;rw[hv,zd6]
   cases v with
   | c x=>
    cases x with
    | bool b=>
     have hs:zah tm t (.c (.bool b))=tm:=zpa hv
     cases b with
     | true=>
      have h2:ifB g.2 (run (zah tm t (.c (.bool true)))) (skip (zah tm t (.c (.bool true)))):=h1;rw[hs] at h2;refine⟨g.2,rfl,fun hg=>?_,fun hg=>?_⟩
      ·rw[hg] at h2; exact h2
      ·rw[hg] at h2; exact h2
     | false=>
      have h2:ifB g.2 (skip (zah tm t (.c (.bool false)))) (run (zah tm t (.c (.bool false)))):=h1;rw[hs] at h2;refine⟨ifB g.2 false true,rfl,fun hg=>?_,fun hg=>?_⟩
      ·cases hg2:g.2 with
       | true=>rw[hg2] at hg; cases hg
       | false=>rw[hg2] at h2; exact h2
      ·cases hg2:g.2 with
       | true=>rw[hg2] at h2; exact h2
       | false=>rw[hg2] at hg; cases hg
    | _=>exact⟨false,rfl,(fun hc=>by cases hc),fun _=>h1⟩
   | agg n l=>exact⟨false,rfl,(fun hc=>by cases hc),fun _=>h1⟩
   | tup l=>exact⟨false,rfl,(fun hc=>by cases hc),fun _=>h1⟩
def zpY(K:S3 V->M->Prop):zm8:=fun ex tm m=>ex=.nrm/\K tm m
theorem zpZ{next next':Run}(hn:zmF next next'){d:Option Nat}{tm:S3 V}:KLe (zcQ next d tm) (zcQ next' d tm):=fun ex tm1 h1 hq=>by
 cases ex with
 | val v=>exact hn _ _ hq
 | _=>exact hq.elim
theorem zp0{next:Nat->Run}(hup:∀k k',k<=k'->zmF (next k) (next k')){dst:Option Nat}{tm:S3 V}{K:V->M->Prop}{Q:zm8}(hn:∀v m',K v m'->∃k,hM (next k (zcP tm dst v) (toH m')) Q) :
  ∀{l:List (V × H)},l ≠ []->(∀p∈l,∃m',p.2=toH m'/\K p.1 m')->∃k,hM (zcR (next k) dst tm l) Q
 | [],h,_=>absurd rfl h
 | [p],_,hp=>by
  obtain⟨m',h1,h2⟩:=hp p (List.mem_singleton.2 rfl);obtain⟨k,h3⟩:=hn _ _ h2;exact⟨k,by show hM (next k (zcP tm dst p.1) p.2) Q; rw[h1]; exact h3⟩
 | p::q::r,_,hp=>by
  obtain⟨m',h1,h2⟩:=hp p (List.mem_cons_self ..);obtain⟨k1,h3⟩:=hn _ _ h2;obtain⟨k2,h4⟩:=zp0 hup hn (l:=q::r) (by simp) fun p' hp'=>hp p' (List.mem_cons_of_mem _ hp');refine⟨max k1 k2,?_⟩
  show hM (.or (next (max k1 k2) (zcP tm dst p.1) p.2) (zcR (next (max k1 k2)) dst tm (q::r))) Q
  refine⟨?_,?_⟩
  ·rw[h1]; exact zne (hup _ _ (Nat.le_max_left k1 k2) _ _) h3
  ·exact zne (zmH (hup _ _ (Nat.le_max_right k1 k2))) h4
theorem zp1{xt:Nat->TypeId}{tm:S3 V}{m:M}{o:Oper}{K:V->M->Prop}(h:op1 P T true xt tm m o.type o.op K){next:Nat->Run}(hup:∀k k',k<=k'->zmF (next k) (next k')){Q:zm8}
  (hn:∀v m',K v m'->∃k,hM (next k (zcP tm o.dst v) (toH m')) Q):∃k,hM (orF (opR P tm (toH m) o.op) (zcS (evT P T k) (next k) o.dst tm (toH m))) Q:=by
 obtain⟨r,h1,h2,_⟩:=zoO h;rw[h1]
 have hcall:∀{t:zcM},Wt P T t e3 m (znh K)->∃k,hM (bind (evT P T k t e3 (toH m)) (zcQ (next k) o.dst tm)) Q:=fun {t} hq=>
  zng (X:=fun k=>evT P T k t e3 (toH m)) (fun k k' hk hn=>zm0 hk _ _ _ hn) (Kf:=fun k=>zcQ (next k) o.dst tm) (fun k k' hk=>zpZ (hup _ _ hk)) hq fun ex tm' m' hv=>by
   cases ex with
   | val v=>exact hn v m' hv
   | _=>exact hv.elim
 cases r with
 | val v h'=>
  obtain⟨m',rfl,h3⟩:=h2;obtain⟨k,h4⟩:=hn v m' h3;exact⟨k,h4⟩
 | call f args=>exact hcall h2
 | yield f args=>exact hcall h2
 | alts l=>exact zp0 hup hn h2.2.1 h2.2.2
theorem zp2{ops:List Oper}{K:S3 V->M->Prop}:∀{l:List Oper} {tm:S3 V} {m:M},zpc P T ops K l tm m->∃k,hM (zcU P (evT P T k) ops l tm (toH m)) (zpY K)
 | [],tm,m,h=>⟨0,zna ⟨rfl,h⟩⟩
 | o::l,tm,m,h=>by
  have h0:zaa o.guard (op1 P T true (znO ops o.dst) tm m o.type o.op fun v m'=>zpc P T ops K l (zcP tm o.dst v) m') (fun g=>zpb ops tm g (fun tm=>op1 P T true (znO ops o.dst) tm m o.type o.op fun v m'=>zpc P T ops K l (zcP tm o.dst v) m') fun tm=>zpc P T ops K l (zcP tm o.dst (.tup [])) m):=h;have heq:∀k,zcU P (evT P T k) ops (o::l) tm (toH m)=orF (zcO ops tm o) fun t=>ifB t (orF (opR P tm (toH m) o.op) (zcS (evT P T k) (zcU P (evT P T k) ops l) o.dst tm (toH m))) (zcU P (evT P T k) ops l (zcP tm o.dst (.tup [])) (toH m)):=fun k=>zid ..
  have hrun:op1 P T true (znO ops o.dst) tm m o.type o.op (fun v m'=>zpc P T ops K l (zcP tm o.dst v) m')->∃k,hM (orF (opR P tm (toH m) o.op) (zcS (evT P T k) (zcU P (evT P T k) ops l) o.dst tm (toH m))) (zpY K):=fun hq=>
   zp1 hq (next:=fun k=>zcU P (evT P T k) ops l) (fun k k' hk=>zmK (zm0 hk)) fun v m' hv=>zp2 hv
  cases hg:o.guard with
  | none=>
   rw[hg] at h0;obtain⟨k,h1⟩:=hrun h0;refine⟨k,?_⟩;rw[heq,show zcO ops tm o=some true by unfold zcO; rw[hg]; rfl];exact h1
  | some g=>
   rw[hg] at h0;obtain⟨t,h1,h2,h3⟩:=zpX (show zpb ops tm g (fun tm=>op1 P T true (znO ops o.dst) tm m o.type o.op fun v m'=>zpc P T ops K l (zcP tm o.dst v) m') (fun tm=>zpc P T ops K l (zcP tm o.dst (.tup [])) m) from h0)
   have hw:zcO ops tm o=some t:=by unfold zcO; rw[hg]; exact h1
   cases t with
   | true=>
    obtain⟨k,h4⟩:=hrun (h2 rfl);exact⟨k,by rw[heq,hw]; exact h4⟩
   | false=>
    obtain⟨k,h4⟩:=zp2 (h3 rfl);exact⟨k,by rw[heq,hw]; exact h4⟩
theorem zp3(n:Nat):Nat.beq n n=true:=Nat.beq_refl n
theorem zp4{c:C}(h:zpd c=true):zcH c c=true:=by
 cases c with
 | bool b=>show zbs b b=true; cases b <;> rfl
 | int k n=>
  show ifB (zaQ k k) (zaT n n) false=true
  rw[show zaQ k k=true from Nat.beq_refl _,zd3,zgd]; simp
 | ptr0=>rfl
 | ptr b o=>show ifB (Nat.beq b b) (Nat.beq o o) false=true; rw[zp3,zp3]; rfl
 | sl0=>rfl
 | sl b o n s c=>
  show ifB (Nat.beq b b) (ifB (Nat.beq o o) (ifB (Nat.beq n n) (ifB (Nat.beq s s) (zaO c c) false) false) false) false=true
  rw[zp3,zp3,zp3,zp3]
  cases c with
  | none=>rfl
  | some c=>show Nat.beq c c=true; exact zp3 c
 | map0=>rfl
 | map r=>exact zp3 r
 | _=>cases h
theorem zp5{α:Type}{eq:α->α->Bool}{p:α->Bool}(hp:∀x,p x=true->eq x x=true):∀{l:List α},zaL p l=true->eqL eq l l=true
 | [],_=>rfl
 | x::xs,h=>by
  obtain⟨h1,h2⟩:=ziW (show ifB (p x) (zaL p xs) false=true from h)
  show ifB (eq x x) (eqL eq xs xs) false=true
  rw[hp x h1,zd3];exact zp5 hp h2
theorem zp6{f:Fn}(h:zpe f=true):zcI f f=true:=by
 cases f with
 | func g=>exact zp3 g
 | yield l=>exact zp3 l
 | _=>cases h
theorem zp7{w:W}(h:okW w=true):eqW w w=true:=by
 cases w with
 | c x=>exact zp4 (show zpd (c0C x)=true from h)
 | agg n l=>
  show ifB (Nat.beq n n) (eqL zcH (zbZ c0C l) (zbZ c0C l)) false=true
  rw[zp3,zd3];exact zp5 (p:=zpd) (fun _=>zp4) h
theorem zp8{c:C}(h:zpd c=true):cmC c=true:=by
 cases c <;> first | rfl | cases h
theorem zp9{l:List C}(h:zaL zpd l=true):zaL cmC l=true:=by
 induction l with
 | nil=>rfl
 | cons x xs ih=>
  obtain⟨h1,h2⟩:=ziW (show ifB (zpd x) (zaL zpd xs) false=true from h)
  show ifB (cmC x) (zaL cmC xs) false=true
  rw[zp8 h1,zd3]; exact ih h2
theorem zqa{c:C}(h:cmC c=true):eqC c c=true:=by
 cases c with
 | fn f p q=>
  obtain⟨h1,h2⟩:=ziW (show ifB (zpe f) (ifB (zaL okW p) (zaL okW q) false) false=true from h);obtain⟨h3,h4⟩:=ziW h2
  show ifB (zcI f f) (ifB (eqL eqW p p) (eqL eqW q q) false) false=true
  rw[zp6 h1,zd3,zp5 (fun _=>zp7) h3,zd3,zp5 (fun _=>zp7) h4]
 | nilFn=>rfl
 | str s=>cases h
 | nilIface=>cases h
 | bool b=>exact zp4 (c:=.bool b) rfl
 | int k n=>exact zp4 (c:=.int k n) rfl
 | ptr0=>exact zp4 (c:=.ptr0) rfl
 | ptr b o=>exact zp4 (c:=.ptr b o) rfl
 | sl0=>exact zp4 (c:=.sl0) rfl
 | sl b o n s c=>exact zp4 (c:=.sl b o n s c) rfl
 | map0=>exact zp4 (c:=.map0) rfl
 | map r=>exact zp4 (c:=.map r) rfl
theorem zqb{l:List C}(h:zaL cmC l=true):eqL eqC l l=true:=by
 induction l with
 | nil=>rfl
 | cons x xs ih=>
  obtain⟨h1,h2⟩:=ziW (show ifB (cmC x) (zaL cmC xs) false=true from h)
  show ifB (eqC x x) (eqL eqC xs xs) false=true
  rw[zqa h1,zd3];exact ih h2
theorem zqc{v:V}(h:cmV v=true):zcJ v v=true:=by
 cases v with
 | c x=>exact zqa h
 | agg n l=>show ifB (Nat.beq n n) (eqL eqC l l) false=true; rw[zp3,zd3]; exact zqb h
 | tup l=>cases h
theorem zqd{tm:S3 V}{o:Oper}{v:V}{h h':H}(h1:opR P tm h o.op=some (.val v h'))(h2:cmV v=true):zdl P tm o v h=true:=by
 unfold zdl;rw[h1]
 show zcJ v v=true
 exact zqc h2
theorem zqe{tm:S3 V}{o:Oper}{v:V}{m:M}(h:zpf P tm o.op v m):zdl P tm o v (toH m)=true:=by
 cases ho:o.op with
 | load t a=>
  rw[ho] at h;obtain⟨p,h1,h2⟩:=znQ (show orP (opd tm a) _ from h);obtain⟨x,rfl,h3⟩:=znS h2;obtain⟨h4,h5⟩:=znR h3
  have hex:(za9 P t=true/\∃l,v=.agg (P.cellsOf t) l/\zaL cmC l=true/\ldA m x (P.cellsOf t)=some l)\/(za9 P t=false/\∃c,v=.c c/\cmC c=true/\ldC m x=some c):=by
   cases hf:za9 P t with
   | true=>
    rw[hf] at h5;obtain⟨n,l,rfl,h6⟩:=znV h5;obtain⟨h7,h8⟩:=znR h6;obtain⟨h9,h10⟩:=znR h8;have:=Nat.eq_of_beq_eq_true h7;subst this;exact .inl ⟨rfl,l,rfl,h9,h10⟩
   | false=>
    rw[hf] at h5;obtain⟨c,rfl,h6⟩:=znS h5;obtain⟨h7,h8⟩:=znR h6;exact .inr ⟨rfl,c,rfl,h7,h8⟩
  rcases hex with ⟨hf,l,rfl,h6,h7⟩ | ⟨hf,c,rfl,h6,h7⟩
  ·obtain⟨b,o',rfl,h8⟩:=zod h7;refine zqd (h':=toH m) ?_ h6;rw[ho]
   show zaa (opd tm a) none _=_
   rw[h1]
   show vR (toH m) (zbf P (toH m) t b o')=_
   unfold zbf;rw[h4,hf,zd3,zd3,h8]; rfl
  ·obtain⟨b,o',rfl,h8⟩:=zoc h7;refine zqd (h':=toH m) ?_ h6;rw[ho]
   show zaa (opd tm a) none _=_
   rw[h1]
   show vR (toH m) (zbf P (toH m) t b o')=_
   unfold zbf;rw[h4,hf,zd3,zd4,h8]; rfl
 | lookup t x k ok=>
  rw[ho] at h;obtain⟨kt,et,h1,h2⟩:=znZ (show za7 (tk P t) False _ from h);obtain⟨xv,h3,h4⟩:=znQ h2;obtain⟨c,rfl,h5⟩:=znS h4;obtain⟨kv,h6,h7⟩:=znQ h5;obtain⟨z,h8,f,h9,h10,h11⟩:=znQ h7;have h12:=zoG h1 h9 h3 h6 h8 ok
  have hop:opR P tm (toH m) o.op=zaa f (zcg (toH m) z ok false) fun q=>zcg (toH m) (uV q) ok true:=by rw[ho]; exact h12
  have hval:opR P tm (toH m) o.op=some (.val v (toH m)):=by
   rw[hop]
   cases f with
   | none=>
    show vR (toH m) (znP z ok false)=_
    rw[show znP z ok false=some v from h10]; rfl
   | some u=>
    show vR (toH m) (znP (uV u) ok true)=_
    rw[show znP (uV u) ok true=some v from h10]; rfl
  exact zqd hval h11
 | call c=>
  rw[ho] at h
  cases hc:c.callee with
  | value f=>
   have h0:(Callee.rec (motive:=fun _=>Prop) (fun _=>False) (fun _ _=>False) _ c.callee:Prop):=h;rw[hc] at h0; exact h0.elim
  | invoke f x=>
   have h0:(Callee.rec (motive:=fun _=>Prop) (fun _=>False) (fun _ _=>False) _ c.callee:Prop):=h;rw[hc] at h0; exact h0.elim
  | builtin b=>
   have h0:(Callee.rec (motive:=fun _=>Prop) (fun _=>False) (fun _ _=>False) (fun b=>match b with
    | .len=>orP (zaE (opd tm) c.args.toList) fun args=>zab c.argTypes.toList False fun t _=>zab args False fun x _=>znL P t x m fun c=>V.c c=v
    | _=>False) c.callee:Prop):=h
   rw[hc] at h0
   cases b with
   | len=>
    obtain⟨args,h1,h2⟩:=znQ (show orP (zaE (opd tm) c.args.toList) _ from h0);obtain⟨t,r,h3,h4⟩:=zn1 h2;obtain⟨x,r2,h5,h6⟩:=zn1 h4;obtain⟨cc,h7,h8⟩:=zoz h6
    have hval:opR P tm (toH m) o.op=some (.val v (toH m)):=by
     rw[ho]
     show zcG P tm (toH m) c=_
     unfold zcG;rw[h1,zd6,hc]
     show zcB P (toH m) .len c.argTypes.toList args=_
     rw[h3,h5]
     show vR (toH m) (zcz P (toH m) t x)=_
     rw[h7,<- h8]; rfl
    refine zqd hval ?_
    have hint:∃z:Int,cc=.int .i64 z:=by
     unfold znL at h6
     cases hk:tk P t with
     | ptr e=>
      rw[hk] at h6
      dsimp only at h6
      unfold zcz at h7;rw[hk] at h7
      dsimp only at h7
      cases he:tk P e with
      | arr n e'=>rw[he] at h7; cases h7; exact⟨_,rfl⟩
      | _=>rw[he] at h7; cases h7
     | sl e=>
      unfold zcz at h7;rw[hk] at h7
      cases x with
      | c x=>cases x <;> first | (cases h7; exact⟨_,rfl⟩) | cases h7
      | _=>cases h7
     | arr n e=>unfold zcz at h7; rw[hk] at h7; cases h7; exact⟨_,rfl⟩
     | map a b=>
      unfold zcz at h7;rw[hk] at h7
      cases x with
      | c x=>
       cases x with
       | map0=>cases h7; exact⟨_,rfl⟩
       | map r=>
        obtain⟨es,clock,_,h9⟩:=zeH (show za3 (toH m) r none _=some _ from h7)
        cases h9; exact⟨_,rfl⟩
       | _=>cases h7
      | _=>cases h7
     | str=>
      unfold zcz at h7;rw[hk] at h7
      cases x with
      | c x=>cases x <;> first | (cases h7; exact⟨_,rfl⟩) | cases h7
      | _=>cases h7
     | _=>unfold zcz at h7; rw[hk] at h7; cases h7
    obtain⟨z,hz⟩:=hint;rw[<- h8,hz]; rfl
   | _=>exact h0.elim
 | _=>rw[ho] at h; exact h.elim
theorem zqf{m:M}{again:List Nat}:∀{rs:List RE} {X:Prop},zpg P m again rs X->zdn P (toH m) again rs=true/\X
 | [],X,h=>⟨rfl,h⟩
 | r::rs,X,h=>by
  have h0:ifB (zaK r.idx again) (zpf P r.tm r.o.op r.v m/\zpg P m again rs X) (zpg P m again rs X):=h
  show ifB (ifB (zaK r.idx again) (zdl P r.tm r.o r.v (toH m)) true) (zdn P (toH m) again rs) false=true/\X
  cases hb:zaK r.idx again with
  | true=>
   rw[hb] at h0;obtain⟨h1,h2⟩:=zqf h0.2;rw[zd3,zqe h0.1,zd3];exact⟨h1,h2⟩
  | false=>
   rw[hb] at h0;obtain⟨h1,h2⟩:=zqf h0;rw[zd4,zd3];exact⟨h1,h2⟩
def hsH(hs:List (Nat × M)):List (Nat × H):=hs.map fun p=>(p.1,toH p.2)
theorem zqg{tm:S3 V}{o:Oper}{v:V}{back:List Nat}:∀{hs:List (Nat × M)} {X:Prop},zph P tm o.op v back hs X->zdm P tm o v back (hsH hs)=true/\X
 | [],X,h=>⟨rfl,h⟩
 | p::hs,X,h=>by
  have h0:ifB (zaK p.1 back) (zpf P tm o.op v p.2/\zph P tm o.op v back hs X) (zph P tm o.op v back hs X):=h
  show ifB (ifB (zaK p.1 back) (zdl P tm o v (toH p.2)) true) (zdm P tm o v back (hsH hs)) false=true/\X
  cases hb:zaK p.1 back with
  | true=>
   rw[hb] at h0;obtain⟨h1,h2⟩:=zqg h0.2;rw[zd3,zqe h0.1,zd3];exact⟨h1,h2⟩
  | false=>
   rw[hb] at h0;obtain⟨h1,h2⟩:=zqg h0;rw[zd4,zd3];exact⟨h1,h2⟩
theorem zqh{P:Program}{tm:S3 V}{op:Op}{id:Nat}{K:V->AO->Prop}(h:zpl P tm op id K):∃v o,zdt P tm op id=some (v,o)/\K v o:=by
 cases op with
 | makeSlice t l c=>
  obtain⟨e,he,h0⟩:=znY (show za6 (tk P t) False _ from h);obtain⟨x,h1,h2⟩:=znQ h0;obtain⟨y,h3,h4⟩:=znQ h2;obtain⟨k1,l',rfl,h5⟩:=znT h4;obtain⟨k2,c',rfl,h6⟩:=znT h5;obtain⟨z,h7,h8⟩:=znQ h6;obtain⟨h9,h10⟩:=znR h8;obtain⟨h11,l2,c2,rfl,rfl,h12,h13,h14⟩:=znR h10;refine⟨_,_,?_,h14⟩
  show za6 (tk P t) none _=_
  rw[he]
  show zaa (opd tm l) none _=_
  rw[h1]
  show zaa (opd tm c) none _=_
  rw[h3]
  show ifB (Nat.ble l2 c2) _ none=_
  rw[Nat.ble_eq_true_of_le h12,zd3,Nat.ble_eq_true_of_le h13,zd3,h9,zd3,h7,zd6,h11]; rfl
 | _=>
  obtain⟨p,h1,h2⟩:=znQ h;exact⟨p.1,p.2,h1,h2⟩
theorem zqi{ops:List Oper}{b:Nat}{K:S3 V->M->Prop}:∀{l:List DI} {tm:S3 V} {m:M} {hs:List (Nat × M)} {rs:List RE},(∀d∈l,d.cls=classOf d.o.op)->shD P T ops b K l tm m hs rs ->
  ∃k,hM (zdx P (evT P T k) ops b l tm (toH m) (hsH hs) rs) (zpY K)
 | [],tm,m,hs,rs,_,h=>⟨0,zna ⟨rfl,h⟩⟩
 | d::l,tm,m,hs,rs,hc,h=>by
  have hcd:=hc d (List.mem_cons_self ..);have ih:∀{tm m hs rs},shD P T ops b K l tm m hs rs->∃k,hM (zdx P (evT P T k) ops b l tm (toH m) (hsH hs) rs) (zpY K):=fun hq=>zqi (fun d' hd'=>hc d' (List.mem_cons_of_mem _ hd')) hq;have h0:zpn P T ops b d (shD P T ops b K l) tm m hs rs:=h
  have haft:∀{v m'},zpi P d (shD P T ops b K l) tm m hs rs v m'->∃k,hM (zdp P (zdx P (evT P T k) ops b l) d tm (toH m) (hsH hs) rs v (toH m')) (zpY K):=fun {v m'} hq=>by
   obtain⟨h1,h2⟩:=zqf hq;obtain⟨k,h3⟩:=ih h2;refine⟨k,?_⟩;unfold zdp;rw[h1];exact h3
  have haup:∀{v m' k k'},k<=k'->hM (zdp P (zdx P (evT P T k) ops b l) d tm (toH m) (hsH hs) rs v (toH m')) (zpY K)->hM (zdp P (zdx P (evT P T k') ops b l) d tm (toH m) (hsH hs) rs v (toH m')) (zpY K):=
   fun {v m' k k'} hk hq=>zne (zmL (zmP (zm0 hk))) hq
  unfold zpn at h0
  cases hf:d.flt with
  | some n=>
   rw[hf] at h0
   have hx:zpm P b d n (shD P T ops b K l) tm m hs rs->∃k,hM (zdv P b d n (zdx P (evT P T k) ops b l) tm (toH m) (hsH hs) rs) (zpY K):=fun hq=>by
    obtain⟨v,o,h1,h2⟩:=zqh hq;obtain⟨k,h3⟩:=haft (h2 _ rfl);refine⟨k,?_⟩
    show hM (orF (zdt P tm d.o.op (Nat.add b n)) _) _
    rw[h1]
    show hM (zdp P _ d tm (toH m) (hsH hs) rs v (za0 (toH m) (Nat.add b n) o)) _
    rw[zm4];exact h3
   have heq:∀k,zdx P (evT P T k) ops b (d::l) tm (toH m) (hsH hs) rs=orF (zcO ops tm d.o) fun t=>ifB t (zdv P b d n (zdx P (evT P T k) ops b l) tm (toH m) (hsH hs) rs) (zdp P (zdx P (evT P T k) ops b l) d tm (toH m) (hsH hs) rs (.tup []) (toH m)):=fun k=>zif hf ..
   cases hg:d.o.guard with
   | none=>
    rw[hg] at h0;obtain⟨k,h3⟩:=hx h0;refine⟨k,?_⟩;rw[heq,show zcO ops tm d.o=some true by unfold zcO; rw[hg]; rfl];exact h3
   | some g=>
    rw[hg] at h0;obtain⟨t,h1,h2,h3⟩:=zpX (show zpb ops tm g (fun tm=>zpm P b d n (shD P T ops b K l) tm m hs rs) (fun tm=>zpi P d (shD P T ops b K l) tm m hs rs (.tup []) m) from h0)
    have hw:zcO ops tm d.o=some t:=by unfold zcO; rw[hg]; exact h1
    cases t with
    | true=>
     obtain⟨k,h4⟩:=hx (h2 rfl);refine⟨k,?_⟩;rw[heq,hw];exact h4
    | false=>
     obtain⟨k,h4⟩:=haft (h3 rfl);refine⟨k,?_⟩;rw[heq,hw];exact h4
  | none=>
  rw[hf] at h0
  have heq:∀k,zdx P (evT P T k) ops b (d::l) tm (toH m) (hsH hs) rs=orF (zcO ops tm d.o) fun t=>ifB t (orF (opR P tm (toH m) d.o.op) (onD P (evT P T k) (zdx P (evT P T k) ops b l) d tm (toH m) (hsH hs) rs)) (zds P (zdx P (evT P T k) ops b l) d tm (toH m) (hsH hs) rs):=fun k=>by
   show zdw P (evT P T k) ops b d (zdx P (evT P T k) ops b l) tm (toH m) (hsH hs) rs=_
   unfold zdw;rw[hf];exact zie ..
  have hrun:op1 P T false (znO ops d.o.dst) tm m d.o.type d.o.op (fun v m'=>zpj P d (shD P T ops b K l) tm m hs rs v m')->∃k,hM (orF (opR P tm (toH m) d.o.op) (onD P (evT P T k) (zdx P (evT P T k) ops b l) d tm (toH m) (hsH hs) rs)) (zpY K):=fun hq=>by
   obtain⟨r,h1,h2,h3⟩:=zoO hq;rw[h1]
   have hcall:∀{t:zcM},classOf d.o.op=2->Wt P T t e3 m (znh fun v m'=>zpj P d (shD P T ops b K l) tm m hs rs v m') ->
     ∃k,hM (bind (evT P T k t e3 (toH m)) (zdr P (zdx P (evT P T k) ops b l) d tm (toH m) (hsH hs) rs)) (zpY K):=fun {t} hc2 hw=>by
    have hc3:d.cls=2:=by rw[hcd]; exact hc2
    have hup:∀k k',k<=k'->KLe (zdr P (zdx P (evT P T k) ops b l) d tm (toH m) (hsH hs) rs) (zdr P (zdx P (evT P T k') ops b l) d tm (toH m) (hsH hs) rs):=fun k k' hk ex tm1 h1 hq=>by
     unfold zdr at hq ⊢;rw[hc3] at hq ⊢
     cases ex with
     | val v=>exact zmL (zmP (zm0 hk)) hq
     | _=>exact hq.elim
    have hend:∀ex tm' m',znh (fun v m'=>zpj P d (shD P T ops b K l) tm m hs rs v m') ex tm' m'->∃k,hM (zdr P (zdx P (evT P T k) ops b l) d tm (toH m) (hsH hs) rs ex tm' (toH m')) (zpY K):=fun ex tm' m' hv=>by
     cases ex with
     | val v=>
      have h5:zpj P d (shD P T ops b K l) tm m hs rs v m':=hv;unfold zpj at h5;rw[hc3] at h5;obtain⟨k2,h6⟩:=haft (show zpi P d (shD P T ops b K l) tm m hs rs v m' from h5);refine⟨k2,?_⟩;unfold zdr;rw[hc3];exact h6
     | _=>exact hv.elim
    exact zng (X:=fun k=>evT P T k t e3 (toH m)) (fun k k' hk hn=>zm0 hk _ _ _ hn) hup hw hend
   cases r with
   | val v h'=>
    obtain⟨m',rfl,h5⟩:=h2;unfold zpj at h5;have hval:∀k,onD P (evT P T k) (zdx P (evT P T k) ops b l) d tm (toH m) (hsH hs) rs (.val v (toH m'))=zdq P (zdx P (evT P T k) ops b l) d tm (toH m) (hsH hs) rs v (toH m'):=fun _=>rfl;generalize hcls:d.cls=c at h5
    match c,h5 with
    | 0,h5=>
     obtain⟨k,h6⟩:=ih (show shD P T ops b K l (zcP tm d.o.dst v) m hs rs from h5);refine⟨k,?_⟩
     show hM (onD P (evT P T k) (zdx P (evT P T k) ops b l) d tm (toH m) (hsH hs) rs (.val v (toH m'))) _
     rw[hval];unfold zdq;rw[hcls]; exact h6
    | 1,h5=>
     obtain⟨h7,h8⟩:=zqg (o:=d.o) (show zph P tm d.o.op v d.back hs _ from h5);obtain⟨k,h6⟩:=ih h8;refine⟨k,?_⟩
     show hM (onD P (evT P T k) (zdx P (evT P T k) ops b l) d tm (toH m) (hsH hs) rs (.val v (toH m'))) _
     rw[hval];unfold zdq;rw[hcls]
     show hM (ifB (zdm P tm d.o v d.back (hsH hs)) _ .fail) _
     rw[h7]; exact h6
    | c+2,h5=>
     obtain⟨k,h6⟩:=haft (show zpi P d (shD P T ops b K l) tm m hs rs v m' from h5);refine⟨k,?_⟩
     show hM (onD P (evT P T k) (zdx P (evT P T k) ops b l) d tm (toH m) (hsH hs) rs (.val v (toH m'))) _
     rw[hval];unfold zdq;rw[hcls]; exact h6
   | call f args=>
    rcases h3 with h3 | h3
    ·cases h3
    ·exact hcall h3 h2
   | yield f args=>
    rcases h3 with h3 | h3
    ·cases h3
    ·exact hcall h3 h2
   | alts l=>cases h2.1
  have hskip:zpk P d (shD P T ops b K l) tm m hs rs->∃k,hM (zds P (zdx P (evT P T k) ops b l) d tm (toH m) (hsH hs) rs) (zpY K):=fun hq=>by
   unfold zpk at hq;generalize hcls:d.cls=c at hq
   match c,hq with
   | 0,hq=>
    obtain⟨k,h6⟩:=ih (show shD P T ops b K l (zcP tm d.o.dst (.tup [])) m hs rs from hq);exact⟨k,by unfold zds; rw[hcls]; exact h6⟩
   | 1,hq=>
    obtain⟨k,h6⟩:=ih (show shD P T ops b K l (zcP tm d.o.dst (.tup [])) m hs rs from hq);exact⟨k,by unfold zds; rw[hcls]; exact h6⟩
   | c+2,hq=>
    obtain⟨k,h6⟩:=haft (show zpi P d (shD P T ops b K l) tm m hs rs (.tup []) m from hq);exact⟨k,by unfold zds; rw[hcls]; exact h6⟩
  unfold shN at h0
  cases hg:d.o.guard with
  | none=>
   have h0':zaa d.o.guard (op1 P T false (znO ops d.o.dst) tm m d.o.type d.o.op fun v m'=>zpj P d (shD P T ops b K l) tm m hs rs v m') _:=h0;rw[hg] at h0';obtain⟨k,h1⟩:=hrun h0';refine⟨k,?_⟩;rw[heq,show zcO ops tm d.o=some true by unfold zcO; rw[hg]; rfl];exact h1
  | some g=>
   have h0':zaa d.o.guard (op1 P T false (znO ops d.o.dst) tm m d.o.type d.o.op fun v m'=>zpj P d (shD P T ops b K l) tm m hs rs v m') (fun g=>zpb ops tm g (fun tm=>op1 P T false (znO ops d.o.dst) tm m d.o.type d.o.op fun v m'=>zpj P d (shD P T ops b K l) tm m hs rs v m') fun tm=>zpk P d (shD P T ops b K l) tm m hs rs):=h0;rw[hg] at h0';obtain⟨t,h1,h2,h3⟩:=zpX (show zpb ops tm g (fun tm=>op1 P T false (znO ops d.o.dst) tm m d.o.type d.o.op fun v m'=>zpj P d (shD P T ops b K l) tm m hs rs v m') (fun tm=>zpk P d (shD P T ops b K l) tm m hs rs) from h0')
   have hw:zcO ops tm d.o=some t:=by unfold zcO; rw[hg]; exact h1
   cases t with
   | true=>
    obtain⟨k,h4⟩:=hrun (h2 rfl);exact⟨k,by rw[heq,hw]; exact h4⟩
   | false=>
    obtain⟨k,h4⟩:=hskip (h3 rfl);exact⟨k,by rw[heq,hw]; exact h4⟩
theorem zqj{ops:Array Oper}{draw:Bool}{tm:S3 V}{m:M}{K:S3 V->M->Prop}(h:zpq P T ops.toList draw tm m K):∃k,hM (zdA P (evT P T k) ops draw tm (toH m)) (zpY K):=by
 cases draw with
 | false=>exact zp2 (show zpc P T ops.toList K ops.toList tm m from h)
 | true=>
  obtain⟨l,h1,h2⟩:=znQ (show orP (zdj ops.toList) fun l=>zpp m (zdy l) fun m'=>shD P T ops.toList m.nxt K l tm m' [] [] from h)
  have hcl:∀d∈l,d.cls=classOf d.o.op:=by
   obtain⟨_,hlen,hat⟩:=zjF h1;intro d hd;obtain⟨k,hk,hkd⟩:=List.getElem_of_mem hd;have:=hat k (by omega);rw[List.getElem?_eq_getElem hk,hkd] at this;have hd':d=zdg ops.toList (zc2 [] ops.toList) k:=oi this;rw[hd']; rfl
  have h3:shD P T ops.toList m.nxt K l tm (zpo m (zdy l)) [] []:=by
   unfold zpp at h2
   cases hn:zdy l with
   | zero=>rw[hn] at h2; exact h2
   | succ n=>rw[hn] at h2; exact h2 _ rfl
  obtain⟨k,h4⟩:=zqi hcl h3;refine⟨k,?_⟩
  show hM (orF (zdj ops.toList) fun l=>zdx P (evT P T k) ops.toList (toH m).nxt l tm (zdz (toH m) (zdy l)) [] []) _
  rw[h1];exact h4
end
end Go.Abs

namespace Go.Abs
noncomputable section
variable {P:Program} {T:List (Nat × Bool)}
theorem zqk{tm:S3 V}{s:Nat}{v:V}(h:zpE tm s=some v):zag tm s=some v/\zdF v=false:=by
 unfold zpE at h;obtain⟨x,h1,h2⟩:=zd7 h
 cases ht:zdF x with
 | true=>rw[ht] at h2; cases h2
 | false=>rw[ht] at h2; cases h2; exact⟨h1,ht⟩
theorem zql{tm:S3 V}{s:Nat}{v:V}(h:zag tm s=some v)(ht:zdF v=false):zpE tm s=some v:=by
 unfold zpE;rw[h,zd6,ht]; rfl
theorem zqm{tm' t:S3 V}(p:P3):∀(C:List (Nat × V)) (vs:List V),zpF C tm'=some vs->((∃x∈C,zae x.1=p)/\zec p (zpC C vs t)=zec p tm')\/((∀x∈C,zae x.1 ≠ p)/\zec p (zpC C vs t)=zec p t)
 | [],vs,_=>.inr ⟨(fun _ h=>by cases h),rfl⟩
 | x::C,vs,h=>by
  have h0:zaa (zpE tm' x.1) none (fun y=>zaa (zpF C tm') none fun ys=>some (y::ys))=some vs:=h;obtain⟨y,h1',h2⟩:=zd7 h0;obtain⟨h1,_⟩:=zqk h1';obtain⟨ys,h3,h4⟩:=zd7 h2
  cases h4
  have h5:zec p (zpC (x::C) (y::ys) t)=if p=zae x.1 then .x x.1 y else zec p (zpC C ys t):=zeg ..;rw[h5]
  by_cases hp:p=zae x.1
  ·rw[if_pos hp,hp];rw[zee] at h1;exact .inl ⟨⟨x,List.mem_cons_self ..,rfl⟩,(zeb h1).symm⟩
  ·rw[if_neg hp]
   rcases zqm (tm':=tm') (t:=t) p C ys h3 with ⟨⟨s',h1,h2⟩,h3⟩ | ⟨h1,h2⟩
   ·exact .inl ⟨⟨s',List.mem_cons_of_mem _ h1,h2⟩,h3⟩
   ·refine .inr ⟨fun s' hs'=>?_,h2⟩
    rcases List.mem_cons.1 hs' with rfl | hs'
    ·exact fun h=>hp h.symm
    ·exact h1 s' hs'
theorem zqn{tm:S3 V}{s:Nat}:∀{A:List Nat},s∈A->(∃x∈zpB tm A,x.1=s)\/s∈zdG tm A
 | a::A,h=>by
  have hc:zpB tm (a::A)=zaa (zag tm a) (zpB tm A) fun v=>ifB (zdF v) (zpB tm A) ((a,v)::zpB tm A):=rfl;have hd:zdG tm (a::A)=zaa (zag tm a) (a::zdG tm A) fun v=>ifB (zdF v) (a::zdG tm A) (zdG tm A):=rfl;rw[hc,hd]
  cases hg:zag tm a with
  | none=>
   rw[zd5,zd5]
   rcases List.mem_cons.1 h with rfl | h
   ·exact .inr (List.mem_cons_self ..)
   ·exact(zqn h).imp id (List.mem_cons_of_mem _)
  | some v=>
   rw[zd6,zd6]
   cases ht:zdF v with
   | true=>
    rw[zd3,zd3]
    rcases List.mem_cons.1 h with rfl | h
    ·exact .inr (List.mem_cons_self ..)
    ·exact(zqn h).imp id (List.mem_cons_of_mem _)
   | false=>
    rw[zd4,zd4]
    rcases List.mem_cons.1 h with rfl | h
    ·exact .inl ⟨_,List.mem_cons_self ..,rfl⟩
    ·exact(zqn h).imp (fun⟨x,h1,h2⟩=>⟨x,List.mem_cons_of_mem _ h1,h2⟩) id
theorem zqo{tm:S3 V}:∀{A:List Nat},∀x∈zpB tm A,x.1∈A/\zag tm x.1=some x.2/\zdF x.2=false
 | []=>fun x h=>(by cases h)
 | a::A=>fun x hx=>by
  have hc:zpB tm (a::A)=zaa (zag tm a) (zpB tm A) fun v=>ifB (zdF v) (zpB tm A) ((a,v)::zpB tm A):=rfl;have h1:=zqo (tm:=tm) (A:=A);have h1':x∈zpB tm A->x.1∈a::A/\zag tm x.1=some x.2/\zdF x.2=false:=fun hx=>⟨List.mem_cons_of_mem _ (h1 x hx).1,(h1 x hx).2⟩;rw[hc] at hx
  cases hg:zag tm a with
  | none=>rw[hg] at hx; exact h1' hx
  | some v=>
   rw[hg,zd6] at hx
   cases ht:zdF v with
   | true=>rw[ht] at hx; exact h1' hx
   | false=>
    rw[ht,zd4] at hx
    rcases List.mem_cons.1 hx with rfl | hx
    ·exact⟨List.mem_cons_self ..,hg,ht⟩
    ·exact h1' hx
theorem zqp{tm:S3 V}{s:Nat}:∀{A:List Nat},s∈zdG tm A↔s∈A/\zpE tm s=none
 | []=>⟨fun h=>(by cases h),fun h=>(by cases h.1)⟩
 | a::A=>by
  have hd:zdG tm (a::A)=zaa (zag tm a) (a::zdG tm A) fun v=>ifB (zdF v) (a::zdG tm A) (zdG tm A):=rfl;have hv:zpE tm a=zaa (zag tm a) none fun v=>ifB (zdF v) none (some v):=rfl
  have hcons:zpE tm a=none->(s∈a::zdG tm A↔s∈a::A/\zpE tm s=none):=fun hn=>by
   rw[List.mem_cons,List.mem_cons,zqp]
   constructor
   ·rintro (rfl | ⟨h1,h2⟩)
    ·exact⟨.inl rfl,hn⟩
    ·exact⟨.inr h1,h2⟩
   ·rintro⟨h1 | h1,h2⟩
    ·exact .inl h1
    ·exact .inr ⟨h1,h2⟩
  rw[hd]
  cases hg:zag tm a with
  | none=>rw[hg] at hv; exact hcons hv
  | some v=>
   rw[hg,zd6] at hv;rw[zd6]
   cases ht:zdF v with
   | true=>rw[ht] at hv; exact hcons hv
   | false=>
    rw[ht,zd4] at hv;rw[zd4,List.mem_cons,zqp]
    constructor
    ·rintro⟨h1,h2⟩; exact⟨.inr h1,h2⟩
    ·rintro⟨h1 | h1,h2⟩
     ·subst h1; rw[hv] at h2; cases h2
     ·exact⟨h1,h2⟩
structure zqq (A:List Nat) (tm:S3 V):Prop where
 e:∀s∈A,zpE tm s=none->zec (zae s) tm=.e
theorem zqr{tm tm':S3 V}{s:Nat}(h:zec (zae s) tm'=zec (zae s) tm):zpE tm' s=zpE tm s:=by
 unfold zpE;rw[zee,zee,h]
theorem zqs(tm:S3 V)(A:List Nat):zqq A (zdH tm (zdG tm A)):=⟨fun s hs hn=>by
 rcases zo5 (tm:=tm) (zae s) (zdG tm A) with ⟨_,h⟩ | ⟨h1,h2⟩
 ·exact h
 ·exfalso
  rw[zqr h2] at hn
  exact h1 s (zqp.2 ⟨hs,hn⟩) rfl⟩
theorem zqt{A:List Nat}{tm:S3 V}(hh:zqq A tm){tm':S3 V}{vs:List V}(hg:zpF (zpB tm A) tm'=some vs) :
  zdG (zpC (zpB tm A) vs tm) A=zdG tm A/\zdH (zpC (zpB tm A) vs tm) (zdG tm A)=zpC (zpB tm A) vs tm:=by
 have hno:∀s∈zdG tm A,∀x∈zpB tm A,zae x.1 ≠ zae s:=fun s hs x hx hp=>by
  obtain⟨h1,h2⟩:=zqp.1 hs;have h3:=hh.e s h1 h2;obtain⟨_,h4,_⟩:=zqo x hx;rw[zee,hp,h3] at h4
  cases h4
 have hsame:∀s∈zdG tm A,zec (zae s) (zpC (zpB tm A) vs tm)=zec (zae s) tm:=fun s hs=>by
  rcases zqm (t:=tm) (zae s) _ _ hg with ⟨⟨x,h1,h2⟩,_⟩ | ⟨_,h2⟩
  ·exact absurd h2 (hno s hs x h1)
  ·exact h2
 have hval:∀s,s∈A->(zpE (zpC (zpB tm A) vs tm) s=none↔zpE tm s=none):=fun s hs=>by
  rcases zqn (tm:=tm) hs with ⟨x,h1,rfl⟩ | h1
  ·have h2:∃v,zpE tm' x.1=some v:=by
    have:∀(C:List (Nat × V)) (vs:List V),zpF C tm'=some vs->∀x∈C,∃v,zpE tm' x.1=some v:=by
     intro C
     induction C with
     | nil=>intro _ _ x hx; cases hx
     | cons y C ih=>
      intro vs hvs x hx;obtain⟨v,h3,h4⟩:=zd7 (show zaa (zpE tm' y.1) none (fun z=>zaa (zpF C tm') none fun ys=>some (z::ys))=some vs from hvs);obtain⟨ys,h5,_⟩:=zd7 h4
      rcases List.mem_cons.1 hx with rfl | hx
      ·exact⟨v,h3⟩
      ·exact ih ys h5 x hx
    exact this _ _ hg x h1
   obtain⟨v,h2⟩:=h2;obtain⟨_,h4,h5⟩:=zqo x h1
   have h6:zpE (zpC (zpB tm A) vs tm) x.1=some v:=by
    rcases zqm (t:=tm) (zae x.1) _ _ hg with ⟨_,h7⟩ | ⟨h7,_⟩
    ·rw[zqr h7]; exact h2
    ·exact absurd rfl (h7 x h1)
   rw[h6,zql h4 h5]
   constructor <;> (intro h; cases h)
  ·rw[zqr (hsame s h1)]
 have hdead:∀(B:List Nat),(∀s∈B,s∈A)->zdG (zpC (zpB tm A) vs tm) B=zdG tm B:=by
  intro B
  induction B with
  | nil=>intro _; rfl
  | cons s B ih=>
   intro hB;have h1:=hval s (hB s (List.mem_cons_self ..))
   have hd:∀t:S3 V,zdG t (s::B)=zaa (zpE t s) (s::zdG t B) fun _=>zdG t B:=fun t=>by
    show zaa (zag t s) (s::zdG t B) (fun v=>ifB (zdF v) (s::zdG t B) (zdG t B))=zaa (zaa (zag t s) none fun v=>ifB (zdF v) none (some v)) (s::zdG t B) fun _=>zdG t B
    cases zag t s with
    | none=>rfl
    | some v=>
     rw[zd6,zd6]
     cases zdF v <;> rfl
   rw[hd,hd,ih fun s' hs'=>hB s' (List.mem_cons_of_mem _ hs')]
   cases ha:zpE tm s with
   | none=>rw[h1.2 ha]
   | some v=>
    cases hb:zpE (zpC (zpB tm A) vs tm) s with
    | none=>rw[h1.1 hb] at ha; cases ha
    | some v'=>rfl
 refine⟨hdead A fun _ h=>h,?_⟩
 apply S3.ext'
 intro p
 rcases zo5 (tm:=zpC (zpB tm A) vs tm) p (zdG tm A) with ⟨⟨s,h1,rfl⟩,h3⟩ | ⟨_,h2⟩
 ·rw[h3,hsame s h1];obtain⟨h4,h5⟩:=zqp.1 h1;exact(hh.e s h4 h5).symm
 ·exact h2
theorem zqu{tm:S3 V}{A:List Nat}(hh:zqq A tm){t0 tm':S3 V}(h0:zoP A tm t0)(hs:zoP A t0 tm'){vs:List V}(hg:zpF (zpB tm A) tm'=some vs):zdH tm' (zdG tm A)=zpC (zpB tm A) vs tm:=by
 apply S3.ext'
 intro p
 rcases zo5 (tm:=tm') p (zdG tm A) with ⟨⟨s,h1,rfl⟩,h3⟩ | ⟨h1,h2⟩
 ·rw[h3];obtain⟨h4,h5⟩:=zqp.1 h1;have h6:=hh.e s h4 h5
  rcases zqm (t:=tm) (zae s) _ _ hg with ⟨⟨x,q1,q2⟩,_⟩ | ⟨_,q2⟩
  ·obtain⟨_,q3,_⟩:=zqo x q1;rw[zee,q2,h6] at q3
   cases q3
  ·rw[q2,h6]
 ·rw[h2]
  rcases zqm (t:=tm) p _ _ hg with ⟨_,q2⟩ | ⟨q1,q2⟩
  ·exact q2.symm
  ·rw[q2]
   have hp:∀s∈A,zae s ≠ p:=fun s hsA hp=>by
    rcases zqn (tm:=tm) hsA with ⟨x,h5,h6⟩ | h5
    ·exact q1 x h5 (by rw[h6]; exact hp)
    ·exact h1 s h5 hp
   rw[hs p hp,h0 p hp]
theorem zqv{tm:S3 V}:∀{C:List (Nat × V)},(∀x∈C,zpE tm x.1=some x.2)->zpF C tm=some (zpD C)
 | [],_=>rfl
 | x::C,h=>by
  show zaa (zpE tm x.1) none (fun y=>zaa (zpF C tm) none fun ys=>some (y::ys))=some (x.2::zpD C)
  rw[h x (List.mem_cons_self ..),zd6,zqv fun y hy=>h y (List.mem_cons_of_mem _ hy)]; rfl
theorem zqw{tm:S3 V}:∀{C:List (Nat × V)},(∀x∈C,zag tm x.1=some x.2)->zpC C (zpD C) tm=tm
 | [],_=>rfl
 | x::C,h=>by
  show zah (zpC C (zpD C) tm) x.1 x.2=tm
  rw[zqw fun y hy=>h y (List.mem_cons_of_mem _ hy)];exact zpa (h x (List.mem_cons_self ..))
theorem zqx{tm:S3 V}{A:List Nat}{vs:List V}:zoP A tm (zpC (zpB tm A) vs tm):=by
 intro p hp
 have h2:∀(C:List (Nat × V)) (vs:List V),(∀x∈C,x.1∈A)->zec p (zpC C vs tm)=zec p tm:=by
  intro C
  induction C with
  | nil=>intro vs _; rfl
  | cons x C ih=>
   intro vs hC
   cases vs with
   | nil=>rfl
   | cons v vs=>
    show zec p (zah (zpC C vs tm) x.1 v)=_
    rw[zeg,if_neg fun h=>hp x.1 (hC x (List.mem_cons_self ..)) h.symm];exact ih vs fun s' hs'=>hC s' (List.mem_cons_of_mem _ hs')
 exact h2 _ _ fun x hx=>(zqo x hx).1
theorem zqy{c:C}{K:C->Prop}(h:∀c,K c):zpr c K:=by cases c <;> first | exact fun _=>h _ | exact fun _ _=>h _
theorem zqz{l:List C}:∀{K:List C->Prop},(∀l,K l)->zps l K:=by
 induction l with
 | nil=>exact fun h=>h []
 | cons c l ih=>exact fun {K} h=>zqy (K:=fun c'=>zps l fun l=>K (c'::l)) fun c'=>ih fun l=>h _
theorem zqA{v:V}{K:V->Prop}(h:∀v,K v):zpt v K:=by
 cases v with
 | c x=>exact zqy fun c=>h _
 | agg n l=>exact zqz fun l=>h _
 | tup l=>exact h _
theorem zqB{k:SK}{K:C->Prop}(h:∀c,K c):zpu k K:=by cases k <;> exact fun _=>h _
theorem zqC{ks:List SK}:∀{K:List C->Prop},(∀l,K l)->zpv ks K:=by
 induction ks with
 | nil=>exact fun h=>h []
 | cons k ks ih=>exact fun {K} h=>zqB (K:=fun c=>zpv ks fun l=>K (c::l)) fun c=>ih fun l=>h _
theorem zqD{t:TypeId}{K:V->Prop}(h:∀v,K v):zpw P t K:=by
 unfold zpw
 cases za9 P t with
 | false=>exact zqB (K:=fun c=>K (.c c)) fun c=>h _
 | true=>
  cases few P t with
  | true=>exact zqC fun l=>h _
  | false=>exact fun l=>h _
theorem zqE{G:List Oper}{s:Nat}{v:V}{K:V->Prop}(h:∀v,K v):zpz P G s v K:=by
 unfold zpz
 cases zpy G s with
 | none=>exact zqA h
 | some t=>
  rw[zd6]
  cases Nat.beq t 0 with
  | true=>exact zqA h
  | false=>exact zqD h
theorem zqF{G:List Oper}{C:List (Nat × V)}:∀{K:List V->Prop},(∀l,K l)->zpA P G C K:=by
 induction C with
 | nil=>exact fun h=>h []
 | cons x C ih=>exact fun {K} h=>zqE (K:=fun v=>zpA P G C fun l=>K (v::l)) fun v=>ih fun l=>h _
theorem zqG(k:Nat)(b:Code)(tm:S3 V)(m:M):evT P T (k+1) (.loop b) tm (toH m)=bind (zdN P (evT P T k) b (zdH tm (zdG tm (asg b))) (toH m)) (zdJ (evT P T k) b (zdH tm (zdG tm (asg b)))):=rfl
theorem zqH{b:Code}{tm:S3 V}{k k':Nat}(hk:k<=k'):KLe (zdJ (evT P T k) b tm) (zdJ (evT P T k') b tm):=fun ex tm1 h1 hq=>by
 cases ex with
 | nrm=>exact zm0 hk _ _ _ hq
 | val v=>exact hq.elim
 | _=>rfl
theorem zqI{G:List Oper}{b:Code}(ih:∀{tm m Q},sh P T G b tm m Q->Sc P T b tm m Q){tm0:S3 V}{m:M}{Q:zm8}(h:zpH P G (asg b) (sh P T G b) tm0 m Q):Sc P T (.loop b) tm0 m Q:=by
 have hh:zqq (asg b) (zdH tm0 (zdG tm0 (asg b))):=zqs _ _;have h':zpG P G (asg b) (sh P T G b) (zdH tm0 (zdG tm0 (asg b))) m Q:=h;have hsc:∀k,zdN P (evT P T k) (.loop b) tm0 (toH m)=bind (zdN P (evT P T k) b (zdH tm0 (zdG tm0 (asg b))) (toH m)) (zdJ (evT P T k) b (zdH tm0 (zdG tm0 (asg b)))):=fun _=>rfl;generalize zdH tm0 (zdG tm0 (asg b))=tm at hh h' hsc
 have hR:=h' (fun vs m=>(∃tm',zpF (zpB tm (asg b)) tm'=some vs)->∃k,hM (evT P T k (.loop b) (zpC (zpB tm (asg b)) vs tm) (toH m)) Q) (zqF fun vs m hb hex=>by
  obtain⟨t1,hg1⟩:=hex;obtain⟨hd1,hd2⟩:=zqt hh hg1
  have hev:∀k,evT P T (k+1) (.loop b) (zpC (zpB tm (asg b)) vs tm) (toH m)=bind (zdN P (evT P T k) b (zpC (zpB tm (asg b)) vs tm) (toH m)) (zdJ (evT P T k) b (zpC (zpB tm (asg b)) vs tm)):=fun k=>by
   rw[zqG,hd1,hd2]
  obtain⟨k1,h1⟩:=ih hb;have h2:=znd h1 (A:=fun _ tm' _=>zoP (asg b) (zpC (zpB tm (asg b)) vs tm) tm') fun ex tm' h' hl=>zo8 (zo9 k1) b _ _ _ _ _ hl
  obtain⟨k,h3⟩:=zng (X:=fun k=>zdN P (evT P T k) b (zpC (zpB tm (asg b)) vs tm) (toH m)) (fun k k' hk hn=>zmT (zm0 hk) b _ _ hn) (Kf:=fun k=>zdJ (evT P T k) b (zpC (zpB tm (asg b)) vs tm)) (Q:=Q) (fun k k' hk=>zqH hk) ⟨k1,h2⟩ fun ex tm' m' hq=>by
   obtain⟨hq,hsame⟩:=hq
   cases ex with
   | nrm=>
    obtain⟨vs',h3,h4⟩:=znQ (show orP (zpF (zpB tm (asg b)) tm') _ from hq);obtain⟨k2,h5⟩:=h4 ⟨tm',h3⟩;refine⟨k2,?_⟩
    show hM (evT P T k2 (.loop b) (zdH tm' (zdG (zpC (zpB tm (asg b)) vs tm) (asg b))) (toH m')) Q
    rw[hd1,zqu hh zqx hsame h3];exact h5
   | exit id=>exact⟨0,zna hq⟩
   | ret=>exact⟨0,zna hq⟩
   | val v=>exact hq.elim
  exact⟨k+1,by rw[hev]; exact h3⟩)
 have hself:zpF (zpB tm (asg b)) tm=some (zpD (zpB tm (asg b))):=zqv fun x hx=>zql (zqo x hx).2.1 (zqo x hx).2.2;obtain⟨k,h1⟩:=hR ⟨tm,hself⟩;rw[zqw fun x hx=>(zqo x hx).2.1] at h1
 cases k with
 | zero=>exact h1.elim
 | succ k=>
  refine⟨k,?_⟩;rw[hsc];obtain⟨q1,q2⟩:=zqt hh hself;rw[zqw fun x hx=>(zqo x hx).2.1] at q1 q2;rw[zqG,q2] at h1;exact h1
theorem zqJ{ts:List TypeId}:∀{K:List V->Prop},zpK P ts K->∃l,K l:=by
 induction ts with
 | nil=>exact fun h=>⟨_,h⟩
 | cons t ts ih=>
  intro K h;obtain⟨v,h1⟩:=zn9 (show exV P t fun v=>zpK P ts fun l=>K (v::l) from h);obtain⟨l,h2⟩:=ih h1;exact⟨_,h2⟩
theorem zqK{ys:Option (List TypeId)}{args:List V}{K:List V->Prop}(h:zpL P ys args K):K args:=by
 unfold zpL at h
 cases hy:ys with
 | none=>rw[hy] at h; exact h
 | some ts=>
  rw[hy] at h;obtain⟨l,h1,h2⟩:=zqJ (show zpK P ts fun l=>args=l/\K l from h);rw[h1]; exact h2
theorem zqL{G:List Oper}{f:Operand}{ps:Array Tmp}{a b:Code}(iha:∀{tm m Q},sh P T G a tm m Q->Sc P T a tm m Q)(ihb:∀{tm m Q},sh P T G b tm m Q->Sc P T b tm m Q){tm:S3 V}{m:M}{Q:zm8}
  {x:C} (hv:opd tm f=some (.c x)) (h:zpW P T x m (fun args m1 J K=>zpL P (zpJ P G f) args fun args=>orP (zdP ps.toList args tm) fun tm1=>sh P T G a tm1 m1 fun ex tm2 m2=>exB ex (J m2 fun m3=>sh P T G b tm2 m3 fun ex _ m4=>K ex m4) (fun _=>False) False fun _=>False) { nrm:=fun m=>Q .nrm tm m,exits:=zpR (fun id m=>Q (.exit id) tm m) (zpQ (zpP b)),ret:=fun m=>Q .ret tm m }) :
  Sc P T (.rangeFunc f ps a b) tm m Q:=by
 cases x with
 | fn g fa fb=>
  cases g with
  | func g=>
   let mk:LoopState->Option Code->AO:=fun st pd=>.loop st pd 0 tm ps.toList a b
   have hl:∀{mm:M} {st:LoopState} {pd:Option Code} {s:LoopState->Option Code->FuncId->S3 V->List Nat->Code->Code->Out},mm.g m.nxt=some (mk st pd)->za5 (toH mm) m.nxt .fail s=s st pd 0 tm ps.toList a b:=fun {mm st pd s} hh=>by
    unfold za5;rw[zm7,hh]; rfl
   have hy:zpV P T mk m.nxt (fun args m1 J K=>zpL P (zpJ P G f) args fun args=>orP (zdP ps.toList args tm) fun tm1=>sh P T G a tm1 m1 fun ex tm2 m2=>exB ex (J m2 fun m3=>sh P T G b tm2 m3 fun ex _ m4=>K ex m4) (fun _=>False) False fun _=>False):=by
    intro args m1 Qy hg hr;obtain⟨tm1,h1,h2⟩:=znQ (zqK hr)
    obtain⟨k,h3⟩:=zng (X:=fun k=>zdN P (evT P T k) a tm1 (toH m1)) (fun k k' hk hn=>zmT (zm0 hk) a _ _ hn) (Kf:=fun k=>zd1 P (evT P T k) m.nxt b) (Q:=znh Qy) (fun k k' hk ex tm2 h2 hq=>by
     cases ex with
     | nrm=>
      refine zmR hq fun st p f t ps a c hs=>?_
      cases st with
      | ready=>exact zmC (zmT (zm0 hk) _ _ _) hs fun _ _ _ _=>rfl
      | _=>exact hs.elim
     | _=>exact hq.elim) (iha h2) fun ex tm2 m2 h4=>by
     cases ex with
     | nrm=>
      obtain⟨hg2,h5⟩:=(show m2.g m.nxt=some (mk .ready none)/\sh P T G b tm2 (m2.set m.nxt (mk .busy none)) _ from h4)
      obtain⟨k2,h6⟩:=zng (X:=fun k=>zdN P (evT P T k) b tm2 (toH (m2.set m.nxt (mk .busy none)))) (fun k k' hk hn=>zmT (zm0 hk) b _ _ hn) (Kf:=fun _=>zd0 m.nxt) (Q:=znh Qy) (fun _ _ _ _ _ _ _=>rfl) (ihb h5) fun ex2 tm3 m4 h7=>by
       obtain⟨⟨st,pd,hg4⟩,h7⟩:=h7;refine⟨0,?_⟩
       show hM (za5 (toH m4) m.nxt .fail _) _
       rw[hl hg4]
       cases ex2 with
       | nrm=>
        show hM (.ok (.val (.c (.bool true))) e3 (za0 (toH m4) m.nxt (.loop .ready none 0 tm ps.toList a b))) _
        rw[zm4]; exact zna h7
       | exit id=>
        show hM (.ok (.val (.c (.bool false))) e3 (za0 (toH m4) m.nxt (.loop .done (some (.exit id)) 0 tm ps.toList a b))) _
        rw[zm4]; exact zna h7
       | ret=>
        show hM (.ok (.val (.c (.bool false))) e3 (za0 (toH m4) m.nxt (.loop .done (some .ret) 0 tm ps.toList a b))) _
        rw[zm4]; exact zna h7
       | val v=>exact h7.elim
      refine⟨k2,?_⟩
      show hM (za5 (toH m2) m.nxt .fail _) _
      rw[hl hg2]
      show hM (bind (zdN P (evT P T k2) b tm2 (za0 (toH m2) m.nxt (.loop .busy none 0 tm ps.toList a b))) (zd0 m.nxt)) _
      rw[zm4];exact h6
     | _=>exact h4.elim
    refine⟨k+1,?_⟩
    show hM (zd2 P (evT P T k) m.nxt args (toH m1)) (znh Qy)
    unfold zd2;rw[hl hg]
    show hM (orF (zdP ps.toList args tm) fun tm'=>bind (zdN P (evT P T k) a tm' (toH m1)) (zd1 P (evT P T k) m.nxt b)) _
    rw[h1,zic];exact h3
   have hjmp:∀{m5:M} {pd:Option Code} {k:Nat},zpO { nrm:=fun m=>Q .nrm tm m,exits:=zpR (fun id m=>Q (.exit id) tm m) (zpQ (zpP b)),ret:=fun m=>Q .ret tm m } pd (m5.del m.nxt)->hM (zdK (evT P T k) tm (za1 (toH m5) m.nxt) pd) Q:=fun {m5 pd k} h2=>by
    rw[zm6]
    cases pd with
    | none=>exact zna h2
    | some c=>
     cases c with
     | exit id=>
      have hex:∀{l:List Nat} {id:Nat} {mm:M},zpN id mm (zpR (fun id m=>Q (.exit id) tm m) l)->Q (.exit id) tm mm:=fun {l id mm} hq=>by
       induction l with
       | nil=>exact hq.elim
       | cons x l ih=>
        have hq':ifB (Nat.beq x id) (Q (.exit x) tm mm) (zpN id mm (zpR (fun id m=>Q (.exit id) tm m) l)):=hq
        cases hb:Nat.beq x id with
        | true=>rw[hb] at hq'; rw[<- Nat.eq_of_beq_eq_true hb]; exact hq'
        | false=>rw[hb] at hq'; exact ih hq'
      exact zna (hex h2)
     | ret=>exact zna h2
     | _=>exact h2.elim
   obtain⟨k,h3⟩:=zng (X:=fun k=>evT P T k (.call g (appS (zbZ wV fa) (appS [.c (.fn (.yield m.nxt) [] [])] (zbZ wV fb)))) e3 (toH (m.new (mk .ready none)))) (fun k k' hk hn=>zm0 hk _ _ _ hn) (Kf:=fun k=>zdL (evT P T k) m.nxt tm) (Q:=Q) (fun k k' hk ex tm2 h2 hq=>by
    cases ex with
    | val v=>
     refine zmR hq fun st p f t ps a c hs=>?_
     cases st <;> first | rfl | exact hs.elim
    | _=>exact hq.elim) (h mk hy) fun ex tm' m5 hq=>by
    cases ex with
    | val v=>
     obtain⟨st,pd,hg5,hnb,h2⟩:=(show ∃st pd,m5.g m.nxt=some (mk st pd)/\st ≠ .busy/\zpO _ pd (m5.del m.nxt) from hq);refine⟨0,?_⟩
     show hM (za5 (toH m5) m.nxt .fail _) Q
     rw[hl hg5]
     cases st with
     | busy=>exact absurd rfl hnb
     | _=>exact hjmp h2
    | _=>exact hq.elim
   refine⟨k,?_⟩
   show hM (orF (opd tm f) fun v=>zdM (evT P T k) ps.toList a b tm (toH m) v) Q
   rw[hv,zic]
   show hM (bind (evT P T k (.call g (appS (zbZ wV fa) (appS [.c (.fn (.yield m.nxt) [] [])] (zbZ wV fb)))) e3 (zaZ (toH m) (.loop .ready none 0 tm ps.toList a b))) (zdL (evT P T k) m.nxt tm)) Q
   rw[zm5];exact h3
  | _=>exact h.elim
 | _=>exact h.elim
theorem zqM{G:List Oper}:∀(c:Code) {tm:S3 V} {m:M} {Q:zm8},sh P T G c tm m Q->Sc P T c tm m Q:=by
 intro c
 induction c with
 | skip=>exact fun h=>⟨0,zna h⟩
 | region id ops draw=>
  intro tm m Q h;obtain⟨k,h1⟩:=zqj (show zpq P T ops.toList draw tm m fun tm m=>Q .nrm tm m from h);exact⟨k,zm9 h1 fun ex tm m hq=>by obtain⟨rfl,h2⟩:=hq; exact h2⟩
 | seq a b iha ihb=>
  intro tm m Q h
  refine zng (X:=fun k=>zdN P (evT P T k) a tm (toH m)) (fun k k' hk hn=>zmT (zm0 hk) a _ _ hn) (Kf:=fun k=>zdB (zdN P (evT P T k) b)) (fun k k' hk ex tm1 h1 hq=>by
   cases ex with
   | nrm=>exact zmT (zm0 hk) b _ _ hq
   | val v=>exact hq.elim
   | _=>rfl) (iha (show sh P T G a tm m fun ex tm m=>exB ex (sh P T G b tm m Q) (fun _=>Q ex tm m) (Q ex tm m) fun _=>False from h)) fun ex tm1 m1 h2=>by
   cases ex with
   | nrm=>exact ihb (show sh P T G b tm1 m1 Q from h2)
   | exit id=>exact⟨0,zna h2⟩
   | ret=>exact⟨0,zna h2⟩
   | val v=>exact h2.elim
 | cond x a b iha ihb=>
  intro tm m Q h;obtain⟨v,h1,h2⟩:=znQ (show orP (opd tm x) fun v=>zav v False fun t=>ifB t (sh P T G a tm m Q) (sh P T G b tm m Q) from h);obtain⟨t,rfl,h3⟩:=znU h2
  cases t with
  | true=>
   obtain⟨k,h4⟩:=iha (show sh P T G a tm m Q from h3);refine⟨k,?_⟩
   show hM (orF (opd tm x) _) Q
   rw[h1]; exact h4
  | false=>
   obtain⟨k,h4⟩:=ihb (show sh P T G b tm m Q from h3);refine⟨k,?_⟩
   show hM (orF (opd tm x) _) Q
   rw[h1]; exact h4
 | block id b ih=>
  intro tm m Q h
  refine zng (X:=fun k=>zdN P (evT P T k) b tm (toH m)) (fun k k' hk hn=>zmT (zm0 hk) b _ _ hn) (Kf:=fun _=>zdC id) (fun _ _ _ _ _ _ _=>rfl) (ih (show sh P T G b tm m fun ex tm m=>exB ex (Q .nrm tm m) (fun id'=>ifB (Nat.beq id id') (Q .nrm tm m) (Q ex tm m)) (Q ex tm m) fun _=>False from h)) fun ex tm1 m1 h2=>by
   refine⟨0,?_⟩
   cases ex with
   | nrm=>exact zna h2
   | exit id'=>
    have h3:ifB (Nat.beq id id') (Q .nrm tm1 m1) (Q (.exit id') tm1 m1):=h2
    show hM (ifB (Nat.beq id id') (.ok .nrm tm1 (toH m1)) (.ok (.exit id') tm1 (toH m1))) Q
    cases hb:Nat.beq id id' with
    | true=>rw[hb] at h3; exact zna h3
    | false=>rw[hb] at h3; exact zna h3
   | ret=>exact zna h2
   | val v=>exact h2.elim
 | loop b ih=>exact fun h=>zqI ih h
 | rangeFunc f ps a b iha ihb=>
  intro tm m Q h;obtain⟨v,h1,h2⟩:=znQ (show orP (opd tm f) _ from h);obtain⟨x,rfl,h3⟩:=znS h2;exact zqL iha ihb h1 h3
 | exit id=>exact fun h=>⟨0,zna h⟩
 | scope b ih=>exact ih
 | label l=>exact fun h=>⟨0,zna h⟩
 | goto l=>exact fun h=>h.elim
 | ret=>exact fun h=>⟨0,zna h⟩
 | refuse s=>exact fun h=>h.elim
def zqN(P:Program)(m:M)(tm:S3 V)(r:ResultVar)(K:V->Prop):Prop:=
 ResultVar.rec (motive:=fun _=>Prop) (fun t=>orP (zag tm t) K) (fun a t=>orP (zag tm a) fun p=>vC1 p fun x=>ifB (zba P t) (ifB (za9 P t) (exA P t fun l=>ldA m x (P.cellsOf t)=some l/\K (.agg (P.cellsOf t) l)) (exC (znt P t) fun c=>ldC m x=some c/\K (.c c))) False) r
def zqO(P:Program)(m:M)(tm:S3 V)(rs:List ResultVar):(List V->Prop)->Prop:=
 List.rec (motive:=fun _=>(List V->Prop)->Prop) (fun K=>K []) (fun r _ ih K=>zqN P m tm r fun v=>ih fun l=>K (v::l)) rs
def zqP(P:Program)(fn:Func)(Q:V->M->Prop)(tm:S3 V)(m:M):Prop:=zqO P m tm fn.results.toList fun vs=>orP (zdR vs) fun v=>Q v m
def zqQ(P:Program)(fn:Func)(Q:V->M->Prop):zm8:=fun ex tm m=>exB ex (zqP P fn Q tm m) (fun _=>False) (zqP P fn Q tm m) fun _=>False
theorem zqR{m:M}{tm:S3 V}{r:ResultVar}{K:V->Prop}(h:zqN P m tm r K):∃v,zdQ P (toH m) tm r=some v/\K v:=by
 cases r with
 | tmp t=>exact znQ (show orP (zag tm t) K from h)
 | cell a t=>
  obtain⟨p,h1,h2⟩:=znQ (show orP (zag tm a) _ from h);obtain⟨x,rfl,h3⟩:=znS h2;obtain⟨h4,h5⟩:=znR h3
  have hl:∃b o v,x=.ptr b o/\zbf P (toH m) t b o=some v/\K v:=by
   cases hf:za9 P t with
   | true=>
    rw[hf] at h5;obtain⟨l,h6,h7⟩:=zn6 h5;obtain⟨b,o,rfl,h8⟩:=zod h6;refine⟨b,o,_,rfl,?_,h7⟩;unfold zbf;rw[h4,hf,zd3,zd3,h8]; rfl
   | false=>
    rw[hf] at h5;obtain⟨c,h6,h7⟩:=zn4 (show exC (znt P t) (fun c=>ldC m x=some c/\K (.c c)) from h5);obtain⟨b,o,rfl,h8⟩:=zoc h6;refine⟨b,o,_,rfl,?_,h7⟩;unfold zbf;rw[h4,hf,zd3,zd4,h8]; rfl
  obtain⟨b,o,v,rfl,h6,h7⟩:=hl;refine⟨v,?_,h7⟩
  show zaa (zag tm a) none (fun p=>zaw p none fun b o=>zbf P (toH m) t b o)=some v
  rw[h1]; exact h6
theorem zqS{m:M}{tm:S3 V}:∀{rs:List ResultVar} {K:List V->Prop},zqO P m tm rs K->∃vs,zaE (zdQ P (toH m) tm) rs=some vs/\K vs
 | [],K,h=>⟨[],rfl,h⟩
 | r::rs,K,h=>by
  obtain⟨v,h1,h2⟩:=zqR (show zqN P m tm r fun v=>zqO P m tm rs fun l=>K (v::l) from h);obtain⟨vs,h3,h4⟩:=zqS h2;refine⟨v::vs,?_,h4⟩
  show zaa (zdQ P (toH m) tm r) none (fun y=>zaa (zaE (zdQ P (toH m) tm) rs) none fun ys=>some (y::ys))=_
  rw[h1,zd6,h3]; rfl
theorem zqT{fn:Func}{Q:V->M->Prop}{tm:S3 V}{m:M}(h:zqP P fn Q tm m):hM (zdS P fn tm (toH m)) (znh Q):=by
 obtain⟨vs,h1,h2⟩:=zqS h;obtain⟨v,h3,h4⟩:=znQ h2;unfold zdS;rw[h1,zic,h3,zic];exact zna h4
theorem zqU:∀{o:Out} {Q:zm8},hM o Q->zdX o=o
 | .fail,_,h=>h.elim
 | .ok _ _ _,_,_=>rfl
 | .or a b,_,⟨h1,h2⟩=>by
  rw[zkL,zqU h1,zqU h2]
  cases a with
  | fail=>exact h1.elim
  | or a1 a2=>rfl
  | ok ex tm h=>
   obtain⟨m,rfl,_⟩:=h1
   cases ex with
   | val v=>
    cases b with
    | fail=>exact h2.elim
    | or b1 b2=>rfl
    | ok ex' tm' h'=>
     cases ex' <;> rfl
   | _=>rfl
theorem zqV{G:List Oper}{f:FuncId}{fn:Func}{c:Code}(hf:P.funcs[f]? = some fn)(hb:fn.body=some c)(hk:zdY fn=true){args:List V}(ha:Nat.ble (zaI args) fn.ntmps=true)(hT:zlA T f=none\/args ≠ []){m:M}{Q:V->M->Prop}
  (h:sh P T G c (zdO args 0 e3) m (zqQ P fn Q)):Wc P T f args m Q:=by
 obtain⟨k,h1⟩:=zng (X:=fun k=>zdN P (evT P T k) c (zdO args 0 e3) (toH m)) (fun k k' hk hn=>zmT (zm0 hk) c _ _ hn) (Kf:=fun _=>zdT P fn) (Q:=znh Q) (fun _ _ _ _ _ _ _=>rfl) (zqM c h) fun ex tm' m' h2=>by
  refine⟨0,?_⟩
  cases ex with
  | nrm=>exact zqT h2
  | ret=>exact zqT h2
  | exit id=>exact h2.elim
  | val v=>exact h2.elim
 refine⟨k+1,?_⟩
 have hstep:evT P T (k+1) (.call f args) e3 (toH m)=zdZ P (evT P T k) args (toH m) P.funcs[f]?:=by
  show tab T (step P (evT P T k)) (.call f args) e3 (toH m)=_
  cases args with
  | nil=>
   rcases hT with hT | hT
   ·show zaa (zlA T f) (step P (evT P T k) (.call f [])) (fun b _ h=>.ok (.val (.c (.bool b))) e3 h) e3 (toH m)=_
    rw[hT]; rfl
   ·exact absurd rfl hT
  | cons x xs=>rfl
 rw[hstep,hf];unfold zdZ;rw[zic,hb,zic,hk,zd3,ha,zd3,zqU h1];exact h1
theorem zqW{f:FuncId}{b:Bool}(hT:zlA T f=some b){m:M}{Q:V->M->Prop}(h:Q (.c (.bool b)) m):Wc P T f [] m Q:=by
 refine⟨1,?_⟩
 show hM (zaa (zlA T f) (step P (evT P T 0) (.call f [])) (fun b _ h=>.ok (.val (.c (.bool b))) e3 h) e3 (toH m)) (znh Q)
 rw[hT];exact zna h
def SH(P:Program)(T:List (Nat × Bool))(f:FuncId)(args:List V)(m:M)(Q:V->M->Prop):Prop:=sh P T (zpx (zlu P f)) (zlu P f) (zdO args 0 e3) m (zqQ P (zlt P f) Q)
def okB(P:Program)(T:List (Nat × Bool))(f:FuncId)(n:Nat):Bool:=
 zaa P.funcs[f]? false fun fn=>zaa fn.body false fun _=>ifB (zdY fn) (ifB (Nat.ble n fn.ntmps) (ifB (Nat.beq n 0) (zaa (zlA T f) true fun _=>false) true) false) false
theorem zqX{f:FuncId}{args:List V}{n:Nat}(hn:zaI args=n)(hk:okB P T f n=true){m:M}{Q:V->M->Prop}(h:SH P T f args m Q):Wc P T f args m Q:=by
 subst hn;obtain⟨fn,hf,h1⟩:=zlh hk;obtain⟨c,hb,h2⟩:=zlh h1;obtain⟨h3,h4⟩:=ziW h2;obtain⟨h5,h6⟩:=ziW h4
 have hfn:zlt P f=fn:=by unfold zlt; rw[hf]; rfl
 have hbd:zlu P f=c:=by unfold zlu; rw[hfn,hb]; rfl
 unfold SH at h;rw[hfn,hbd] at h;refine zqV hf hb h3 h5 ?_ h
 cases args with
 | nil=>
  have h7:zaa (zlA T f) true (fun _=>false)=true:=h6
  cases hT:zlA T f with
  | none=>exact .inl rfl
  | some b=>rw[hT] at h7; cases h7
 | cons x xs=>exact .inr (fun h=>by cases h)
theorem zqY{f:FuncId}{args:List V}{n:Nat}(hn:zaI args=n)(hk:okB P T f n=true){m:M}{Q:V->M->Prop}{X:Prop}(he:SH P T f args m Q=X)(h:X):Wc P T f args m Q:=zqX hn hk (he.symm ▸ h)
end
end Go.Abs

namespace Go.Abs
noncomputable section
theorem atS_get?{α:Type}:∀(l:List α) (o:Nat),atS l o=l[o]?
 | [],o=>by cases o <;> rfl
 | x::xs,0=>rfl
 | x::xs,o+1=>by
  show atS xs o=_
  rw[atS_get? xs o]; simp
theorem zqZ{α:Type}:∀(n:Nat) (l:List α),n<=l.length->zaF n l=some (l.take n)
 | 0,l,_=>by rw[List.take_zero]; rfl
 | n+1,[],h=>by simp at h
 | n+1,x::xs,h=>by
  show zaa (zaF n xs) none (fun r=>some (zaD x r))=_
  rw[zqZ n xs (by simpa using h),zd6,zer]; simp
theorem zq0{α:Type}:∀(n:Nat) (l:List α),n<=l.length->zaG n l=some (l.drop n)
 | 0,l,_=>rfl
 | n+1,[],h=>by simp at h
 | n+1,x::xs,h=>by
  show zaG n xs=_
  rw[zq0 n xs (by simpa using h)]; simp
theorem zq1{α:Type}{l:List α}{o n:Nat}(h:o+n<=l.length):seg l o n=some ((l.drop o).take n):=by
 unfold seg;rw[zq0 o l (by omega),zd6,zqZ n _ (by simp; omega)]
theorem zq2{α:Type}(new:List α):∀(o:Nat) (l:List α),o+new.length<=l.length->zaH o new l=some (l.take o++new++l.drop (o+new.length))
 | 0,l,h=>by
  have:∀(new l:List α),new.length<=l.length->over new l=some (new++l.drop new.length):=by
   intro new
   induction new with
   | nil=>intro l _; simp[over]
   | cons y ys ih=>
    intro l h
    cases l with
    | nil=>simp at h
    | cons x xs=>
     show zaa (over ys xs) none (fun r=>some (zaD y r))=_
     rw[ih xs (by simpa using h),zd6,zer]; simp
  show over new l=_
  rw[this new l (by omega)]; simp
 | o+1,[],h=>by simp at h
 | o+1,x::xs,h=>by
  show zaa (zaH o new xs) none (fun r=>some (zaD x r))=_
  rw[zq2 new o xs (by simp at h; omega),zd6,zer]
  simp[Nat.add_right_comm]
theorem M.nxt_new(m:M)(o:AO):(m.new o).nxt=m.nxt+1:=rfl
theorem M.nxt_set(m:M)(b:Nat)(o:AO):(m.set b o).nxt=m.nxt:=rfl
theorem M.g_new(m:M)(o:AO)(b:Nat):(m.new o).g b=if b=m.nxt then some o else m.g b:=rfl
theorem M.g_set(m:M)(c:Nat)(o:AO)(b:Nat):(m.set c o).g b=if b=c then some o else m.g b:=rfl
theorem M.vw_new(m:M)(o:AO):(m.new o).vw=m.vw:=rfl
theorem M.g_del(m:M)(c b:Nat):(m.del c).g b=if b=c then none else m.g b:=rfl
def zq3(o:Option AO)(k:Nat):Option C:=match o with | some (.cells _ vs _)=>atS vs k | _=>none
def zq4(o:Option AO)(k n:Nat):Option (List C):=match o with | some (.cells n' vs _)=>ifB (Nat.beq k 0) (ifB (Nat.beq n' n) (some vs) (seg vs k n)) (seg vs k n) | _=>none
def rdK(o:Option AO)(q:Option (Nat × List C))(k:Nat):Option C:=match o with | some x=>zq3 (some x) k | none=>zaa q none fun q=>ifB (Nat.ble q.1 k) (atS q.2 (k - q.1)) none
def zq5(o:Option AO)(q:Option (Nat × List C))(k n:Nat):Option (List C):=match o with | some x=>zq4 (some x) k n | none=>zaa q none fun q=>ifB (Nat.ble q.1 k) (seg q.2 (k - q.1) n) none
theorem zq6(m:M)(b k:Nat):ldC m (.ptr b k)=rdK (m.g b) (m.vw b) k:=by
 show zaa (m.g b) _ _=_
 cases m.g b with
 | none=>rfl
 | some x=>cases x <;> rfl
theorem zq7(m:M)(b k n:Nat):ldA m (.ptr b k) n=zq5 (m.g b) (m.vw b) k n:=by
 show zaa (m.g b) _ _=_
 cases m.g b with
 | none=>rfl
 | some x=>cases x <;> rfl
theorem zq8(n:Nat)(vs:List C)(op:Bool)(q:Option (Nat × List C))(k:Nat):rdK (some (.cells n vs op)) q k=vs[k]?:=atS_get? vs k
theorem zq9(o:Nat)(vs:List C)(k:Nat)(h:o<=k):rdK none (some (o,vs)) k=vs[k - o]?:=by
 show ifB (Nat.ble o k) (atS vs (k - o)) none=_
 rw[Nat.ble_eq_true_of_le h,atS_get?]; rfl
theorem zra(x:AO)(q:Option (Nat × List C))(k n:Nat):zq5 (some x) q k n=zq4 (some x) k n:=rfl
theorem zrb{o:Nat}{vs:List C}{k n:Nat}(h:o<=k)(h2:k - o+n<=vs.length):zq5 none (some (o,vs)) k n=some ((vs.drop (k - o)).take n):=by
 show ifB (Nat.ble o k) (seg vs (k - o) n) none=_
 rw[Nat.ble_eq_true_of_le h,zq1 h2]; rfl
theorem zrc(n:Nat)(vs:List C)(op:Bool):zq4 (some (.cells n vs op)) 0 n=some vs:=by
 show ifB (Nat.beq 0 0) (ifB (Nat.beq n n) (some vs) (seg vs 0 n)) (seg vs 0 n)=some vs
 rw[Nat.beq_refl,Nat.beq_refl]; rfl
theorem zrd{n:Nat}{vs:List C}{op:Bool}{k j:Nat}(hn:vs.length=n)(h:k+j<=n):zq4 (some (.cells n vs op)) k j=some ((vs.drop k).take j):=by
 show ifB (Nat.beq k 0) (ifB (Nat.beq n j) (some vs) (seg vs k j)) (seg vs k j)=_
 have hs:seg vs k j=some ((vs.drop k).take j):=zq1 (by omega);rw[hs]
 cases h1:Nat.beq k 0 with
 | false=>rfl
 | true=>
  cases h2:Nat.beq n j with
  | false=>rfl
  | true=>
   have:=Nat.eq_of_beq_eq_true h1;have:=Nat.eq_of_beq_eq_true h2
   subst_vars
   simp[ifB]
structure Ext (m m':M):Prop where
 nxt:m.nxt<=m'.nxt
 g:∀b,b < m.nxt->m'.g b=m.g b
 vw:m'.vw=m.vw
theorem Ext.refl(m:M):Ext m m:=⟨Nat.le_refl _,fun _ _=>rfl,rfl⟩
theorem Ext.trans{a b c:M}(h:Ext a b)(h':Ext b c):Ext a c:=⟨Nat.le_trans h.nxt h'.nxt,fun k hk=>(h'.g k (Nat.lt_of_lt_of_le hk h.nxt)).trans (h.g k hk),h'.vw.trans h.vw⟩
theorem Ext.new(m:M)(o:AO):Ext m (m.new o):=⟨Nat.le_succ _,fun b hb=>by rw[M.g_new,if_neg (by omega)],rfl⟩
variable {P:Program} {T:List (Nat × Bool)}
theorem zre{m:M}{b n:Nat}{vs:List C}{op:Bool}(hg:m.g b=some (.cells n vs op)){k:Nat}{c:C}(h:vs[k]? = some c):ldC m (.ptr b k)=some c:=by
 rw[zq6,hg,zq8]; exact h
theorem zrf{m:M}{b n:Nat}{vs:List C}{op:Bool}(hg:m.g b=some (.cells n vs op)):ldA m (.ptr b 0) n=some vs:=by
 rw[zq7,hg,zra,zrc]
theorem zrg{m:M}{b n:Nat}{vs:List C}{op:Bool}(hg:m.g b=some (.cells n vs op))(new:List C):stC m (.ptr b 0) n new=some (m.set b (.cells n new op)):=by
 show(match m.g b with
  | some (.cells n' vs opn)=>ifB (Nat.beq n' n) (ifB (Nat.beq 0 0) (some (m.set b (.cells n' new opn))) none) (zaa (zaH 0 new vs) none fun vs'=>some (m.set b (.cells n' vs' opn)))
  | _=>none)=_
 rw[hg]
 show ifB (Nat.beq n n) (ifB (Nat.beq 0 0) (some (m.set b (.cells n new op))) none) _=_
 rw[Nat.beq_refl,Nat.beq_refl]; rfl
theorem zrh{m:M}{b n:Nat}{vs:List C}{op:Bool}(hg:m.g b=some (.cells n vs op)){k:Nat}(c:C)(hk:k < vs.length)(hn:vs.length=n)(h1:n ≠ 1):stC m (.ptr b k) 1 [c]=some (m.set b (.cells n (vs.set k c) op)):=by
 show(match m.g b with
  | some (.cells n' vs opn)=>ifB (Nat.beq n' 1) (ifB (Nat.beq k 0) (some (m.set b (.cells n' [c] opn))) none) (zaa (zaH k [c] vs) none fun vs'=>some (m.set b (.cells n' vs' opn)))
  | _=>none)=_
 rw[hg]
 show ifB (Nat.beq n 1) _ (zaa (zaH k [c] vs) none fun vs'=>some (m.set b (.cells n vs' op)))=_
 have hb:Nat.beq n 1=false:=by
  cases hq:Nat.beq n 1 with
  | true=>exact absurd (Nat.eq_of_beq_eq_true hq) h1
  | false=>rfl
 rw[hb,zd4,zq2 [c] k vs (by simp; omega),zd6]
 have:vs.take k++[c]++vs.drop (k + [c].length)=vs.set k c:=by
  rw[List.set_eq_take_append_cons_drop,if_pos hk]; simp
 rw[this]
def Seg(m:M)(b o:Nat)(vs:List C):Prop:=
 (∃n ws op,m.g b=some (.cells n ws op)/\ws.length=n/\o+vs.length<=n/\(ws.drop o).take vs.length=vs) \/
 (m.g b=none/\∃q:Nat × List C,m.vw b=some q/\q.1<=o/\o - q.1+vs.length<=q.2.length/\(q.2.drop (o - q.1)).take vs.length=vs)
theorem Seg.rd{m:M}{b o:Nat}{vs:List C}(h:Seg m b o vs){i:Nat}{c:C}(hi:vs[i]? = some c):ldC m (.ptr b (o+i))=some c:=by
 have hlt:i < vs.length:=(List.getElem?_eq_some_iff.1 hi).1
 rcases h with ⟨n,ws,op,h1,h2,h3,h4⟩ | ⟨h1,q,h2,h3,h4,h5⟩
 ·rw[zq6,h1,zq8];rw[<- h4,List.getElem?_take,if_pos hlt,List.getElem?_drop] at hi;exact hi
 ·obtain⟨qo,qs⟩:=q;rw[zq6,h1,h2,zq9 _ _ _ (by have:qo<=o:=h3; omega)];rw[<- h5,List.getElem?_take,if_pos hlt,List.getElem?_drop] at hi;rw[<- hi]
  congr 1
  have:qo<=o:=h3
  show o+i - qo=o - qo+i
  omega
theorem Seg.rds{m:M}{b o:Nat}{vs:List C}(h:Seg m b o vs){i j:Nat}(hi:i+j<=vs.length):ldA m (.ptr b (o+i)) j=some ((vs.drop i).take j):=by
 have hsub:∀(l:List C) (a:Nat),(l.drop a).take vs.length=vs->(vs.drop i).take j=(l.drop (a+i)).take j:=fun l a hl=>by
  rw[<- hl,List.drop_take,List.take_take,List.drop_drop]
  congr 1
  omega
 rcases h with ⟨n,ws,op,h1,h2,h3,h4⟩ | ⟨h1,q,h2,h3,h4,h5⟩
 ·rw[zq7,h1,zra,zrd h2 (by omega),hsub ws o h4]
 ·obtain⟨qo,qs⟩:=q;have h3':qo<=o:=h3;have h4':o - qo+vs.length<=qs.length:=h4;rw[zq7,h1,h2,zrb (by omega) (by omega),hsub qs (o - qo) h5]
  congr 3
  omega
theorem Seg.to{m m':M}{b o:Nat}{vs:List C}(h:Seg m b o vs)(hg:m'.g b=m.g b)(hv:m'.vw=m.vw):Seg m' b o vs:=by
 unfold Seg;rw[hg,hv];exact h
structure Ls (m:M) (k:Nat) (x:C) (vs:List C) (n:Nat):Prop where
 len:n * k=vs.length
 val:(x=.sl0/\n=0)\/∃b o s c,x=.sl b o n s c/\b < m.nxt/\(n ≠ 0->Seg m b o vs)
theorem Ls.isSl{m:M}{k n:Nat}{x:C}{vs:List C}(h:Ls m k x vs n):isSl x:=by
 rcases h.val with ⟨rfl,_⟩ | ⟨b,o,s,c,rfl,_⟩ <;> trivial
theorem Ls.slLen{m:M}{k n:Nat}{x:C}{vs:List C}(h:Ls m k x vs n):slLen x=n:=by
 rcases h.val with ⟨rfl,rfl⟩ | ⟨b,o,s,c,rfl,_⟩ <;> rfl
theorem Ls.noFn{m:M}{k n:Nat}{x:C}{vs:List C}(h:Ls m k x vs n):zpd x=true:=by
 rcases h.val with ⟨rfl,_⟩ | ⟨b,o,s,c,rfl,_⟩ <;> rfl
theorem Ls.at{m:M}{k n:Nat}{x:C}{vs:List C}(h:Ls m k x vs n)(hn:n ≠ 0):∃b o,(∀i,znl x i=.ptr b (o+i))/\Seg m b o vs:=by
 rcases h.val with ⟨rfl,h2⟩ | ⟨b,o,s,c,rfl,_,h3⟩
 ·exact absurd h2 hn
 ·exact⟨b,o,fun i=>rfl,h3 hn⟩
theorem Ls.pos{m:M}{k n:Nat}{x:C}{vs:List C}(h:Ls m k x vs n){i:Nat}(hi:i < vs.length):n ≠ 0:=fun h0=>by
 have:=h.len; rw[h0,Nat.zero_mul] at this; omega
theorem Ls.rd{m:M}{k n:Nat}{x:C}{vs:List C}(h:Ls m k x vs n){i:Nat}{c:C}(hi:vs[i]? = some c):ldC m (znl x i)=some c:=by
 obtain⟨b,o,h1,h2⟩:=h.at (h.pos (List.getElem?_eq_some_iff.1 hi).1);rw[h1]; exact h2.rd hi
theorem Ls.isPt{m:M}{k n:Nat}{x:C}{vs:List C}(h:Ls m k x vs n)(hn:n ≠ 0)(i:Nat):isPt (znl x i):=by
 obtain⟨b,o,h1,_⟩:=h.at hn;rw[h1]; trivial
theorem Ls.rds{m:M}{k n:Nat}{x:C}{vs:List C}(h:Ls m k x vs n){i j:Nat}(hj:0 < j)(hi:i+j<=vs.length):ldA m (znl x i) j=some ((vs.drop i).take j):=by
 obtain⟨b,o,h1,h2⟩:=h.at (h.pos (show i < vs.length by omega));rw[h1]; exact h2.rds hi
theorem Ls.add{m:M}{k n:Nat}{x:C}{vs:List C}(h:Ls m k x vs n)(hn:n ≠ 0)(i d:Nat):znk (znl x i) d=znl x (i+d):=by
 obtain⟨b,o,h1,_⟩:=h.at hn;rw[h1,h1]
 show C.ptr b (o+i+d)=_
 rw[Nat.add_assoc]
theorem Ls.src{m:M}{k n:Nat}{x:C}{vs:List C}(h:Ls m k x vs n):zcu (toH m) k (.c x)=some (n,vs):=by
 have hl:=h.len
 rcases h.val with ⟨rfl,rfl⟩ | ⟨b,o,s,c,rfl,_,h3⟩
 ·have:vs=[]:=List.eq_nil_of_length_eq_zero (by rw[<- hl,Nat.zero_mul]);subst this; rfl
 ·cases n with
  | zero=>
   have:vs=[]:=List.eq_nil_of_length_eq_zero (by rw[<- hl,Nat.zero_mul]);subst this; rfl
  | succ n=>
   show zaa (rdA (toH m) b o (Nat.mul (n+1) k)) none (fun l=>some (n+1,l))=_
   have:=(h3 (by omega)).rds (i:=0) (j:=(n+1) * k) (by omega);have h4:rdA (toH m) b o (Nat.mul (n+1) k)=some ((vs.drop 0).take ((n+1) * k)):=this;rw[h4,zd6,List.drop_zero,List.take_of_length_le (by omega)]
theorem Ls.to{m m':M}{k n:Nat}{x:C}{vs:List C}(h:Ls m k x vs n)(hn:m.nxt<=m'.nxt)(hg:∀b,b < m.nxt->(∃o s c,x=.sl b o n s c)->m'.g b=m.g b)(hv:m'.vw=m.vw):Ls m' k x vs n:=by
 refine⟨h.len,?_⟩
 rcases h.val with h1 | ⟨b,o,s,c,h1,h2,h3⟩
 ·exact .inl h1
 ·exact .inr ⟨b,o,s,c,h1,by omega,fun h0=>(h3 h0).to (hg b h2 ⟨o,s,c,h1⟩) hv⟩
theorem Ls.ext{m m':M}{k n:Nat}{x:C}{vs:List C}(h:Ls m k x vs n)(he:Ext m m'):Ls m' k x vs n:=h.to he.nxt (fun b hb _=>he.g b hb) he.vw
theorem Ls.nil(m:M)(k:Nat):Ls m k .sl0 [] 0:=⟨by simp,.inl ⟨rfl,rfl⟩⟩
theorem Ls.one{m:M}{b k:Nat}{vs:List C}{op:Bool}(hg:m.g b=some (.cells k vs op))(hl:vs.length=k)(hb:b < m.nxt)(s:Nat)(c:Option Nat):Ls m k (.sl b 0 1 s c) vs 1:=
 ⟨by omega,.inr ⟨b,0,s,c,rfl,hb,fun _=>.inl ⟨k,vs,op,hg,hl,by omega,by rw[List.drop_zero,List.take_of_length_le (by omega)]⟩⟩⟩
inductive zri (m:M) (k:Nat) (vs:List C) (n:Nat):C->Prop where
 | nil:n=0->vs=[]->zri m k vs n .sl0
 | grown (b:Nat):m.g b=some (.cells (n * k) vs true)->b < m.nxt->zri m k vs n (.sl b 0 n k none)
 | lit (b:Nat):m.g b=some (.cells (n * k) vs false)->b < m.nxt->zri m k vs n (.sl b 0 n 0 (some n))
structure zrj (m:M) (k:Nat) (x:C) (vs:List C) (n:Nat):Prop where
 len:n * k=vs.length
 own:zri m k vs n x
def slB(x:C):Option Nat:=match x with | .sl b _ _ _ none=>some b | _=>none
theorem zrj.ls{m:M}{k n:Nat}{x:C}{vs:List C}(h:zrj m k x vs n):Ls m k x vs n:=by
 have hl:=h.len;refine⟨hl,?_⟩
 cases h.own with
 | nil h1 h2=>exact .inl ⟨rfl,h1⟩
 | grown b hg hb=>exact .inr ⟨b,0,k,none,rfl,hb,fun _=>.inl ⟨_,vs,_,hg,by omega,by omega,by rw[List.drop_zero,List.take_of_length_le (by omega)]⟩⟩
 | lit b hg hb=>exact .inr ⟨b,0,0,some n,rfl,hb,fun _=>.inl ⟨_,vs,_,hg,by omega,by omega,by rw[List.drop_zero,List.take_of_length_le (by omega)]⟩⟩
theorem zrj.to{m m':M}{k n:Nat}{x:C}{vs:List C}(h:zrj m k x vs n)(hn:m.nxt<=m'.nxt)(hg:∀b,b < m.nxt->(∃s c,x=.sl b 0 n s c)->m'.g b=m.g b):zrj m' k x vs n:=by
 refine⟨h.len,?_⟩
 cases h.own with
 | nil h1 h2=>exact .nil h1 h2
 | grown b h1 hb=>exact .grown b (by rw[hg b hb ⟨_,_,rfl⟩]; exact h1) (by omega)
 | lit b h1 hb=>exact .lit b (by rw[hg b hb ⟨_,_,rfl⟩]; exact h1) (by omega)
theorem zrj.ext{m m':M}{k n:Nat}{x:C}{vs:List C}(h:zrj m k x vs n)(he:Ext m m'):zrj m' k x vs n:=h.to he.nxt fun b hb _=>he.g b hb
theorem zrj.nil'(m:M)(k:Nat):zrj m k .sl0 [] 0:=⟨by simp,.nil rfl rfl⟩
theorem zrk{t el k:Nat}(ht:tk P t=.sl el)(hgr:zcw P el=true)(hk:P.cellsOf el=k){m:M}{s x:C}{vs ws:List C}{n j:Nat}(hs:zrj m k s vs n)(hx:Ls m k x ws j)(hj:0 < j)(hk0:0 < k)(hnj:(n+j) * P.bytesOf el<=140737488355328) :
  ∃m',ApR P t m s x (.sl m.nxt 0 (n+j) k none) m'/\zrj m' k (.sl m.nxt 0 (n+j) k none) (vs++ws) (n+j)/\m'.nxt=m.nxt+1/\m'.vw=m.vw/\∀b,b ≠ m.nxt->slB s ≠ some b->m'.g b=m.g b:=by
 have hws:ws.length=j * k:=hx.len.symm
 have hlen:(n+j) * k=(vs++ws).length:=by rw[List.length_append,Nat.add_mul,hs.len,hx.len]
 have h0:zcx P (toH m) t (.c s) (.c x)=zcv P (toH m) el (.c s) j ws:=by
  show za6 (tk P t) none _=_
  rw[ht]
  show ifB (zcw P el) (zaa (zcu (toH m) (P.cellsOf el) (.c x)) none _) none=_
  rw[hgr,zd3,hk,hx.src,zd6]
  show ifB (Nat.ble (Nat.mul j (P.bytesOf el)) 140737488355328) _ none=_
  rw[Nat.ble_eq_true_of_le (show Nat.mul j (P.bytesOf el)<=140737488355328 from Nat.le_trans (Nat.mul_le_mul_right _ (Nat.le_add_left j n)) hnj),zd3]
 obtain⟨j',rfl⟩:∃j',j=j'+1:=⟨j - 1,by omega⟩
 have hmk:∀m1:M,m1.nxt=m.nxt->grown (toH m1) (n+(j'+1)) k (vs++ws)=some (.val (.c (.sl m.nxt 0 (n+(j'+1)) k none)) (toH (m1.new (.cells ((n+(j'+1)) * k) (vs++ws) true)))):=fun m1 h1=>by
  have:zaZ (toH m1) (.cells ((n+(j'+1)) * k) (vs++ws) true)=_:=zm5 m1 _;rw[<- this,<- h1]; rfl
 have fin:∀m1:M,m1.nxt=m.nxt->m1.vw=m.vw->(∀b,b ≠ m.nxt->slB s ≠ some b->m1.g b=m.g b)->zcv P (toH m) el (.c s) (j'+1) ws=grown (toH m1) (n+(j'+1)) k (vs++ws) ->
   ∃m',ApR P t m s x (.sl m.nxt 0 (n+(j'+1)) k none) m'/\zrj m' k (.sl m.nxt 0 (n+(j'+1)) k none) (vs++ws) (n+(j'+1))/\m'.nxt=m.nxt+1/\m'.vw=m.vw/\∀b,b ≠ m.nxt->slB s ≠ some b->m'.g b=m.g b:=fun m1 h1 h2 h3 h4=>by
  refine⟨m1.new (.cells ((n+(j'+1)) * k) (vs++ws) true),?_,⟨hlen,.grown _ ?_ ?_⟩,by rw[M.nxt_new,h1],by rw[M.vw_new]; exact h2,fun b hb hsb=>?_⟩
  ·show zcx P (toH m) t (.c s) (.c x)=_
   rw[h0,h4,hmk m1 h1]
  ·rw[M.g_new,if_pos h1.symm]
  ·rw[M.nxt_new]; omega
  ·rw[M.g_new,if_neg (by omega)]; exact h3 b hb hsb
 cases hs.own with
 | nil h1 h2=>
  subst h1 h2;refine fin m rfl rfl (fun _ _ _=>rfl) ?_
  show grown (toH m) (j'+1) (P.cellsOf el) ws=_
  rw[hk,Nat.zero_add]; rfl
 | lit b hg hb=>
  refine fin m rfl rfl (fun _ _ _=>rfl) ?_
  show ifB (Nat.ble (Nat.mul (Nat.add n (j'+1)) (P.bytesOf el)) 140737488355328) (za2 (toH m) b none fun bn ws' opn=>ifB (Nat.ble (Nat.add n (j'+1)) n) _ (zaa (seg ws' 0 (Nat.mul n (P.cellsOf el))) none fun old=>grown (toH m) (Nat.add n (j'+1)) (P.cellsOf el) (appS old ws))) none=_
  rw[Nat.ble_eq_true_of_le (show Nat.mul (Nat.add n (j'+1)) (P.bytesOf el)<=140737488355328 from hnj),zd3,zoe hg]
  have hb:Nat.ble (Nat.add n (j'+1)) n=false:=by
   cases hq:Nat.ble (Nat.add n (j'+1)) n with
   | true=>have:n+(j'+1)<=n:=Nat.le_of_ble_eq_true hq; omega
   | false=>rfl
  rw[hb,zd4,hk,zq1 (show 0+Nat.mul n k<=vs.length by have:Nat.mul n k=n * k:=rfl; rw[this,hs.len]; omega),zd6,List.drop_zero,List.take_of_length_le (by have:Nat.mul n k=n * k:=rfl; rw[this,hs.len]; omega),zes]
  rfl
 | grown b hg hb=>
  refine fin (m.del b) rfl rfl (fun b' _ h=>by rw[M.g_del,if_neg fun h'=>h (by rw[h']; rfl)]) ?_
  show ifB (Nat.ble (Nat.mul (Nat.add n (j'+1)) (P.bytesOf el)) 140737488355328) (za2 (toH m) b none fun bn ws' opn=>ifB (Nat.beq k (P.cellsOf el)) (ifB (Nat.beq 0 0)
   (zaa (zaH (Nat.mul n k) ws ws') (zaa (zaF (Nat.mul n k) ws') none fun old=>grown (za1 (toH m) b) (Nat.add n (j'+1)) k (appS old ws)) _) none) none) none=_
  rw[Nat.ble_eq_true_of_le (show Nat.mul (Nat.add n (j'+1)) (P.bytesOf el)<=140737488355328 from hnj),zd3,zoe hg,hk,Nat.beq_refl,Nat.beq_refl,zd3,zd3]
  have hsp:zaH (Nat.mul n k) ws vs=none:=by
   cases hq:zaH (Nat.mul n k) ws vs with
   | none=>rfl
   | some r=>
    have h1:=(zeA _ _ _ _ hq).1;have h2:Nat.mul n k=n * k:=rfl;rw[h2,hs.len,hws] at h1;have:0 < (j'+1) * k:=Nat.mul_pos (by omega) hk0
    omega
  rw[hsp,zd5,zqZ _ _ (by have:Nat.mul n k=n * k:=rfl; rw[this,hs.len]; omega),zd6,List.take_of_length_le (by have:Nat.mul n k=n * k:=rfl; rw[this,hs.len]; omega),zes,zm6]
  rfl
theorem zrl{el:Nat}(hgr:zcw P el=true){n:Nat}(h:n<=1048576):n * P.bytesOf el<=140737488355328:=by
 unfold zcw at hgr
 simp only[Bool.and_eq_true] at hgr
 have h4:=Nat.le_of_ble_eq_true hgr.1.2;exact Nat.le_trans (Nat.mul_le_mul h h4) (by decide)
theorem zrm{t el k:Nat}(ht:tk P t=.sl el)(hgr:zcw P el=true)(hk:P.cellsOf el=k){m:M}{s x:C}{vs:List C}{n:Nat}(hs:zrj m k s vs n)(hx:Ls m k x [] 0):ApR P t m s x s m:=by
 show za6 (tk P t) none _=_
 rw[ht]
 show ifB (zcw P el) (zaa (zcu (toH m) (P.cellsOf el) (.c x)) none _) none=_
 rw[hgr,zd3,hk,hx.src,zd6]
 show ifB (Nat.ble (Nat.mul 0 (P.bytesOf el)) 140737488355328) _ none=_
 rw[Nat.ble_eq_true_of_le (show Nat.mul 0 (P.bytesOf el)<=140737488355328 from Nat.le_trans (Nat.le_of_eq (Nat.zero_mul _)) (Nat.zero_le _)),zd3]
 show vSl (.c s) none (some (R.val (.c s) (toH m))) (fun _ _ _ _ _=>some (R.val (.c s) (toH m)))=_
 rcases hs.ls.val with ⟨rfl,_⟩ | ⟨b,o,s,c,rfl,_⟩ <;> rfl
structure Bk (m:M) (b n:Nat) (vs:List C):Prop where
 g:m.g b=some (.cells n vs false)
 lt:b < m.nxt
theorem Bk.ext{m m':M}{b n:Nat}{vs:List C}(h:Bk m b n vs)(e:Ext m m'):Bk m' b n vs:=⟨(e.g b h.lt).trans h.g,Nat.lt_of_lt_of_le h.lt e.nxt⟩
theorem Bk.rc{m:M}{b n:Nat}{vs:List C}(h:Bk m b n vs){k:Nat}{c:C}(hk:vs[k]? = some c):ldC m (.ptr b k)=some c:=zre h.g hk
theorem Bk.ra{m:M}{b n:Nat}{vs:List C}(h:Bk m b n vs):ldA m (.ptr b 0) n=some vs:=zrf h.g
theorem Bk.rp{m:M}{b n:Nat}{vs:List C}(h:Bk m b n vs){k j:Nat}(hn:vs.length=n)(hk:k+j<=n):ldA m (.ptr b k) j=some ((vs.drop k).take j):=by
 rw[zq7,h.g,zra,zrd hn hk]
theorem Bk.st{m:M}{b n:Nat}{vs:List C}(h:Bk m b n vs)(new:List C):stC m (.ptr b 0) n new=some (m.set b (.cells n new false)):=zrg h.g new
theorem Bk.new{m m0:M}{n:Nat}{vs:List C}(h:m0=m.new (.cells n vs false)):Bk m0 m.nxt n vs/\Ext m m0:=by
 subst h;exact⟨⟨by rw[M.g_new,if_pos rfl],by rw[M.nxt_new]; omega⟩,.new m _⟩
theorem Bk.set{m:M}{b n:Nat}{vs:List C}(h:Bk m b n vs)(new:List C):Bk (m.set b (.cells n new false)) b n new:=⟨by rw[M.g_set,if_pos rfl],h.lt⟩
def Fr(m:M)(x:C):Prop:=∀b o n s d,x=.sl b o n s d->m.nxt<=b
theorem Fr.nil(m:M):Fr m .sl0:=fun _ _ _ _ _ h=>by cases h
theorem Fr.ne{m:M}{s:C}(hf:Fr m s){b:Nat}(hb:b < m.nxt):slB s ≠ some b:=fun hsb=>by
 cases s with
 | sl b' o n' s' d=>
  cases d with
  | none=>
   have h2:some b'=some b:=hsb;have h3:=hf b' o n' s' none rfl
   cases h2; omega
  | some d=>cases hsb
 | _=>cases hsb
def Sep(x y:C):Prop:=∀b o n s d b' o' n' s' d',x=.sl b o n s d->y=.sl b' o' n' s' d'->b ≠ b'
theorem Sep.symm{x y:C}(h:Sep x y):Sep y x:=fun _b _o _n _s _d _b' _o' _n' _s' _d' h1 h2 h3=>h _ _ _ _ _ _ _ _ _ _ h2 h1 h3.symm
theorem zrj.lt{m:M}{k n:Nat}{x:C}{vs:List C}(h:zrj m k x vs n){b o n' s:Nat}{d:Option Nat}(hx:x=.sl b o n' s d):b < m.nxt:=by
 cases h.own with
 | nil=>cases hx
 | grown b' hg hb=>cases hx; exact hb
 | lit b' hg hb=>cases hx; exact hb
theorem zrj.sub{m:M}{k n:Nat}{x:C}{vs:List C}(h:zrj m k x vs n)(_hk:0 < k){j:Nat}(hj:j<=n):∃c,subC k x 0 j=some c/\Ls m k c (vs.take (j * k)) j:=by
 have hl:=h.len
 have hjk:j * k<=vs.length:=by rw[<- hl]; exact Nat.mul_le_mul_right _ hj
 have htl:j * k=(vs.take (j * k)).length:=by rw[List.length_take]; omega
 have seg:∀{b:Nat} {op:Bool},m.g b=some (.cells (n * k) vs op)->Seg m b 0 (vs.take (j * k)):=fun hg=>
  .inl ⟨_,vs,_,hg,by omega,by rw[<- htl]; omega,by rw[<- htl,List.drop_zero]⟩
 cases h.own with
 | nil h1 h2=>
  subst h1 h2
  have:j=0:=by omega
  subst this;exact⟨.sl0,rfl,by simpa using Ls.nil m k⟩
 | grown b hg hb=>
  refine⟨.sl b (Nat.add 0 (Nat.mul 0 k)) (Nat.sub j 0) k none,?_,htl,.inr ⟨b,0,k,none,?_,hb,fun _=>seg hg⟩⟩
  ·show ifB (Nat.ble 0 j) (ifB (Nat.ble j n) (ifB (Nat.beq k k) _ none) none) none=_
   rw[Nat.ble_eq_true_of_le (Nat.zero_le _),Nat.ble_eq_true_of_le hj,Nat.beq_refl]; rfl
  ·rw[show Nat.add 0 (Nat.mul 0 k)=0 from by show 0+0 * k=0; simp,show Nat.sub j 0=j from rfl]
 | lit b hg hb=>
  refine⟨.sl b (ifB (Nat.beq n 0) 0 (Nat.add 0 (Nat.mul 0 k))) (Nat.sub j 0) 0 (some (Nat.sub n 0)),?_,htl,.inr ⟨b,0,0,some (Nat.sub n 0),?_,hb,fun _=>seg hg⟩⟩
  ·show ifB (Nat.ble 0 j) (ifB (Nat.ble j n) _ none) none=_
   rw[Nat.ble_eq_true_of_le (Nat.zero_le _),Nat.ble_eq_true_of_le hj]; rfl
  ·have:ifB (Nat.beq n 0) 0 (Nat.add 0 (Nat.mul 0 k))=0:=by
    rw[show Nat.add 0 (Nat.mul 0 k)=0 from by show 0+0 * k=0; simp]
    cases Nat.beq n 0 <;> rfl
   rw[this]; rfl
def zrn(L:List Int):List C:=L.map (C.int .i64)
theorem zro(L:List Int):(zrn L).length=L.length:=by simp[zrn]
end
end Go.Abs

namespace Go.Abs
noncomputable section
structure St1 (m m':M) (b:Nat):Prop where
 nxt:m'.nxt=m.nxt
 vw:m'.vw=m.vw
 g:∀b',b' ≠ b->m'.g b'=m.g b'
theorem St1.of_set{m m':M}{b:Nat}{o:AO}(h:m'=m.set b o):St1 m m' b:=by
 subst h;exact⟨rfl,rfl,fun b' hb=>by rw[M.g_set,if_neg hb]⟩
theorem Bk.sto{m:M}{b n:Nat}{ws:List C}(h:Bk m b n ws)(vs:List C):∃m',stC m (.ptr b 0) n vs=some m'/\Bk m' b n vs/\St1 m m' b:=⟨_,h.st vs,h.set vs,.of_set rfl⟩
theorem Bk.sto1{m:M}{b n:Nat}{vs:List C}(h:Bk m b n vs)(k:Nat)(c:C)(hk:k < vs.length)(hn:vs.length=n):∃m',stC m (.ptr b k) 1 [c]=some m'/\Bk m' b n (vs.set k c)/\St1 m m' b:=by
 by_cases h1:n=1
 ·subst h1
  have hk0:k=0:=by omega
  subst hk0
  have:vs.set 0 c=[c]:=by
   match vs,hn with
   | [a],_=>rfl
  exact⟨_,zrg h.g [c],by rw[this]; exact h.set _,.of_set rfl⟩
 ·exact⟨_,zrh h.g c hk hn h1,h.set _,.of_set rfl⟩
variable {P:Program} {T:List (Nat × Bool)}
structure Chg (S:Nat->Prop) (m m':M):Prop where
 nxt:m.nxt<=m'.nxt
 g:∀b,b < m.nxt->¬ S b->m'.g b=m.g b
 vw:m'.vw=m.vw
def Own(S:Nat->Prop)(m:M)(S':Nat->Prop):Prop:=∀b,S' b->S b\/m.nxt<=b
structure zrp (n0:Nat) (I:(Nat->Prop)->M->Prop):Prop where
 st:∀S m m',I S m->m.nxt<=m'.nxt->m'.vw=m.vw->(∀b,S b->m'.g b=m.g b)->(∀b,b < n0->m'.g b=m.g b)->I S m'
 lt:∀S m,I S m->∀b,S b->b < m.nxt
structure zrq (P:Program) (T:List (Nat × Bool)) (n0 l:Nat) (xs:List (List V)) (I:Nat->(Nat->Prop)->M->Prop) (E:(Nat->Prop)->M->Prop):Prop where
 li:∀i,zrp n0 (I i)
 le:zrp n0 E
 yield:∀i x S m,xs[i]? = some x->I i S m->∀Q:V->M->Prop,(∀S' m',Own S m S'->Chg S m m'->I (i+1) S' m'->Q (.c (.bool true)) m')->(∀S' m',Own S m S'->Chg S m m'->E S' m'->Q (.c (.bool false)) m')->Wy P T l x m Q
structure zrr (P:Program) (T:List (Nat × Bool)) (x:C) (xs:List (List V)) (D:Nat->Prop) (R:M->Prop):Prop where
 st:∀m m',R m->m.nxt<=m'.nxt->m'.vw=m.vw->(∀b,D b->m'.g b=m.g b)->R m'
 lt:∀m,R m->∀b,D b->b < m.nxt
 run:∀n0 l I E,zrq P T n0 l xs I E->∀S m,n0<=m.nxt->I 0 S m->R m->(∀b,S b->¬ D b)->∀Q:V->M->Prop,(∀v S' m',Own S m S'->Chg S m m'->I xs.length S' m'\/E S' m'->Q v m')->znJ P T [.c (.fn (.yield l) [] [])] x m Q
theorem zrs{g:FuncId}{a b:List W}{xs:List (List V)}{D:Nat->Prop}{R:M->Prop}(hi:zrr P T (.fn (.func g) a b) xs D R){m:M}(hR:R m){round:zpS}{after:zpM}
  (J:Nat->(Nat->Prop)->M->Prop) (X:Ex->(Nat->Prop)->M->Prop) (hJ:∀i,zrp m.nxt (J i)) (hX:∀ex,zrp m.nxt (X ex)) {S0:Nat->Prop} (h0:J 0 S0 m) (hS0:∀b,S0 b->¬ D b)
  (hround:∀ i x S m1 (B:M->Prop) (enter:M->(M->Prop)->Prop) (K:Ex->M->Prop),xs[i]? = some x->J i S m1->m.nxt < m1.nxt->¬ S m.nxt->Own S0 m S ->
   (∀m2 k,m2.g m.nxt=m1.g m.nxt->(∀m3,m3.nxt=m2.nxt->m3.vw=m2.vw->(∀b,b ≠ m.nxt->m3.g b=m2.g b)->(∀m4:M,m4.g m.nxt=m3.g m.nxt->B m4)->k m3)->enter m2 k) ->
   (∀ex S' m4,B m4->m1.nxt<=m4.nxt->m4.vw=m1.vw->(∀b,b < m1.nxt->¬ S b->b ≠ m.nxt->m4.g b=m1.g b)->Own S m1 S'->(match ex with | .nrm=>J (i+1) S' m4 | .val _=>False | ex=>X ex S' m4)->K ex m4)->round x m1 enter K)
  (hend:∀S' m5,Own S0 m S'->m.nxt < m5.nxt->m5.vw=m.vw->(∀b,b < m.nxt->¬ S0 b->m5.g b=m.g b)->J xs.length S' m5->after.nrm m5)
  (hexit:∀id S' m5,Own S0 m S'->m.nxt < m5.nxt->m5.vw=m.vw->(∀b,b < m.nxt->¬ S0 b->m5.g b=m.g b)->X (.exit id) S' m5->zpN id m5 after.exits)
  (hret:∀S' m5,Own S0 m S'->m.nxt < m5.nxt->m5.vw=m.vw->(∀b,b < m.nxt->¬ S0 b->m5.g b=m.g b)->X .ret S' m5->after.ret m5) :
  zpW P T (.fn (.func g) a b) m round after:=by
 intro mk hy;have hlt0:=(hJ 0).lt _ _ h0
 let I:Nat->(Nat->Prop)->M->Prop:=fun i S m1=>∃SJ,(∀b,S b↔SJ b\/b=m.nxt)/\¬ SJ m.nxt/\m1.g m.nxt=some (mk .ready none)/\J i SJ m1/\m.nxt < m1.nxt/\Own S0 m SJ
 let E:(Nat->Prop)->M->Prop:=fun S m1=>∃SJ,(∀b,S b↔SJ b\/b=m.nxt)/\¬ SJ m.nxt/\m.nxt < m1.nxt/\Own S0 m SJ/\((∃id,m1.g m.nxt=some (mk .done (some (.exit id)))/\X (.exit id) SJ m1)\/(m1.g m.nxt=some (mk .done (some .ret))/\X .ret SJ m1))
 have hc:zrq P T m.nxt m.nxt xs I E:=by
  refine⟨fun i=>⟨fun S m1 m2 h hn hw hs h0'=>?_,fun S m1 h b hb=>?_⟩,⟨fun S m1 m2 h hn hw hs h0'=>?_,fun S m1 h b hb=>?_⟩,fun i x S m1 hx h Q hT hF=>?_⟩
  ·obtain⟨SJ,q1,q2,q3,q4,q5,q6⟩:=h;exact⟨SJ,q1,q2,by rw[hs _ ((q1 _).2 (.inr rfl))]; exact q3,(hJ i).st _ _ _ q4 hn hw (fun b hb=>hs b ((q1 b).2 (.inl hb))) h0',by omega,q6⟩
  ·obtain⟨SJ,q1,q2,q3,q4,q5,q6⟩:=h
   rcases (q1 b).1 hb with hb | hb
   ·exact(hJ i).lt _ _ q4 b hb
   ·omega
  ·obtain⟨SJ,q1,q2,q5,q6,q7⟩:=h;refine⟨SJ,q1,q2,by omega,q6,?_⟩;have hl:m2.g m.nxt=m1.g m.nxt:=hs _ ((q1 _).2 (.inr rfl))
   rcases q7 with ⟨id,q8,q9⟩ | ⟨q8,q9⟩
   ·exact .inl ⟨id,by rw[hl]; exact q8,(hX _).st _ _ _ q9 hn hw (fun b hb=>hs b ((q1 b).2 (.inl hb))) h0'⟩
   ·exact .inr ⟨by rw[hl]; exact q8,(hX _).st _ _ _ q9 hn hw (fun b hb=>hs b ((q1 b).2 (.inl hb))) h0'⟩
  ·obtain⟨SJ,q1,q2,q5,q6,q7⟩:=h
   rcases (q1 b).1 hb with hb | hb
   ·rcases q7 with ⟨id,q8,q9⟩ | ⟨q8,q9⟩
    ·exact(hX _).lt _ _ q9 b hb
    ·exact(hX _).lt _ _ q9 b hb
   ·omega
  ·obtain⟨SJ,q1,q2,q3,q4,q5,q6⟩:=h;refine hy x m1 Q q3 (hround i x SJ m1 (fun m4=>m4.g m.nxt=some (mk .busy none)) _ _ hx q4 q5 q2 q6 (fun m2 k hm2 hk=>⟨by rw[hm2]; exact q3,hk _ (M.nxt_set ..) rfl (fun b hb=>by rw[M.g_set,if_neg hb]) fun m4 hm4=>by rw[hm4,M.g_set,if_pos rfl]⟩) fun ex S' m4 hB hn hvw hfr hown hres=>?_)
   have hS'l:¬ S' m.nxt:=fun h=>by
    rcases hown _ h with h | h
    ·exact q2 h
    ·omega
   have hown2:Own S m1 (fun b=>S' b\/b=m.nxt):=fun b hb=>by
    rcases hb with hb | hb
    ·exact(hown b hb).imp (fun h=>(q1 b).2 (.inl h)) id
    ·exact .inl ((q1 b).2 (.inr hb))
   have hown3:Own S0 m S':=fun b hb=>by
    rcases hown b hb with h | h
    ·exact q6 b h
    ·exact .inr (by omega)
   have hchg:∀o,Chg S m1 (m4.set m.nxt o):=fun o=>⟨hn,fun b hb hSb=>by
    have hbl:b ≠ m.nxt:=fun h=>hSb ((q1 b).2 (.inr h));rw[M.g_set,if_neg hbl]
    exact hfr b hb (fun h=>hSb ((q1 b).2 (.inl h))) hbl,hvw⟩
   have hset:∀o b,S' b->(m4.set m.nxt o).g b=m4.g b:=fun o b hb=>by
    rw[M.g_set,if_neg fun h=>hS'l (by rw[<- h]; exact hb)]
   have hlow:∀o b,b < m.nxt->(m4.set m.nxt o).g b=m4.g b:=fun o b hb=>by rw[M.g_set,if_neg (by omega)]
   refine⟨⟨_,_,hB⟩,?_⟩
   cases ex with
   | nrm=>exact hT _ _ hown2 (hchg _) ⟨S',fun b=>Iff.rfl,hS'l,by rw[M.g_set,if_pos rfl],(hJ _).st _ _ _ hres (Nat.le_refl _) rfl (hset _) (hlow _),by show m.nxt < m4.nxt; omega,hown3⟩
   | exit id=>exact hF _ _ hown2 (hchg _) ⟨S',fun b=>Iff.rfl,hS'l,by show m.nxt < m4.nxt; omega,hown3,.inl ⟨id,by rw[M.g_set,if_pos rfl],(hX _).st _ _ _ hres (Nat.le_refl _) rfl (hset _) (hlow _)⟩⟩
   | ret=>exact hF _ _ hown2 (hchg _) ⟨S',fun b=>Iff.rfl,hS'l,by show m.nxt < m4.nxt; omega,hown3,.inr ⟨by rw[M.g_set,if_pos rfl],(hX _).st _ _ _ hres (Nat.le_refl _) rfl (hset _) (hlow _)⟩⟩
   | val v=>exact hres.elim
 have hDlt:=hi.lt _ hR
 have hRn:R (m.new (mk .ready none)):=hi.st _ _ hR (Nat.le_succ _) rfl fun b hb=>by rw[M.g_new,if_neg (by have:=hDlt b hb; omega)]
 have hI0:I 0 (fun b=>S0 b\/b=m.nxt) (m.new (mk .ready none)):=⟨S0,fun b=>Iff.rfl,fun h=>by have:=hlt0 _ h; omega,by rw[M.g_new,if_pos rfl],(hJ 0).st _ _ _ h0 (Nat.le_succ _) rfl (fun b hb=>by rw[M.g_new,if_neg (by have:=hlt0 b hb; omega)]) (fun b hb=>by rw[M.g_new,if_neg (by omega)]),Nat.lt_succ_self _,fun b hb=>.inl hb⟩;refine hi.run m.nxt m.nxt I E hc _ _ (Nat.le_succ _) hI0 hRn (fun b hb hD=>?_) _ fun v S' m5 hown hchg hfin=>?_
 ·rcases hb with hb | hb
  ·exact hS0 b hb hD
  ·have:=hDlt b hD; omega
 ·have hvw5:(m5.del m.nxt).vw=m.vw:=hchg.vw
  have hfr:∀b,b < m.nxt->¬ S0 b->(m5.del m.nxt).g b=m.g b:=fun b hb hS=>by
   rw[M.g_del,if_neg (by omega),hchg.g b (by show b < m.nxt+1; omega) (fun h=>h.elim hS fun h=>by omega),M.g_new,if_neg (by omega)]
  have hlowd:∀b,b < m.nxt->(m5.del m.nxt).g b=m5.g b:=fun b hb=>by rw[M.g_del,if_neg (by omega)]
  have hdel:∀SJ:Nat->Prop,¬ SJ m.nxt->∀b,SJ b->(m5.del m.nxt).g b=m5.g b:=fun SJ hl b hb=>by rw[M.g_del,if_neg fun h=>hl (by rw[<- h]; exact hb)]
  rcases hfin with ⟨SJ,q1,q2,q3,q4,q5,q6⟩ | ⟨SJ,q1,q2,q5,q6,q7⟩
  ·exact⟨_,_,q3,(fun h=>by cases h),hend SJ _ q6 q5 hvw5 hfr ((hJ _).st _ _ _ q4 (Nat.le_refl _) rfl (hdel SJ q2) hlowd)⟩
  ·rcases q7 with ⟨id,q8,q9⟩ | ⟨q8,q9⟩
   ·exact⟨_,_,q8,(fun h=>by cases h),hexit id SJ _ q6 q5 hvw5 hfr ((hX _).st _ _ _ q9 (Nat.le_refl _) rfl (hdel SJ q2) hlowd)⟩
   ·exact⟨_,_,q8,(fun h=>by cases h),hret SJ _ q6 q5 hvw5 hfr ((hX _).st _ _ _ q9 (Nat.le_refl _) rfl (hdel SJ q2) hlowd)⟩
end
end Go.Abs

