/- An evaluator of code, its soundness, and what functions of the program do. Condition: none; a lemma text. -/
import Derived.Test.YtdedachmfbiekaaTaA

namespace Go.Abs
noncomputable section
variable {P:Program} {e:Env} {tm:S3 V} {h:H} {w:World} {a:Act} {o:Oper}
theorem zhi{k:CK}{x y:Value}(hx:zgo k x)(hy:zgo k y)(he:zgn x=zgn y):x=y:=by
 cases k with
 | bool=>obtain⟨_,rfl⟩:=hx; obtain⟨_,rfl⟩:=hy; simp only[zgn,Lit.bool.injEq] at he; rw[he]
 | int q=>obtain⟨_,rfl,_⟩:=hx; obtain⟨_,rfl,_⟩:=hy; simp only[zgn,Lit.int.injEq] at he; rw[he.2]
 | str=>
  obtain⟨u,rfl,_⟩:=hx; obtain⟨v,rfl,_⟩:=hy
  simp only[zgn,Lit.string.injEq] at he
  cases u; cases v
  congr 2
  exact Array.toList_inj.1 he
theorem zhj:∀{ks:List CK} {xs ys:List Value},zeq zgo ks xs->zeq zgo ks ys->xs.map zgn=ys.map zgn->xs=ys
 | _,_,_,.nil,.nil,_=>rfl
 | _,_,_,.cons h1 h2,.cons h3 h4,he=>by
  simp only[List.map_cons,List.cons.injEq] at he
  rw[zhi h1 h3 he.1,zhj h2 h4 he.2]
theorem zhk{k:CK}{x:Value}(hx:zgo k x)(n:Nat):Instr.sameBits n x x=true:=by
 cases k with
 | bool=>obtain⟨_,rfl⟩:=hx; cases n <;> simp[Instr.sameBits]
 | int q=>obtain⟨_,rfl,_⟩:=hx; cases n <;> simp[Instr.sameBits]
 | str=>obtain⟨s,rfl,_⟩:=hx; cases n <;> simp[Instr.sameBits,(MapKept.bytes_beq s s).2 rfl]
theorem zhl{p:Value->Value->Bool}:∀{ks:List CK} {xs:List Value},zeq zgo ks xs->(∀k x,zgo k x->p x x=true)->(xs.zip xs).all (fun(x,y)=>p x y)=true
 | _,_,.nil,_=>rfl
 | _,_,.cons h1 h2,hp=>by simp only[List.zip_cons_cons,List.all_cons,hp _ _ h1,Bool.true_and]; exact zhl h2 hp
theorem zhm{t:TypeId}{ks:List CK}(hk:zbb P t=some ks){u v:V}(h1:eqV P t u v=some true){u' v':Value}(hu:VR e u u')(hv:VR e v v'):u'=v'/\∀n,Instr.sameBits (n+1) u' u'=true:=by
 unfold eqV at h1;rw[hk] at h1;obtain⟨xs,hxs,h2⟩:=zd7 (show zaa (zbz P t u) none (fun xs=>zaa (zbz P t v) none fun ys=>zby ks xs ys)=some true from h1);obtain⟨ys,hys,h3⟩:=zd7 h2;unfold zbz at hxs hys
 cases ha:za9 P t with
 | true=>
  rw[ha] at hxs hys;obtain⟨n,l,rfl,h4⟩:=zeU (show zaz u none (fun _ l=>some l)=some xs from hxs);obtain⟨m,r,rfl,h5⟩:=zeU (show zaz v none (fun _ l=>some l)=some ys from hys)
  cases h4; cases h5
  obtain⟨cs,rfl,hcs,_⟩:=hu;obtain⟨ds,rfl,hds,_⟩:=hv;obtain⟨k1,k2,k3⟩:=zgA h3 hcs hds;have hcd:=zhj k1 k2 (k3.1 rfl);have:cs=ds:=Array.toList_inj.1 hcd;subst this;refine⟨rfl,fun n=>?_⟩
  simp only[Instr.sameBits,beq_self_eq_true,Bool.true_and]
  exact zhl k1 fun k x hx=>zhk hx n
 | false=>
  rw[ha] at hxs hys;obtain⟨x,rfl,h4⟩:=zeZ (show zas u none (fun c=>some [c])=some xs from hxs);obtain⟨y,rfl,h5⟩:=zeZ (show zas v none (fun c=>some [c])=some ys from hys)
  cases h4; cases h5
  obtain⟨k1,k2,k3⟩:=zgA h3 (.cons hu .nil) (.cons hv .nil);have hcd:=zhj k1 k2 (k3.1 rfl)
  simp only[List.cons.injEq,and_true] at hcd
  subst hcd
  cases k1 with
  | cons q1 q2=>exact⟨rfl,fun n=>zhk q1 _⟩
theorem zhn{kt:TypeId}{k:V}:∀{es:List E} {i i':Nat} {u:U},zcd P kt k es i=some (some (i',u))->∃j x,i'=i+j/\es[j]? = some x/\eqV P kt k (uV x.k)=some true
 | [],i,i',u,hf=>by cases hf
 | x::es,i,i',u,hf=>by
  obtain⟨b,hb,h3⟩:=zd7 (show zaa (eqV P kt k (uV x.k)) none (fun b=>ifB b (some (some (i,x.v))) (zcd P kt k es (Nat.succ i)))=some (some (i',u)) from hf)
  cases b with
  | true=>
   have:some (i,x.v)=some (i',u):=oi h3
   cases this
   exact⟨0,x,rfl,rfl,hb⟩
  | false=>
   obtain⟨j,y,h4,h5,h6⟩:=zhn (i:=i+1) h3;exact⟨j+1,y,by omega,h5,h6⟩
theorem zho{k v:U}{k' v':Value}(hk:UR e k k')(hv:UR e v v'):∀{es:List E} {ces:List MapEntry} {i:Nat},zeq (ER e) es ces->zeq (ER e) (zce k v es i) (ces.modify i fun y=>{ y with key:=k',val:=v' })
 | _,_,i,.nil=>by cases i <;> exact .nil
 | _,_,0,.cons h1 h2=>by
  rw[List.modify_zero_cons];exact .cons ⟨hk,hv,h1.2.2⟩ h2
 | _,_,i+1,.cons (x:=x) (xs:=xs) h1 h2=>by
  rw[List.modify_succ_cons]
  show zeq _ (zaD x (zce k v xs i)) _
  rw[zer];exact .cons h1 (zho hk hv h2)
theorem zhp(hP:zgE P){t:TypeId}{x k y:Operand}(ho:o.op=.mapUpdate t x k y\/o.op=.insert t x k y)(hr:HR e h w)(ht:TR e tm a.tmps){r:R}(h1:zci P tm h t x k y=some r):∃v h',r=.val v h'/\ze5 P e h w a o v h':=by
 unfold zci at h1;obtain⟨kt,et,htk,h2⟩:=zfB h1;have hut:=zfa htk;obtain⟨ks,hpk,h3⟩:=zd7 h2;obtain⟨xv,hx,h4⟩:=zd7 h3;obtain⟨kv,hkv,h5⟩:=zd7 h4;obtain⟨yv,hyv,h6⟩:=zd7 h5;have hxr:=ze4 ht hx;have hkr:=ze4 ht hkv;have hyr:=ze4 ht hyv
 rcases zeX h6 with ⟨_,h8⟩ | ⟨b,rfl,h8⟩
 ·cases h8
 obtain⟨es,clock,hb,h9⟩:=zeH h8;obtain⟨c,hc,hxe⟩:∃cr,e.ρ b=some cr/\a.eval x=.map (some cr):=hxr;obtain⟨ces,hcm,hes⟩:=hr.map hb hc;obtain⟨ku,hku,h10⟩:=zd7 h9;obtain⟨yu,hyu,h11⟩:=zd7 h10;obtain⟨bb,hself,h12⟩:=zd7 h11;obtain⟨f,hf,h13⟩:=zd7 h12;have:=zfJ hku; subst this;have:=zfJ hyu; subst this;have hck:=zgH hpk hself hkr false w;obtain⟨f',hfk,hfr⟩:=zhf hP hpk hkr hes hf w
 have hexec:(execOp a.eval o)=(do Instr.mapUpdate t (a.eval x) (a.eval k) (a.eval y); pure .skip:Sem Next):=by
  unfold execOp
  rcases ho with ho | ho <;> rw[ho]
 cases f with
 | none=>
  cases f' with
  | some p=>exact hfr.elim
  | none=>
   cases h13
   have hor:OR e b (.map (appS es [{ k:=ku,v:=yu,born:=clock }]) (Nat.succ clock)) (.map (ces.push { key:=a.eval k,val:=a.eval y,born:=clock }) (clock+1)):=by
    refine⟨_,rfl,?_⟩;rw[zes,Array.toList_push];exact hes.app (.cons ⟨zfI.1 hkr,zfI.1 hyr,rfl⟩ .nil)
   obtain⟨a1,a2⟩:=hr.upd hb hc hor (fun r hx=>by rw[hcm] at hx; cases hx);refine⟨_,_,rfl,e,_,undef,a2,a1,⟨#[],rfl,.nil⟩,.inr ⟨?_,rfl⟩⟩;rw[hexec,hxe]
   simp only[Instr.mapUpdate,Sem.run_bind,run_underlying hut,Result.andThen_ok,MapKept.run_getObj_map hcm,hck,hfk,MapKept.run_setObj_map _ hcm,Sem.run_pure]
   rfl
 | some p=>
  obtain⟨i,u⟩:=p
  cases f' with
  | none=>exact hfr.elim
  | some q=>
   obtain⟨j,v0⟩:=q;obtain⟨hij,_⟩:=hfr;subst hij
   cases h13
   obtain⟨j,z,hj,hz,heq⟩:=zhn hf;obtain⟨z',hz',hzr⟩:=hes.get (show es[i]? = some z by rw[hj,Nat.zero_add]; exact hz);obtain⟨hkz,hsb⟩:=zhm hpk heq hkr (zfI.2 hzr.1)
   have hor:OR e b (.map (zce ku yu es i) clock) (.map (ces.modify i fun y'=>{ y' with key:=a.eval k,val:=a.eval y }) clock):=by
    refine⟨_,rfl,?_⟩;rw[Array.toList_modify];exact zho (zfI.1 hkr) (zfI.1 hyr) hes
   obtain⟨a1,a2⟩:=hr.upd hb hc hor (fun r hx=>by rw[hcm] at hx; cases hx);refine⟨_,_,rfl,e,_,undef,a2,a1,⟨#[],rfl,.nil⟩,.inr ⟨?_,rfl⟩⟩
   have hget:(((ces[i]?).map (·.key)).getD (a.eval k))=a.eval k:=by
    rw[<- Array.getElem?_toList,hz'];exact hkz.symm
   have hkeep:(Instr.keyThatStays (((ces[i]?).map (·.key)).getD (a.eval k)) (a.eval k)).run P w=.ok (a.eval k) w:=by
    rw[hget];unfold Instr.keyThatStays;rw[hsb 9999]
    rfl
   rw[hexec,hxe]
   simp only[Instr.mapUpdate,Sem.run_bind,run_underlying hut,Result.andThen_ok,MapKept.run_getObj_map hcm,hck,hfk,hkeep,MapKept.run_setObj_map _ hcm,Sem.run_pure]
   rfl
theorem zhq(hP:zgE P){t:TypeId}{x k:Operand}(ho:o.op=.mapEntry t x k)(hr:HR e h w)(ht:TR e tm a.tmps){r:R}(h1:zcj P tm h t x k=some r):∃v h',r=.val v h'/\ze5 P e h w a o v h':=by
 unfold zcj at h1;obtain⟨kt,et,htk,h2⟩:=zfB h1;have hut:=zfa htk;obtain⟨ks,hpk,h3⟩:=zd7 h2;obtain⟨xv,hx,h4⟩:=zd7 h3;obtain⟨kv,hkv,h5⟩:=zd7 h4;have hxr:=ze4 ht hx;have hkr:=ze4 ht hkv
 rcases zeX h5 with ⟨_,h8⟩ | ⟨b,rfl,h8⟩
 ·cases h8
 obtain⟨es,clock,hb,h9⟩:=zeH h8;obtain⟨c,hc,hxe⟩:∃cr,e.ρ b=some cr/\a.eval x=.map (some cr):=hxr;obtain⟨ces,hcm,hes⟩:=hr.map hb hc;obtain⟨ku,hku,h11⟩:=zd7 h9;obtain⟨bb,hself,h12⟩:=zd7 h11;obtain⟨f,hf,h13⟩:=zd7 h12;have:=zfJ hku; subst this;have hck:=zgH hpk hself hkr false w;obtain⟨f',hfk,hfr⟩:=zhf hP hpk hkr hes hf w
 have hexec:(execOp a.eval o)=(do pure (.value (<- Instr.mapEntry t (a.eval x) (a.eval k))):Sem Next):=by
  unfold execOp;rw[ho]
 cases f with
 | none=>
  cases f' with
  | some p=>exact hfr.elim
  | none=>
   obtain⟨z,hz,h14⟩:=zd7 (show zaa (zeroV P et) none _=some r from h13);obtain⟨zu,hzu,h15⟩:=zd7 h14
   cases h15
   have:=zfJ hzu; subst this;obtain⟨zv,hzr,hzv⟩:=zfj hz w
   have hor:OR e b (.map (appS es [{ k:=ku,v:=zu,born:=clock }]) (Nat.succ clock)) (.map (ces.push { key:=a.eval k,val:=zv,born:=clock }) (clock+1)):=by
    refine⟨_,rfl,?_⟩;rw[zes,Array.toList_push];exact hes.app (.cons ⟨zfI.1 hkr,zfI.1 (hzv e),rfl⟩ .nil)
   obtain⟨a1,a2⟩:=hr.upd hb hc hor (fun r hx=>by rw[hcm] at hx; cases hx);refine⟨_,_,rfl,e,_,.tuple #[zv,goInt clock],a2,a1,⟨_,rfl,.cons (zfI.1 (hzv e)) (.cons rfl .nil)⟩,.inl ?_⟩;rw[hexec,hxe]
   simp only[Instr.mapEntry,Sem.run_bind,run_underlying hut,Result.andThen_ok,MapKept.run_getObj_map hcm,hck,hfk,hzr,MapKept.run_setObj_map _ hcm,Sem.run_pure]
   rfl
 | some p=>
  obtain⟨i,u⟩:=p
  cases f' with
  | none=>exact hfr.elim
  | some q=>
   obtain⟨j,v0⟩:=q;obtain⟨hij,hvr⟩:=hfr;subst hij;obtain⟨z0,hz0,h15⟩:=zd7 (show zaa (atS es i) none _=some r from h13)
   cases h15
   obtain⟨j,z,hj,hz,heq⟩:=zhn hf;rw[Nat.zero_add] at hj;subst hj;obtain⟨z',hz',hzr⟩:=hes.get hz;obtain⟨hkz,hsb⟩:=zhm hpk heq hkr (zfI.2 hzr.1)
   have hzz:z0=z:=by
    have hz1:es[i]? = some z0:=zey hz0;rw[hz] at hz1; exact(oi hz1).symm
   subst hzz
   have hor:OR e b (.map (zce ku z0.v es i) clock) (.map (ces.modify i fun y'=>{ y' with key:=a.eval k }) clock):=by
    refine⟨_,rfl,?_⟩;rw[Array.toList_modify];have h16:=zho (i:=i) (zfI.1 hkr) (zfI.1 (zfI.2 hzr.2.1)) hes
    have h17:(ces.toList.modify i fun y'=>{ y' with key:=a.eval k })=ces.toList.modify i fun y'=>{ y' with key:=a.eval k,val:=z'.val }:=by
     apply List.ext_getElem?
     intro n;rw[List.getElem?_modify,List.getElem?_modify]
     by_cases hn:i=n
     ·subst hn; rw[hz']; rfl
     ·cases ces.toList[n]? with
      | none=>rfl
      | some q=>
       show some (if i=n then _ else q)=some (if i=n then _ else q)
       rw[if_neg hn,if_neg hn]
    rw[h17]; exact h16
   obtain⟨a1,a2⟩:=hr.upd hb hc hor (fun r hx=>by rw[hcm] at hx; cases hx)
   have hget:(((ces[i]?).map (·.key)).getD (a.eval k))=a.eval k:=by
    rw[<- Array.getElem?_toList,hz'];exact hkz.symm
   have hborn:(((ces[i]?).map fun q=>(q.born:Int)).getD 0)=(z0.born:Int):=by
    rw[<- Array.getElem?_toList,hz']
    show(z'.born:Int)=_
    rw[hzr.2.2]
   have hkeep:(Instr.keyThatStays (((ces[i]?).map (·.key)).getD (a.eval k)) (a.eval k)).run P w=.ok (a.eval k) w:=by
    rw[hget];unfold Instr.keyThatStays;rw[hsb 9999]
    rfl
   refine⟨_,_,rfl,e,_,.tuple #[v0,goInt (((ces[i]?).map fun q=>(q.born:Int)).getD 0)],a2,a1,⟨_,rfl,.cons hvr (.cons (by rw[hborn]; rfl) .nil)⟩,.inl ?_⟩;rw[hexec,hxe]
   simp only[Instr.mapEntry,Sem.run_bind,run_underlying hut,Result.andThen_ok,MapKept.run_getObj_map hcm,hck,hfk,hkeep,MapKept.run_setObj_map _ hcm,Sem.run_pure]
   rfl
theorem zhr{n:Nat}{y:U}{y':Value}(hy:UR e y y'):∀{es es':List E} {ces:List MapEntry},zeq (ER e) es ces->zck n y es=some es'->∃i,ces.findIdx? (fun q=>(q.born:Int) == (n:Int))=some i/\zeq (ER e) es' (ces.modify i fun q=>{ q with val:=y' })
 | _,es',_,.nil,h=>by cases h
 | _,es',_,.cons (x:=x) (xs:=xs) (y:=c) (ys:=cs) h1 h2,h=>by
  have h3:ifB (Nat.beq x.born n) (some ({ k:=x.k,v:=y,born:=x.born } :: xs)) (zaa (zck n y xs) none fun l=>some (zaD x l))=some es':=h;rw[List.findIdx?_cons]
  cases hb:Nat.beq x.born n with
  | true=>
   rw[hb,zd3] at h3
   cases h3
   have hbn:x.born=n:=Nat.eq_of_beq_eq_true hb
   have hc:((c.born:Int) == (n:Int))=true:=by rw[<- h1.2.2,hbn]; exact beq_self_eq_true _
   rw[if_pos hc];exact⟨0,rfl,.cons ⟨h1.1,hy,h1.2.2⟩ h2⟩
  | false=>
   rw[hb,zd4] at h3;obtain⟨l,hl,h4⟩:=zd7 h3
   cases h4
   obtain⟨i,hi,ha⟩:=zhr hy h2 hl
   have hc:((c.born:Int) == (n:Int))=false:=by
    rw[<- h1.2.2]
    cases hq:((x.born:Int) == (n:Int)) with
    | false=>rfl
    | true=>
     have:x.born=n:=Int.ofNat.inj (eq_of_beq hq)
     rw[this,Nat.beq_refl] at hb; cases hb
   rw[if_neg (by rw[hc]; decide),hi];refine⟨i+1,rfl,?_⟩;rw[List.modify_succ_cons,zer];exact .cons h1 ha
theorem zhs{t:TypeId}{x s y:Operand}(ho:o.op=.entryStore t x s y)(hr:HR e h w)(ht:TR e tm a.tmps){r:R}(h1:zcl tm h x s y=some r):∃v h',r=.val v h'/\ze5 P e h w a o v h':=by
 unfold zcl at h1;obtain⟨xv,hx,h4⟩:=zd7 h1;obtain⟨sv,hs,h5⟩:=zd7 h4;obtain⟨yv,hyv,h6⟩:=zd7 h5;have hxr:=ze4 ht hx;have hsr:=ze4 ht hs;have hyr:=ze4 ht hyv
 rcases zeX h6 with ⟨_,h8⟩ | ⟨b,rfl,h8⟩
 ·cases h8
 obtain⟨k,n,rfl,h9⟩:=zeR h8;obtain⟨es,clock,hb,h10⟩:=zeH h9;obtain⟨c,hc,hxe⟩:∃cr,e.ρ b=some cr/\a.eval x=.map (some cr):=hxr;obtain⟨ces,hcm,hes⟩:=hr.map hb hc;obtain⟨yu,hyu,h11⟩:=zd7 h10;have:=zfJ hyu; subst this;obtain⟨es',hes',h12⟩:=zd7 h11
 cases h12
 have hse:a.eval s=.int k (n:Int):=hsr;obtain⟨i,hi,ha⟩:=zhr (zfI.1 hyr) hes hes'
 have hor:OR e b (.map es' clock) (.map (ces.modify i fun q=>{ q with val:=a.eval y }) clock):=by
  refine⟨_,rfl,?_⟩;rw[Array.toList_modify];exact ha
 obtain⟨a1,a2⟩:=hr.upd hb hc hor (fun r hx=>by rw[hcm] at hx; cases hx);refine⟨_,_,rfl,e,_,undef,a2,a1,⟨#[],rfl,.nil⟩,.inr ⟨?_,rfl⟩⟩
 have hexec:(execOp a.eval o)=(do Instr.entryStore t (a.eval x) (a.eval s) (a.eval y); pure .skip:Sem Next):=by
  unfold execOp;rw[ho]
 have hfi:ces.findIdx? (fun q=>(q.born:Int) == (n:Int))=some i:=by rw[<- hi,<- List.findIdx?_toArray]
 rw[hexec,hxe,hse]
 simp only[Instr.entryStore,Sem.run_bind,Result.andThen_ok,MapKept.run_getObj_map hcm,asInt,asIntOf,Sem.run_pure,hfi,MapKept.run_setObj_map _ hcm]
 rfl
theorem zht(n:Nat)(l:List Nat):zaK n l=l.contains n:=by
 induction l with
 | nil=>rfl
 | cons x xs ih=>
  show ifB (Nat.beq n x) true (zaK n xs)=_
  rw[List.contains_cons,ih]
  have:Nat.beq n x=(n == x):=by rw[Bool.eq_iff_iff,zgw,beq_iff_eq]
  rw[this]
  cases (n == x) <;> rfl
theorem zhu{α:Type}(p:α->Bool)(l:List α):zaM p l=l.any p:=by
 induction l with
 | nil=>rfl
 | cons x xs ih=>
  show ifB (p x) true (zaM p xs)=_
  rw[ih,List.any_cons]
  cases p x <;> rfl
theorem zhv{α:Type}(p:α->Bool)(l:List α):zaN p l=l.filter p:=by
 induction l with
 | nil=>rfl
 | cons x xs ih=>
  show ifB (p x) (zaD x (zaN p xs)) (zaN p xs)=_
  rw[ih,zer]
  cases hp:p x
  ·rw[List.filter_cons_of_neg (by simp[hp])]; rfl
  ·rw[List.filter_cons_of_pos hp]; rfl
theorem zeq.filter{α β:Type}{R:α->β->Prop}{p:α->Bool}{q:β->Bool}{xs:List α}{ys:List β}(h:zeq R xs ys)(hp:∀x y,R x y->p x=q y):zeq R (xs.filter p) (ys.filter q):=by
 induction h with
 | nil=>exact .nil
 | cons h1 _ ih=>
  have:=hp _ _ h1;rw[List.filter_cons,List.filter_cons,this]
  split
  ·exact .cons h1 ih
  ·exact ih
theorem zeq.any{α β:Type}{R:α->β->Prop}{p:α->Bool}{q:β->Bool}{xs:List α}{ys:List β}(h:zeq R xs ys)(hp:∀x y,R x y->p x=q y):xs.any p=ys.any q:=by
 induction h with
 | nil=>rfl
 | cons h1 _ ih=>rw[List.any_cons,List.any_cons,ih,hp _ _ h1]
theorem zhw(b:Bool):ifB b false true = !b:=by cases b <;> rfl
def zhx(e:Env)(m cm:Option Nat):Prop:=match m with | none=>cm=none | some r=>∃cr,e.ρ r=some cr/\cm=some cr
theorem HR.iter{e:Env}{h:H}{w:World}(hr:HR e h w){b since last:Nat}{m:Option Nat}{seen:List Nat}(hb:zaj h.t b=some (.iter m since seen last)){c:Nat}(hc:e.ρ b=some c) :
  ∃cm cs,w.heap[c]? = some (.mapIter cm since cs last)/\cs.toList.reverse=seen/\zhx e m cm:=by
 obtain⟨cb,h1,co,h2,h3⟩:=hr.live b _ hb
 rw[hc] at h1; cases h1
 obtain⟨cm,cs,rfl,h4⟩:=h3;exact⟨cm,cs,h2,h4⟩
theorem zhy{t:TypeId}{x:Operand}(ho:o.op=.range t x)(hr:HR e h w)(ht:TR e tm a.tmps){r:R}(h1:zcn P tm h t x=some r):∃v h',r=.val v h'/\ze5 P e h w a o v h':=by
 unfold zcn at h1;obtain⟨kt,et,htk,h2⟩:=zfB h1;have hut:=zfa htk;obtain⟨xv,hx,h4⟩:=zd7 h2;have hxr:=ze4 ht hx
 have hfin:∀{m:Option Nat} {cm:Option Nat} {clock:Nat},zhx e m cm->zcm h m clock=some r ->
   (execOp a.eval o).run P w=.ok (.value (.pointer (some ⟨w.heap.size,0,none⟩))) (w.alloc (.mapIter cm clock #[] clock))->∃v h',r=.val v h'/\ze5 P e h w a o v h':=by
  intro m cm clock hm hn hrun
  cases hn
  have hle:=Env.put_le (hr.fresh h.nxt (Nat.le_refl _)) w.heap.size 0 0
  have hor:OR (e.put h.nxt w.heap.size 0 0) h.nxt (.iter m clock [] clock) (.mapIter cm clock #[] clock):=by
   refine⟨cm,#[],rfl,rfl,?_⟩
   cases m with
   | none=>exact hm
   | some q=>obtain⟨cr,h5,h6⟩:=hm; exact⟨cr,hle.ρ _ _ h5,h6⟩
  obtain⟨a1,a2⟩:=hr.new 0 0 hor;exact⟨_,_,rfl,_,_,_,a2,a1,⟨_,Env.put_self _ _ _ _ _,rfl⟩,.inl hrun⟩
 rcases zeX h4 with ⟨rfl,h8⟩ | ⟨b,rfl,h8⟩
 ·have hxe:a.eval x=.map none:=hxr;refine hfin (m:=none) (cm:=none) rfl h8 ?_
  simp only[execOp,ho,hxe,Instr.range,Sem.run_bind,run_underlying hut,Result.andThen_ok,Sem.run_pure,run_newObj_alloc]
 ·obtain⟨es,clock,hb,h9⟩:=zeH h8;obtain⟨c,hc,hxe⟩:∃cr,e.ρ b=some cr/\a.eval x=.map (some cr):=hxr;obtain⟨ces,hcm,hes⟩:=hr.map hb hc;refine hfin (m:=some b) (cm:=some c) ⟨c,hc,rfl⟩ h9 ?_
  simp only[execOp,ho,hxe,Instr.range,Sem.run_bind,run_underlying hut,Result.andThen_ok,Sem.run_pure,MapKept.run_getObj_map hcm,run_newObj_alloc]
theorem zhz{c since last:Nat}{cm:Option Nat}{cs:Array Nat}(hc:w.heap[c]? = some (.mapIter cm since cs last)):(getObj c).run P w=.ok (.mapIter cm since cs last) w:=by
 simp[getObj,Sem.run,hc]
theorem zhA:∀{es:List E} {ces:List MapEntry} {n:Nat} {v:V},zeq (ER e) es ces->zcq n es=some v->∃y,ces.find? (·.born == n)=some y/\VR e v (.tuple #[y.key,y.val])
 | _,_,n,v,.nil,hf=>by cases hf
 | _,_,n,v,.cons (x:=x) (y:=y) (xs:=xs) (ys:=ys) h1 h2,hf=>by
  have hf':ifB (Nat.beq x.born n) (some (.tup [x.k,x.v])) (zcq n xs)=some v:=hf
  have hb:(y.born == n)=Nat.beq x.born n:=by rw[<- h1.2.2,Bool.eq_iff_iff,zgw,beq_iff_eq]
  rw[List.find?_cons,hb]
  cases hc:Nat.beq x.born n with
  | true=>
   rw[hc] at hf'
   cases hf'
   exact⟨y,rfl,_,rfl,.cons h1.1 (.cons h1.2.1 .nil)⟩
  | false=>
   rw[hc] at hf';exact zhA h2 hf'
theorem zhB{x:Operand}(ho:o.op=.entry x)(hr:HR e h w)(ht:TR e tm a.tmps){r:R}(h1:zcr tm h x=some r):∃v,r=.val v h/\ze5 P e h w a o v h:=by
 unfold zcr at h1;obtain⟨p,hp,h2⟩:=zd7 h1;obtain⟨b,off,rfl,h3⟩:=zeP h2;obtain⟨h4,h5⟩:=zd8 h3;have:=Nat.eq_of_beq_eq_true h4;subst this;obtain⟨c,hc,hx⟩:∃cb,e.ρ b=some cb/\a.eval x=.pointer (some ⟨cb,0,none⟩):=ze4 ht hp;obtain⟨m,since,seen,last,hb,h6⟩:=zeI h5;obtain⟨cm,cs,hci,hseen,hm⟩:=hr.iter hb hc;obtain⟨mm,rfl,h7⟩:=zd7 h6;obtain⟨cr,hcr,rfl⟩:=hm
 cases seen with
 | nil=>cases h7
 | cons stamp seen=>
  obtain⟨es,clock,hbm,h8⟩:=zeH (show za3 h mm none _=some r from h7);obtain⟨ces,hcm,hes⟩:=hr.map hbm hcr;obtain⟨h9,h10⟩:=zd8 h8;have:=Nat.eq_of_beq_eq_true h9;subst this;obtain⟨v,h11,rfl⟩:=ze6 h10;obtain⟨y,hy,hv⟩:=zhA hes h11;refine⟨v,rfl,.same hr hv ?_⟩
  have hback:cs.back? = some stamp:=by
   rw[<- Array.getLast?_toList]
   have:cs.toList=(stamp::seen).reverse:=by rw[<- hseen,List.reverse_reverse]
   rw[this]
   simp
  have hfind:ces.find? (·.born == stamp)=some y:=by rw[<- Array.find?_toList]; exact hy
  simp only[execOp,ho,hx,Instr.entry,Sem.run_bind,zhz hci,Result.andThen_ok,hback,MapKept.run_getObj_map hcm,bne_self_eq_false,Bool.false_eq_true,if_false,hfind,Sem.run_pure]
theorem zhC{c since last:Nat}{cm:Option Nat}{cs:Array Nat}(hc:w.heap[c]? = some (.mapIter cm since cs last))(n:Nat)(o':Obj) :
  (setObj c o').run P { w with drawn:=n }=.ok () ({ w with drawn:=n }.putObj c o'):=by
 simp only[setObj,Sem.run,World.putObj]
 simp[hc]
theorem zhD{x:Operand}(ho:o.op=.next x false)(hr:HR e h w)(ht:TR e tm a.tmps){r:R}(h1:zcp tm h x=some r) :
  (∃v,r=.val v h/\ze5 P e h w a o v h)\/∃l,r=.alts l/\∃p∈l,ze5 P e h w a o p.1 p.2:=by
 unfold zcp at h1;obtain⟨p,hp,h2⟩:=zd7 h1;obtain⟨b,off,rfl,h3⟩:=zeP h2;obtain⟨h4,h5⟩:=zd8 h3;have:=Nat.eq_of_beq_eq_true h4;subst this;obtain⟨c,hc,hx⟩:∃cb,e.ρ b=some cb/\a.eval x=.pointer (some ⟨cb,0,none⟩):=ze4 ht hp;obtain⟨m,since,seen,last,hb,h6⟩:=zeI h5;obtain⟨cm,cs,hci,hseen,hm⟩:=hr.iter hb hc;have hover:VR e zco (.tuple #[.bool false]):=⟨_,rfl,.cons rfl .nil⟩
 cases m with
 | none=>
  have:cm=none:=hm;subst this
  cases h6
  exact .inl ⟨_,rfl,.same hr hover (by simp only[execOp,ho,hx,Instr.next,Sem.run_bind,zhz hci,Result.andThen_ok,Sem.run_pure])⟩
 | some mm=>
  obtain⟨cr,hcr,rfl⟩:=hm;obtain⟨es,clock,hbm,h8⟩:=zeH (show za3 h mm none _=some r from h6);obtain⟨ces,hcm,hes⟩:=hr.map hbm hcr;obtain⟨hgo,h9⟩:=zd8 h8
  have hany:zaM (fun e:E=>ifB (zaK e.born seen) false (ifB (ltN e.born since) false true)) es=false:=by
   cases hq:zaM (fun e:E=>ifB (zaK e.born seen) false (ifB (ltN e.born since) false true)) es with
   | false=>rfl
   | true=>rw[hq] at h9; cases h9
  rw[hany,zd4] at h9
  have hmem:∀n,zaK n seen=cs.contains n:=fun n=>by
   rw[zht,<- hseen,Bool.eq_iff_iff]
   simp
  have hguard:(!cs.isEmpty && !ces.isEmpty && ces.all (fun y=>decide (y.born ≥ last)))=false:=by
   cases hs:seen with
   | nil=>
    have:cs = #[]:=by
     apply Array.toList_inj.1
     rw[hs] at hseen
     simpa using hseen
    simp[this]
   | cons s ss=>
    cases hes':es with
    | nil=>
     rw[hes'] at hes
     have:ces = #[]:=by
      apply Array.toList_inj.1
      generalize ces.toList=l at hes
      cases hes
      rfl
     simp[this]
    | cons q qs=>
     rw[hs,hes'] at hgo;have hgo':zaM (fun e:E=>ltN e.born last) (q::qs)=true:=hgo;rw[zhu,<- hes',hes.any (q:=fun y=>decide (y.born < last)) (fun x y hxy=>by rw[hxy.2.2]; exact zge)] at hgo';obtain⟨y,hy,hlt⟩:=List.any_eq_true.1 hgo'
     have:ces.all (fun y=>decide (y.born ≥ last))=false:=by
      rw[Array.all_eq_false'];exact⟨y,Array.mem_toList_iff.1 hy,by simp at hlt ⊢; exact hlt⟩
     simp[this]
  have hleft:=hes.filter (p:=fun e:E=>ifB (zaK e.born seen) false true) (q:=fun y=>!cs.contains y.born) (fun x y hxy=>by rw[zhw,hmem,hxy.2.2]);rw[zhv] at h9
  have hold:∀y∈(ces.filter fun y=>!cs.contains y.born).toList,y.born < since:=by
   intro y hy;rw[zhu] at hany
   have h11:ces.toList.any (fun y=>!cs.contains y.born && !decide (y.born < since))=false:=by
    rw[<- hes.any (p:=fun e:E=>ifB (zaK e.born seen) false (ifB (ltN e.born since) false true)) (fun x y hxy=>by
     rw[hmem,hxy.2.2,zhw,zge]
     cases cs.contains y.born <;> rfl)]
    exact hany
   rw[Array.toList_filter] at hy;have h12:=List.mem_filter.1 hy;have h13:=List.any_eq_false.1 h11 y h12.1;have h14:(!cs.contains y.born)=true:=h12.2;rw[h14] at h13
   simpa using h13
  have hexec:execOp a.eval o=(do pure (.value (<- Instr.next (.pointer (some ⟨c,0,none⟩)) false o.type)):Sem Next):=by
   unfold execOp; rw[ho]; simp only[hx]
  generalize hfl:es.filter (fun e:E=>ifB (zaK e.born seen) false true)=fl at h9 hleft;rw[<- Array.toList_filter] at hleft;generalize hL:ces.filter (fun y=>!cs.contains y.born)=L at hold hleft;have e1:L.filter (fun x=>decide (x.born < since))=L:=Array.filter_eq_self.2 (fun x hx=>by simpa using hold x (by simpa using hx))
  have e2:L.filter (fun x=>decide (x.born ≥ since)) = #[]:=by
   rw[Array.filter_eq_empty_iff];intro x hx;have:=hold x (by simpa using hx)
   simp
   omega
  cases fl with
  | nil=>
   cases h9
   have hL0:L = #[]:=by
    apply Array.toList_inj.1
    generalize L.toList=l at hleft
    cases hleft
    rfl
   refine .inl ⟨_,rfl,.same hr hover ?_⟩;rw[hexec]
   simp only[Instr.next,Sem.run_bind,zhz hci,Result.andThen_ok,MapKept.run_getObj_map hcm,hguard,Bool.false_eq_true,if_false,hL,e1,e2,Array.append_empty]
   subst hL0
   simp[choose,Sem.run,Question.forced]
  | cons q qs=>
   have h10:some (R.alts (zbZ (fun e:E=>(V.tup [.c (.bool true),e.k,e.v],za0 h b (.iter (some mm) since (e.born::seen) clock))) (q::qs)))=some r:=h9
   cases h10
   right
   refine⟨_,rfl,?_⟩
   have hlen:L.size=(q::qs).length:=by rw[hleft.length]; simp
   have hpos:0 < L.size:=by rw[hlen]; exact Nat.succ_pos _
   have hne:L.isEmpty=false:=by unfold Array.isEmpty; simp; intro h0; rw[h0] at hpos; simp at hpos
   have hch:∃(j n:Nat),j < L.size/\(choose (Question.mapNext L.size)).run P w=.ok j { w with drawn:=n }:=by
    by_cases hf:L.size<=1
    ·exact⟨0,w.drawn,by omega,by simp[choose,Sem.run,Question.forced,hf]⟩
    ·exact⟨_,w.drawn+1,Nat.mod_lt _ (by omega),by
      simp only[choose,Sem.run,Question.forced,decide_eq_true_eq,hf,if_false,Question.cut]
      rfl⟩
   obtain⟨j,n,hj,hrun⟩:=hch;obtain⟨y,hy,hyr⟩:=hleft.get (i:=j) (x:=(q::qs)[j]'(hlen ▸ hj)) (by simp);generalize hz:(q::qs)[j]'(hlen ▸ hj)=z at hyr
   have hzm:z∈q::qs:=by rw[<- hz]; exact List.getElem_mem _
   refine⟨(V.tup [.c (.bool true),z.k,z.v],za0 h b (.iter (some mm) since (z.born::seen) clock)),?_,?_⟩
   ·rw[zeu]; exact List.mem_map.2 ⟨z,hzm,rfl⟩
   ·have hor:OR e b (.iter (some mm) since (z.born::seen) clock) (.mapIter (some cr) since (cs.push y.born) clock):=by
     refine⟨_,_,rfl,?_,cr,hcr,rfl⟩;rw[Array.toList_push,List.reverse_append,hseen,hyr.2.2]
     rfl
    obtain⟨a1,a2⟩:=(hr.drawn n).upd hb hc hor (fun r hx=>by have hx':w.heap[c]? = some (Obj.loop r):=hx; rw[hci] at hx'; cases hx');refine⟨e,_,.tuple #[.bool true,y.key,y.val],(zeE.drawn n).trans a2,a1,⟨_,rfl,.cons rfl (.cons hyr.1 (.cons hyr.2.1 .nil))⟩,.inl ?_⟩;rw[hexec]
    simp only[Instr.next,Sem.run_bind,zhz hci,Result.andThen_ok,MapKept.run_getObj_map hcm,hguard,Bool.false_eq_true,if_false,hL,e1,e2,Array.append_empty,hne,Array.empty_append,Array.size_map,hrun]
    have hyL:L[j]? = some y:=by rw[<- Array.getElem?_toList]; exact hy
    simp only[Array.getElem?_map,hyL,Option.map_some,Sem.run_bind,zhC hci,Result.andThen_ok,Sem.run_pure]
end
end Go.Abs

namespace Go.Abs
noncomputable section
variable {P:Program} {e:Env} {tm:S3 V} {h:H} {w:World} {a:Act} {o:Oper}
def Fin(P:Program)(e:Env)(h:H)(w:World)(s:Sem Value)(v:V)(h':H):Prop:=
 ∃e' w' v',zeE e h w e' h' w'/\HR e' h' w'/\VR e' v v'/\s.run P w=.ok v' w'
theorem Fin.same{s:Sem Value}{v:V}{v':Value}(hr:HR e h w)(hv:VR e v v')(hrun:s.run P w=.ok v' w):Fin P e h w s v h:=
 ⟨e,w,v',.refl e h w,hr,hv,hrun⟩
theorem zhE(ad:Addr)(w:World):(loadCells ad 0).run P w=.ok #[] w:=by
 have:=run_loadCells_list (P:=P) w ad [] (fun j v hv=>by simp at hv);exact this
theorem zhF(hr:HR e h w){sz b off m:Nat}{q:Nat × List C}(h1:zct h sz b off m=some q){c:Nat}(hc:e.ρ b=some c) :
  q.1=m/\q.2.length=m * sz/\∃xs:List Value,zeq (CR e) q.2 xs/\∀k,(loadCells ⟨c,off,none⟩ (m * sz)).run P { w with drawn:=k }=.ok xs.toArray { w with drawn:=k }:=by
 obtain⟨l,hl,h2⟩:=zd7 (show zaa (rdA h b off (m * sz)) none (fun l=>some (m,l))=some q from h1)
 cases h2
 obtain⟨k2,xs,hx,hxl,hcell,_⟩:=zeM (P:=P) hr hl hc;refine⟨rfl,k2,xs,hx,fun k=>?_⟩
 have:=run_loadCells_list (P:=P) { w with drawn:=k } ⟨c,off,none⟩ xs hcell
 rw[hxl] at this;exact this
theorem zhG(hr:HR e h w){sz:Nat}{x:V}{x':Value}(hx:VR e x x'){q:Nat × List C}(h1:zcu h sz x=some q) :
  Builtin.lenOf x'=pure q.1/\q.2.length=q.1 * sz/\∃xs:List Value,zeq (CR e) q.2 xs/\∀k,(Builtin.firstCells sz q.1 x').run P { w with drawn:=k }=.ok xs.toArray { w with drawn:=k }:=by
 unfold zcu at h1
 rcases zeW h1 with ⟨rfl,h2⟩ | ⟨b,off,n,s,c,rfl,h2⟩
 ·cases h2
  have:x'=.slice none 0 0:=hx;subst this;exact⟨rfl,by simp,[],.nil,fun k=>by simp[Builtin.firstCells]⟩
 ·cases n with
  | zero=>
   have h3:some ((0:Nat),([]:List C))=some q:=h2
   cases h3
   obtain⟨ad,cap,rfl⟩:∃ad cap,x'=.slice (some ad) 0 cap:=by
    cases c with
    | some c=>obtain⟨cb,sp,_,h4,_⟩:=hx; exact⟨_,_,h4⟩
    | none=>obtain⟨cb,off',cap,_,h4,_⟩:=hx; exact⟨_,_,h4⟩
   refine⟨rfl,by simp,[],.nil,fun k=>?_⟩
   simp only[Builtin.firstCells,Nat.zero_mul]
   exact zhE _ _
  | succ n=>
   have h2:zct h sz b off (n+1)=some q:=h2
   cases c with
   | some c=>
    have hnc:n+1<=c:=by obtain⟨_,_,_,_,h3,_⟩:=hx; exact h3
    obtain⟨cb,hc,rfl,_⟩:=CR.sl_pos (s:=s) (v:=x') hx (by omega);obtain⟨k1,k2,xs,k3,k4⟩:=zhF (P:=P) hr h2 hc;rw[k1];exact⟨rfl,k2,xs,k3,k4⟩
   | none=>
    obtain⟨cb,off',cap,hc,rfl,_,_,hoff,_,_⟩:SlR e b off (n+1) s x':=hx;obtain⟨k1,k2,xs,k3,k4⟩:=zhF (P:=P) hr h2 hc;rw[k1];have h0:=hoff.resolve_left (by omega);subst h0;exact⟨rfl,k2,xs,k3,k4⟩
section model
variable {tys:Array TypeId} {args:Array Value} {t t2 el el2 ty:TypeId} {base:Option Addr} {n m cap:Nat} {x':Value} {i:TypeInfo} {xs:List Value}
theorem zhH(h0:tys[0]? = some t)(h1:tys[1]? = some t2)(h2:P.underlying t=some (.slice el))(h3:P.underlying t2=some (.slice el2))(a0:args[0]? = some (.slice base n cap))(a1:args[1]? = some x')
  (hi:P.info? el=some i) (hl:Builtin.lenOf x'=pure m) (hf:(Builtin.firstCells i.size m x').run P w=.ok xs.toArray w) (hroom:n+m<=cap)
  {w':World} (hst:(Option.elim base (pure ()) (fun ad=>storeCells (ad.add (n * i.size)) xs):Sem Unit).run P w=.ok () w') :
  (Builtin.append_ tys ty args).run P w=.ok (.slice base (n+m) cap) w':=by
 cases base with
 | none=>
  have:w'=w:=by simp at hst; exact hst.symm
  subst this
  simp[Builtin.append_,h0,h1,a0,a1,run_underlying h2,run_underlying h3,sizeOf,typeInfo,hi,hl,hroom,hf]
 | some ad=>
  have hst':(storeCells (ad.add (n * i.size)) xs).run P w=.ok () w':=hst
  simp[Builtin.append_,h0,h1,a0,a1,run_underlying h2,run_underlying h3,sizeOf,typeInfo,hi,hl,hroom,hf,hst']
theorem zhI{z:Value}(h0:tys[0]? = some t)(h1:tys[1]? = some t2)(h2:P.underlying t=some (.slice el))(h3:P.underlying t2=some (.slice el2))(a0:args[0]? = some (.slice base n cap))(a1:args[1]? = some x')
  (hi:P.info? el=some i) (hz:i.zero=some z) (hl:Builtin.lenOf x'=pure m) {old:List Value} (hf:(Builtin.firstCells i.size m x').run P w.drew=.ok xs.toArray w.drew)
  (ho:(Builtin.firstCells i.size n (.slice base n cap)).run P w.drew=.ok old.toArray w.drew) (hg:cap < n+m) (h63:n+m<=maxLen) (hfit:Builtin.nextslicecap (n+m) cap * i.bytes<=281474976710656) :
  (Builtin.append_ tys ty args).run P w=.ok (.slice (some ⟨w.heap.size,0,none⟩) (n+m) (grownCap w (n+m) cap el))
    (w.drew.alloc (.cells (old.toArray++xs.toArray++Builtin.zeroCells z.cells (grownCap w (n+m) cap el - (n+m))) el)):=by
 have hn:¬ (n+m<=cap):=by omega
 have h63':¬ (9223372036854775807 < ((n:Int)+(m:Int))):=by unfold maxLen at h63; omega
 have h48':¬ (281474976710656 < Builtin.nextslicecap (n+m) cap * i.bytes):=by omega
 simp[Builtin.append_,h0,h1,a0,a1,run_underlying h2,run_underlying h3,sizeOf,typeInfo,zeroValue,hi,hz,hl,hn,h63',h48',Question.forced,hf,ho,newRow,grownCap]
 congr 2
 apply Array.ext'
 simp[List.append_assoc]
end model
theorem zhJ{el:TypeId}(hg:zcw P el=true):∃i z zv,P.info? el=some i/\i.zero=some zv/\i.size=P.cellsOf el/\i.bytes=P.bytesOf el/\1<=i.size/\1<=i.bytes/\i.bytes<=1048576/\(∀e,VR e z zv)/\zv.cells.size=i.size:=by
 unfold zcw at hg
 simp only[Bool.and_eq_true] at hg
 obtain⟨⟨⟨⟨h1,h2⟩,h3⟩,h4⟩,h5⟩:=hg;obtain⟨i,hi,hsz⟩:=zf0 h1
 cases hz:zeroV P el with
 | none=>rw[hz] at h5; cases h5
 | some z=>
  rw[hz] at h5;obtain⟨i',zv,hi',hzv,hall⟩:=zf2 hz
  rw[hi] at hi'; cases hi'
  have hby:i.bytes=P.bytesOf el:=by unfold Program.bytesOf; rw[hi]; rfl
  refine⟨i,z,zv,hi,hzv,hsz,hby,by rw[hsz]; exact Nat.le_of_ble_eq_true h2,by rw[hby]; exact Nat.le_of_ble_eq_true h3,by rw[hby]; exact Nat.le_of_ble_eq_true h4,hall,?_⟩;have h6:=Nat.eq_of_beq_eq_true h5;have h7:=(hall (⟨fun _=>none,fun _=>0,fun _=>0,#[]⟩:Env)).size (fun l hl=>zfi (by rw[hz,hl]))
  omega
theorem zhK{el:TypeId}{i:TypeInfo}{zv:Value}(hzs:zv.cells.size=i.size){h0:H}(hr:HR e h0 w)(hst:zeE e h w e h0 w){n cap':Nat}{cs:List C}{xs:List Value}(hx:zeq (CR e) cs xs)(hl:cs.length=n * i.size)
  (hge:n<=cap') (hcm:cap'<=maxLen) {s:Sem Value} {ys:Array Value} (hys:ys.toList=xs)
  (hrun:s.run P w=.ok (.slice (some ⟨w.heap.size,0,none⟩) n cap') (w.drew.alloc (.cells (ys++Builtin.zeroCells zv.cells (cap' - n)) el))) :
  Fin P e h w s (.c (.sl h0.nxt 0 n i.size none)) (zaZ h0 (.cells (n * i.size) cs true)):=by
 have hle:=Env.put_le (hr.fresh h0.nxt (Nat.le_refl _)) w.heap.size (cap' * i.size) 0
 have hsize:(ys++Builtin.zeroCells zv.cells (cap' - n)).size=cap' * i.size:=by
  rw[Array.size_append,size_zeroCells,hzs]
  have:ys.size=n * i.size:=by rw[<- Array.length_toList,hys,<- hx.length,hl]
  rw[this,<- Nat.add_mul]; congr 1; omega
 have hor:OR (e.put h0.nxt w.heap.size (cap' * i.size) 0) h0.nxt (.cells (n * i.size) cs true) (.cells (ys++Builtin.zeroCells zv.cells (cap' - n)) el):=by
  refine⟨_,el,rfl,?_,hl,?_,?_,fun hh=>by cases hh⟩
  ·rw[Array.toList_append,hys,List.take_append_of_le_length (by rw[hx.length]; exact Nat.le_refl _),hx.length,List.take_length];exact hx.mono fun _ _=>CR.mono hle
  ·rw[Env.put_sz]; exact hsize
  ·rw[hsize]; exact Nat.mul_le_mul_right _ hge
 obtain⟨a1,a2⟩:=(hr.drawn (w.drawn+1)).new (cap' * i.size) 0 hor;refine⟨_,_,_,(hst.trans (zeE.drawn (w.drawn+1))).trans a2,a1,?_,hrun⟩;exact⟨w.heap.size,0,cap',Env.put_self _ _ _ _ _,rfl,hge,hcm,.inr rfl,by rw[Env.put_sz]; omega,fun _=>⟨rfl,by rw[Env.put_sz]⟩⟩
theorem zhL{n sz:Nat}{cs:List C}{r:R}(hh:grown h n sz cs=some r):r=.val (.c (.sl h.nxt 0 n sz none)) (zaZ h (.cells (n * sz) cs true)):=by
 cases hh; rfl
theorem zhM{need cap bytes:Nat}(hg:cap < need)(hn:need * bytes<=140737488355328):Builtin.nextslicecap need cap * bytes<=281474976710656:=growslice_fits hg hn
theorem zhN{need bytes:Nat}(h:need * bytes<=140737488355328)(hb:1<=bytes):need<=140737488355328:=Nat.le_trans (Nat.le_mul_of_pos_right need hb) h
theorem zhO{l:List C}{r:List Value}(hx:zeq (CR e) l r):∀v∈r,v.oneCell'=true:=by
 induction hx with
 | nil=>intro v hv; cases hv
 | cons h1 _ ih=>
  intro v hv
  cases hv with
  | head=>exact h1.single
  | tail _ hm=>exact ih v hm
theorem HR.moved(hr:HR e h w){b:Nat}{o0:AO}{c:Nat}(hb:zaj h.t b=some o0)(hc:e.ρ b=some c){ao:AO}{co:Obj}(s t:Nat)(ho:OR (e.put h.nxt c s t) h.nxt ao co)(hl:∀r:Loop,w.heap[c]? ≠ some (Obj.loop r)) :
  HR (e.put h.nxt c s t) (zaZ (za1 h b) ao) (w.putObj c co)/\zeE e h w (e.put h.nxt c s t) (zaZ (za1 h b) ao) (w.putObj c co):=by
 have hn:=hr.fresh h.nxt (Nat.le_refl _);have hle:=Env.put_le hn c s t;have hlt:=hr.lt hb hc
 have hother:∀k,k ≠ h.nxt->(e.put h.nxt c s t).ρ k=e.ρ k:=fun k hk=>by simp[Env.put,hk]
 have hget:∀{k o'},zaj (zaZ (za1 h b) ao).t k=some o'->(k=h.nxt/\o'=ao)\/(k ≠ h.nxt/\k ≠ b/\zaj h.t k=some o'):=fun {k o'} hk=>by
  rcases zeo hk with ⟨h1,h2⟩ | ⟨h1,h2⟩
  ·exact .inl ⟨h1,h2⟩
  ·obtain⟨h3,h4⟩:=zep h2;exact .inr ⟨h1,h3,h4⟩
 have hapart:∀{k o' x},k ≠ b->zaj h.t k=some o'->e.ρ k=some x->x ≠ c:=fun {k o' x} hk hg hx hxc=>hk (hr.inj k b o' o0 c hg hb (by rw[<- hxc]; exact hx) hc)
 have hvw:Vws (e.put h.nxt c s t) (zaZ (za1 h b) ao) (w.putObj c co):=hr.vws.to hle (by simp[World.putObj]) (fun x hx=>World.putObj_heap_other fun hcc=>by
   have:=hr.vws.own b o0 c hb hc; omega) (fun k o' x hk hx=>by
  rcases hget hk with ⟨rfl,rfl⟩ | ⟨p1,p2,p3⟩
  ·rw[Env.put_self] at hx; cases hx; exact hr.vws.own b o0 _ hb hc
  ·rw[hother k p1] at hx; exact hr.vws.own k o' x p3 hx) (fun _ _ h=>h)
 refine⟨⟨fun k hk=>?_,fun k o' hk=>?_,fun k k' o1 o2 x h1 h2 h3 h4=>?_,hvw⟩,⟨hle,Nat.le_succ _,by simp[World.putObj],rfl,rfl,rfl,fun x hx hne=>?_,fun k o' x hk hx=>?_,fun x r hx=>?_,fun k hk=>hother k (by omega)⟩⟩
 ·have hk':h.nxt+1<=k:=hk;rw[hother k (by omega)];exact hr.fresh k (by omega)
 ·rcases hget hk with ⟨rfl,rfl⟩ | ⟨h1,h2,h3⟩
  ·exact⟨c,Env.put_self _ _ _ _ _,co,World.putObj_heap_same hlt,ho⟩
  ·obtain⟨cb,h4,co',h5,h6⟩:=hr.live k o' h3;exact⟨cb,hle.ρ _ _ h4,co',by rw[World.putObj_heap_other (hapart h2 h3 h4)]; exact h5,OR.mono hle h4 h6⟩
 ·rcases hget h1 with ⟨rfl,rfl⟩ | ⟨p1,p2,p3⟩ <;> rcases hget h2 with ⟨rfl,rfl⟩ | ⟨q1,q2,q3⟩
  ·rfl
  ·rw[Env.put_self] at h3; cases h3
   rw[hother k' q1] at h4;exact absurd rfl (hapart q2 q3 h4)
  ·rw[Env.put_self] at h4; cases h4
   rw[hother k p1] at h3;exact absurd rfl (hapart p2 p3 h3)
  ·rw[hother k p1] at h3; rw[hother k' q1] at h4;exact hr.inj k k' o1 o2 x p3 q3 h3 h4
 ·exact World.putObj_heap_other (fun(hcc:x=c)=>hne b o0 hb (by rw[hcc]; exact hc))
 ·rcases hget hk with ⟨rfl,rfl⟩ | ⟨p1,p2,p3⟩
  ·rw[Env.put_self] at hx; cases hx; exact .inr ⟨b,o0,hb,hc⟩
  ·rw[hother k p1] at hx; exact .inr ⟨k,o',p3,hx⟩
 ·have hxc:x ≠ c:=fun hxc=>hl r (by rw[<- hxc]; exact hx);exact⟨r,by rw[World.putObj_heap_other hxc]; exact hx⟩
theorem zhP{tys:Array TypeId}{args:Array Value}{t t2 el2 ty:TypeId}{s x:V}{s' x':Value}(h0:tys[0]? = some t)(h1:tys[1]? = some t2)(h3:P.underlying t2=some (.slice el2))
  (a0:args[0]? = some s') (a1:args[1]? = some x') (hr:HR e h w) (hs:VR e s s') (hx:VR e x x') {r:R} (hh:zcx P h t s x=some r) :
  ∃v h',r=.val v h'/\Fin P e h w (Builtin.append_ tys ty args) v h':=by
 unfold zcx at hh;obtain⟨el,htk,h4⟩:=zfA hh;have h2:=ze8 htk;obtain⟨hgo,h5⟩:=zd8 h4;obtain⟨i,z,zv,hi,hzv,hsz,hby,hs1,hb1,hb2,hzr,hzs⟩:=zhJ hgo;obtain⟨q,hq,h6⟩:=zd7 h5;obtain⟨hqm,h7⟩:=zd8 h6
 have hqb:q.1 * i.bytes<=140737488355328:=by rw[hby]; exact Nat.le_of_ble_eq_true hqm
 have hqm':=zhN hqb hb1;rw[<- hsz] at hq;obtain⟨hlen,hnl,xs,hxs,hfc⟩:=zhG (P:=P) hr hx hq
 have hxl:xs.length=q.1 * i.size:=by rw[<- hxs.length,hnl]
 have hfc0:(Builtin.firstCells i.size q.1 x').run P w=.ok xs.toArray w:=hfc w.drawn;have hfc1:(Builtin.firstCells i.size q.1 x').run P w.drew=.ok xs.toArray w.drew:=hfc (w.drawn+1)
 have hzero:∀{base:Option Addr} {n cap:Nat},s'=.slice base n cap->n<=cap->q.1=0->(Builtin.append_ tys ty args).run P w=.ok s' w:=by
  intro base n cap hse hnc hq0;subst hse;rw[hq0] at hlen hfc0 hxl;have hx0:xs=[]:=List.eq_nil_of_length_eq_zero (by simpa using hxl);subst hx0
  rw[zhH h0 h1 h2 h3 a0 a1 hi hlen hfc0 (by omega) (w':=w) (by cases base <;> rfl)]
  rfl
 unfold zcv at h7
 cases hm:q.1 with
 | zero=>
  rw[hm] at h7
  rcases zeW (show vSl s none _ _=some r from h7) with ⟨rfl,h8⟩ | ⟨b,off,n,sz,c,rfl,h8⟩
  ·cases h8
   have:s'=.slice none 0 0:=hs;subst this;exact⟨_,_,rfl,.same hr rfl (hzero rfl (Nat.le_refl _) hm)⟩
  ·cases h8
   cases c with
   | some c=>
    obtain⟨cb,sp,hc,rfl,hnc,hcm,hsp⟩:∃cb sp,e.ρ b=some cb/\s'=.slice (some ⟨cb,off,sp⟩) n c/\n<=c/\c<=maxLen/\(sp=none\/c=0):=hs;exact⟨_,_,rfl,.same hr ⟨cb,sp,hc,rfl,hnc,hcm,hsp⟩ (hzero rfl hnc hm)⟩
   | none=>
    have hs0:SlR e b off n sz s':=hs;obtain⟨cb,off',cap,hc,rfl,hnc,hcm,hoff,hfit,hst⟩:=hs;exact⟨_,_,rfl,.same hr hs0 (hzero rfl hnc hm)⟩
 | succ m'=>
  have hmp:0 < q.1:=by omega
  rw[hm] at h7;have h7':vSl s none (grown h (m'+1) (P.cellsOf el) q.2) _=some r:=h7;rw[<- hm] at h7'
  clear h7
  rcases zeW h7' with ⟨rfl,h8⟩ | ⟨b,off,n,sz,c,rfl,h8⟩
  ·-- nil
   have:s'=.slice none 0 0:=hs;subst this;have:=zhL h8;subst this;have hrun:=zhI (ty:=ty) (z:=zv) (old:=[]) h0 h1 h2 h3 a0 a1 hi hzv hlen hfc1 (by simp[Builtin.firstCells]) (by omega) (by unfold maxLen; omega) (zhM (by omega) (by rw[Nat.zero_add]; exact hqb));refine⟨_,_,rfl,?_⟩;rw[<- hsz];refine zhK (el:=el) (h0:=h) (zv:=zv) (cap':=grownCap w (0+q.1) 0 el) hzs hr (.refl _ _ _) hxs hnl (by have:=grownCap_ge w (0+q.1) 0 el; omega) (grownCap_le_maxLen w _ _ _ (by unfold maxLen; omega)) (ys:=#[]++xs.toArray) (by simp) ?_;rw[hrun]
   simp only[Nat.zero_add]
  ·obtain⟨hnm,h9⟩:=zd8 h8
   have hnb:(n+q.1) * i.bytes<=140737488355328:=by rw[hby]; exact Nat.le_of_ble_eq_true hnm
   have hnm':=zhN hnb hb1;obtain⟨bn,vs,opn,hb,h10⟩:=zeG h9
   cases c with
   | some c=>
    obtain⟨cb,sp,hc,rfl,hnc,hcm,hsp⟩:∃cb sp,e.ρ b=some cb/\s'=.slice (some ⟨cb,off,sp⟩) n c/\n<=c/\c<=maxLen/\(sp=none\/c=0):=hs;obtain⟨cur,tt,hcur,hall,hvl,hcsz,hbn,hop⟩:=hr.cells hb hc;have h11:ifB (Nat.ble (n+q.1) c) _ _=some r:=h10
    cases hroom:Nat.ble (n+q.1) c with
    | true=>
     have hroom':=Nat.le_of_ble_eq_true hroom;have:=hsp.resolve_right (by omega);subst this;rw[hroom,zd3] at h11;obtain⟨vs',hvs,h12⟩:=zd7 h11
     cases h12
     obtain⟨q1,q2⟩:=zeA _ _ _ _ hvs;rw[show Nat.add off (Nat.mul n (P.cellsOf el))=off+n * P.cellsOf el from rfl,<- hsz] at q1 q2;obtain⟨w',hst,hr',hstep⟩:=zeO (P:=P) hr hb hc hxs q1 q2;refine⟨_,_,rfl,e,w',_,hstep,hr',⟨cb,none,hc,rfl,hroom',hcm,.inl rfl⟩,?_⟩;exact zhH h0 h1 h2 h3 a0 a1 hi hlen hfc0 hroom' (by rw[<- zeJ] at hst; exact hst)
    | false=>
     have hroom':c < n+q.1:=by
      rcases Nat.lt_or_ge c (n+q.1) with hq | hq
      ·exact hq
      ·rw[Nat.ble_eq_true_of_le hq] at hroom; cases hroom
     rw[hroom,zd4] at h11;obtain⟨old,hold,h12⟩:=zd7 h11;have:=zhL h12;subst this;rw[<- hsz] at hold ⊢;obtain⟨q1,q2⟩:=zex hold;obtain⟨os,hos,hosl,hcell,_⟩:=zeK (P:=P) hr hb hc q1 q2
     have hfo:(Builtin.firstCells i.size n (.slice (some ⟨cb,off,sp⟩) n c)).run P w.drew=.ok os.toArray w.drew:=run_firstCells_some w.drew i.size n _ n c os hosl (by
      rcases hsp with hsp | hsp
      ·subst hsp; exact hcell
      ·have hn0:n=0:=by omega
       subst hn0;have:os=[]:=List.eq_nil_of_length_eq_zero (by rw[hosl]; exact Nat.zero_mul _);subst this
       intro j v hv; simp at hv)
     have hrun:=zhI (ty:=ty) (z:=zv) h0 h1 h2 h3 a0 a1 hi hzv hlen hfc1 hfo hroom' (by unfold maxLen; omega) (zhM hroom' hnb);refine⟨_,_,rfl,?_⟩;rw[zes];refine zhK (h0:=h) (zv:=zv) (n:=n+q.1) (cap':=grownCap w (n+q.1) c el) hzs hr (.refl _ _ _) (hos.app hxs) (by rw[List.length_append,hos.length,hosl,hnl,Nat.add_mul]; rfl) (grownCap_ge w _ _ _) (grownCap_le_maxLen w _ _ _ (by unfold maxLen; omega)) (ys:=os.toArray++xs.toArray) (by simp) hrun
   | none=>
    obtain⟨cb,off',cap,hc,rfl,hnc,hcm,hoff,hfit,hst⟩:SlR e b off n sz s':=hs;obtain⟨hsz2,h11⟩:=zd8 (show ifB (Nat.beq sz (P.cellsOf el)) _ none=some r from h10);obtain⟨ho0,h12⟩:=zd8 h11
    have e1:sz=i.size:=by rw[hsz]; exact Nat.eq_of_beq_eq_true hsz2
    have e2:=Nat.eq_of_beq_eq_true ho0;subst e1; subst e2;obtain⟨e3,hcapsz⟩:=hst rfl;subst e3;obtain⟨cur,tt,hcur,hall,hvl,hcsz,hbn,hop⟩:=hr.cells hb hc;have hmul:n * i.size+q.1 * i.size=(n+q.1) * i.size:=(Nat.add_mul _ _ _).symm
    cases hsp:zaH (n * i.size) q.2 vs with
    | some vs'=>
     rw[show Nat.mul n i.size=n * i.size from rfl,hsp] at h12;have h13:some (R.val (.c (.sl b 0 (n+q.1) i.size none)) (za0 h b (.cells bn vs' opn)))=some r:=h12
     cases h13
     obtain⟨q1,q2⟩:=zeA _ _ _ _ hsp
     have hroom:n+q.1<=cap:=by
      have hle:(n+q.1) * i.size<=cap * i.size:=by omega
      exact Nat.le_of_mul_le_mul_right hle hs1
     obtain⟨w',hst,hr',hstep⟩:=zeO (P:=P) hr hb hc hxs q1 q2;refine⟨_,_,rfl,e,w',_,hstep,hr',⟨cb,0,cap,hc,rfl,hroom,hcm,.inr rfl,hfit,fun _=>⟨rfl,hcapsz⟩⟩,?_⟩
     exact zhH h0 h1 h2 h3 a0 a1 hi hlen hfc0 hroom (by
      show(storeCells ((⟨cb,0,none⟩:Addr).add (n * i.size)) xs).run P w=_
      rw[zeJ,Nat.zero_add]; exact hst)
    | none=>
     rw[show Nat.mul n i.size=n * i.size from rfl,hsp] at h12;have h13:zaa (zaF (n * i.size) vs) none (fun old=>grown (za1 h b) (n+q.1) i.size (appS old q.2))=some r:=h12;obtain⟨old,hold,h14⟩:=zd7 h13;have:=zhL h14;subst this;obtain⟨q1,q2⟩:=zev _ _ _ hold;refine⟨_,_,rfl,?_⟩;rw[zes];obtain⟨os,hos,hosl,hcell,_⟩:=zeK (P:=P) hr hb hc (o:=0) (m:=n * i.size) (l:=old) (by omega) (by rw[q2,List.drop_zero])
     by_cases hroom:n+q.1<=cap
     ·have hfits:n * i.size+xs.length<=cur.size:=by
       rw[hxl,hmul,hcsz,<- hcapsz]; exact Nat.mul_le_mul_right _ hroom
      have hrun:=run_storeCells_at (P:=P) cb (n * i.size) tt xs 0 cur w hcur (by omega) (zhO hxs)
      simp only[Nat.add_zero] at hrun
      rw[zeF hcur] at hrun;have hle:=Env.put_le (hr.fresh h.nxt (Nat.le_refl _)) cb (e.sz b) 0
      have hcl:(old++q.2).length=(n+q.1) * i.size:=by rw[List.length_append,hos.length,hosl,hnl,hmul]
      have hor:OR (e.put h.nxt cb (e.sz b) 0) h.nxt (.cells ((n+q.1) * i.size) (old++q.2) true) (.cells (cur.toList.take (n * i.size)++xs++cur.toList.drop (n * i.size+xs.length)).toArray tt (0,0)):=by
       refine⟨_,tt,rfl,?_,hcl,?_,?_,fun hh=>by cases hh⟩
       ·show zeq _ _ ((cur.toList.take (n * i.size)++xs++cur.toList.drop (n * i.size+xs.length)).take (old++q.2).length)
        have hpre:(cur.toList.take (n * i.size)++xs).length=(old++q.2).length:=by
         rw[hcl,List.length_append,List.length_take,Array.length_toList,hxl]; omega
        rw[List.take_append_of_le_length (by omega),<- hpre,List.take_length]
        have h15:zeq (CR e) old (cur.toList.take (n * i.size)):=by
         have:=hall.take (n * i.size);rw[List.take_take,Nat.min_eq_left (by omega),<- q2] at this;exact this
        exact(h15.app hxs).mono fun _ _=>CR.mono hle
       ·rw[Env.put_sz]; simp; omega
       ·simp; omega
      obtain⟨b1,b2⟩:=hr.moved hb hc (e.sz b) 0 hor (fun r hx=>by rw[hcur] at hx; cases hx);refine⟨_,_,_,b2,b1,⟨cb,0,cap,Env.put_self _ _ _ _ _,rfl,hroom,hcm,.inr rfl,by show 0+cap * i.size<=(e.put h.nxt cb (e.sz b) 0).sz h.nxt; rw[Env.put_sz]; exact hfit,fun _=>⟨rfl,by show cap * i.size=(e.put h.nxt cb (e.sz b) 0).sz h.nxt; rw[Env.put_sz]; exact hcapsz⟩⟩,?_⟩
      exact zhH h0 h1 h2 h3 a0 a1 hi hlen hfc0 hroom (by
       show(storeCells ((⟨cb,0,none⟩:Addr).add (n * i.size)) xs).run P w=_
       rw[zeJ,Nat.zero_add]; exact hrun)
     ·have hroom':cap < n+q.1:=by omega
      have hfo:(Builtin.firstCells i.size n (.slice (some ⟨cb,0,none⟩) n cap)).run P w.drew=.ok os.toArray w.drew:=run_firstCells_some w.drew i.size n _ n cap os hosl hcell;have hrun:=zhI (ty:=ty) (z:=zv) h0 h1 h2 h3 a0 a1 hi hzv hlen hfc1 hfo hroom' (by unfold maxLen; omega) (zhM hroom' hnb);obtain⟨d1,d2⟩:=hr.del b;exact zhK (h:=h) (h0:=za1 h b) (zv:=zv) (n:=n+q.1) (cap':=grownCap w (n+q.1) cap el) hzs d1 d2 (hos.app hxs) (by rw[List.length_append,hos.length,hosl,hnl,Nat.add_mul]) (grownCap_ge w _ _ _) (grownCap_le_maxLen w _ _ _ (by unfold maxLen; omega)) (ys:=os.toArray++xs.toArray) (by simp) hrun
end
end Go.Abs

namespace Go.Abs
noncomputable section
variable {P:Program} {e:Env} {tm:S3 V} {h:H} {w:World} {a:Act} {o:Oper}
theorem VR.slice{x:V}{x':Value}(hx:VR e x x'){b off n s:Nat}{c:Option Nat}(he:x=.c (.sl b off n s c)) :
  ∃cb off' sp cap,e.ρ b=some cb/\x'=.slice (some ⟨cb,off',sp⟩) n cap/\(n=0\/(off'=off/\sp=none)):=by
 subst he
 cases c with
 | some c=>obtain⟨cb,sp,hc,hx,hn,_,hsp⟩:=hx; exact⟨cb,off,sp,c,hc,hx,hsp.elim (fun h=>.inr ⟨rfl,h⟩) fun h=>.inl (by omega)⟩
 | none=>obtain⟨cb,off',cap,hc,hx,_,_,hoff,_,_⟩:=hx; exact⟨cb,off',none,cap,hc,hx,hoff.elim .inl fun h=>.inr ⟨h,rfl⟩⟩
theorem zhQ{tys:Array TypeId}{args:Array Value}{t el ty:TypeId}{base:Option Addr}{n cap m:Nat}{x':Value}(h0:tys[0]? = some t)(h2:P.underlying t=some (.slice el))(a0:args[0]? = some (.slice base n cap))(a1:args[1]? = some x')
  (hk:zba P el=true) (hl:Builtin.lenOf x'=pure m) {xs:List Value} (hf:(Builtin.firstCells (P.cellsOf el) (Nat.min m n) x').run P w=.ok xs.toArray w)
  {w':World} (hst:(Option.elim base (pure ()) (fun ad=>storeCells ad xs):Sem Unit).run P w=.ok () w') :
  (Builtin.copy_ tys ty args).run P w=.ok (goInt (Nat.min m n)) w':=by
 cases base with
 | none=>
  have:w'=w:=by simp at hst; exact hst.symm
  subst this
  simp[Builtin.copy_,h0,a0,a1,run_underlying h2,zfh hk,hl,hf]
 | some ad=>
  have hst':(storeCells ad xs).run P w=.ok () w':=hst
  simp[Builtin.copy_,h0,a0,a1,run_underlying h2,zfh hk,hl,hf,hst']
theorem zhR{tys:Array TypeId}{args:Array Value}{t el ty:TypeId}{base:Option Addr}{n cap m:Nat}{x':Value}(h0:tys[0]? = some t)(h2:P.underlying t=some (.slice el))(a0:args[0]? = some (.slice base n cap))(a1:args[1]? = some x')
  (hk:zba P el=true) (hl:Builtin.lenOf x'=pure m) (hx:∃b n c,x'=.slice b n c) (hz:Nat.min m n=0):(Builtin.copy_ tys ty args).run P w=.ok (goInt 0) w:=by
 have:=zhQ (P:=P) (w:=w) (ty:=ty) (xs:=[]) (w':=w) h0 h2 a0 a1 hk hl (by
  rw[hz];obtain⟨b,k,c,rfl⟩:=hx
  cases b with
  | none=>simp[Builtin.firstCells]
  | some ad=>simp only[Builtin.firstCells,Nat.zero_mul]; exact zhE _ _) (by cases base <;> rfl)
 rw[hz] at this;exact this
theorem zhS{tys:Array TypeId}{args:Array Value}{t ty:TypeId}{s x:V}{s' x':Value}(h0:tys[0]? = some t)
  (a0:args[0]? = some s') (a1:args[1]? = some x') (hr:HR e h w) (hs:VR e s s') (hx:VR e x x') {r:R} (hh:zcy P h t s x=some r) :
  ∃v h',r=.val v h'/\Fin P e h w (Builtin.copy_ tys ty args) v h':=by
 unfold zcy at hh;obtain⟨el,htk,h4⟩:=zfA hh;have h2:=ze8 htk;obtain⟨hk,h4⟩:=zd8 h4
 rcases zeW h4 with ⟨rfl,h5⟩ | ⟨db,dd,dn,dz,dc,rfl,h5⟩
 ·-- nothing to copy to
  have:s'=.slice none 0 0:=hs;subst this;obtain⟨x0,hx0,h6⟩:=zd7 h5
  cases h6
  rcases zeW hx0 with ⟨rfl,h7⟩ | ⟨b,off,n,q,c,rfl,h7⟩
  ·have:x'=.slice none 0 0:=hx;subst this
   cases h7
   exact⟨_,_,rfl,.same hr rfl (zhR h0 h2 a0 a1 hk (m:=0) rfl ⟨_,_,_,rfl⟩ (Nat.min_zero _))⟩
  ·obtain⟨scb,soff,ssp,scap,hsc,rfl,hsoff⟩:=hx.slice rfl
   cases h7
   exact⟨_,_,rfl,.same hr rfl (zhR h0 h2 a0 a1 hk (m:=n) rfl ⟨_,_,_,rfl⟩ (Nat.min_zero _))⟩
 ·obtain⟨dcb,doff,dsp,dcap,hdc,rfl,hdoff⟩:=hs.slice rfl
  rcases zeW h5 with ⟨rfl,h6⟩ | ⟨b,off,n,q,c,rfl,h6⟩
  ·cases h6
   have:x'=.slice none 0 0:=hx;subst this;exact⟨_,_,rfl,.same hr rfl (zhR h0 h2 a0 a1 hk (m:=0) rfl ⟨_,_,_,rfl⟩ (Nat.zero_min _))⟩
  ·obtain⟨scb,soff,ssp,scap,hsc,rfl,hsoff⟩:=hx.slice rfl;have hl:Builtin.lenOf (.slice (some ⟨scb,soff,ssp⟩) n scap)=pure n:=rfl;obtain⟨p,hp,h7⟩:=zd7 h6;obtain⟨h',hh',h8⟩:=zd7 h7
   cases h8
   have hmin:ifB (Nat.ble n dn) n dn=Nat.min n dn:=by
    show _=min n dn
    cases hb:Nat.ble n dn with
    | true=>have:=Nat.le_of_ble_eq_true hb; show n=_; omega
    | false=>
     have:dn < n:=by
      rcases Nat.lt_or_ge dn n with hq | hq
      ·exact hq
      ·rw[Nat.ble_eq_true_of_le hq] at hb; cases hb
     show dn=_; omega
   rw[hmin] at hp;obtain⟨k1,k2,xs,k3,k4⟩:=zhF (P:=P) hr hp hsc;rw[k1] at hh' ⊢;obtain⟨w',hst,hr',hstep⟩:=zfv (P:=P) hr hh' k2 k3 hdc
   by_cases h00:Nat.min n dn=0
   ·have hp2:p.2=[]:=List.eq_nil_of_length_eq_zero (by rw[k2,h00,Nat.zero_mul])
    have hxs:xs=[]:=by rw[hp2] at k3; cases k3; rfl
    subst hxs
    have hww:w'=w:=by
     have:(storeCells ⟨dcb,dd,none⟩ []).run P w=.ok () w:=rfl;rw[this] at hst
     cases hst
     rfl
    subst hww;rw[h00];exact⟨_,_,rfl,e,w',_,hstep,hr',rfl,zhR h0 h2 a0 a1 hk hl ⟨_,_,_,rfl⟩ h00⟩
   ·have hd:doff=dd/\dsp=none:=by
     rcases hdoff with hq | hq
     ·subst hq; exact absurd (Nat.min_zero _) h00
     ·exact hq
    have hso:soff=off/\ssp=none:=by
     rcases hsoff with hq | hq
     ·subst hq; exact absurd (Nat.zero_min _) h00
     ·exact hq
    obtain⟨rfl,rfl⟩:=hd; obtain⟨rfl,rfl⟩:=hso;refine⟨_,_,rfl,e,w',_,hstep,hr',rfl,?_⟩;exact zhQ h0 h2 a0 a1 hk hl (k4 w.drawn) hst
theorem zhT{tys:Array TypeId}{args:Array Value}{t ty:TypeId}{x v:V}{x':Value}(h0:tys[0]? = some t)(a0:args[0]? = some x')(hr:HR e h w)(hx:VR e x x')(hh:zcz P h t x=some v) :
  ∃v',VR e v v'/\(Builtin.len_ tys ty args).run P w=.ok v' w:=by
 have hgo:∀{n:Nat} {v:V},goN n=some v->VR e v (goInt n):=fun h=>by cases h; rfl
 unfold zcz at hh
 cases hk:tk P t with
 | str=>
  rw[hk] at hh;obtain⟨s,rfl,h1⟩:=zeT hh;have:x'=.string s:=hx;subst this;exact⟨_,hgo h1,by simp[Builtin.len_,h0,a0,run_underlying (zfd hk)]⟩
 | ptr el=>
  rw[hk] at hh;have hh':TK.rec (motive:=fun _=>Option V) none (fun _=>none) none (fun _=>none) (fun _=>none) (fun n _=>goN n) (fun _ _=>none) (fun _=>none) none none (tk P el)=some v:=hh
  cases hk2:tk P el with
  | arr n el2=>
   rw[hk2] at hh';exact⟨_,hgo hh',by simp[Builtin.len_,h0,a0,run_underlying (zfe hk),run_underlying (ze9 hk2)]⟩
  | _=>rw[hk2] at hh'; cases hh'
 | sl el=>
  rw[hk] at hh
  rcases zeW hh with ⟨rfl,h1⟩ | ⟨b,off,n,s,c,rfl,h1⟩
  ·have:x'=.slice none 0 0:=hx;subst this;exact⟨_,hgo h1,by simp[Builtin.len_,h0,a0,run_underlying (ze8 hk)]⟩
  ·obtain⟨_,_,_,_,_,rfl,_⟩:=hx.slice rfl;exact⟨_,hgo h1,by simp[Builtin.len_,h0,a0,run_underlying (ze8 hk)]⟩
 | arr n el=>
  rw[hk] at hh;exact⟨_,hgo hh,by simp[Builtin.len_,h0,a0,run_underlying (ze9 hk)]⟩
 | map kt et=>
  rw[hk] at hh
  rcases zeX hh with ⟨rfl,h1⟩ | ⟨b,rfl,h1⟩
  ·have:x'=.map none:=hx;subst this;exact⟨_,hgo h1,by simp[Builtin.len_,h0,a0,run_underlying (zfa hk)]⟩
  ·obtain⟨es,clock,hb,h2⟩:=zeH h1;obtain⟨c,hc,rfl⟩:∃cr,e.ρ b=some cr/\x'=.map (some cr):=hx;obtain⟨ces,hcm,hes⟩:=hr.map hb hc
   have hl:zaI es=ces.size:=by rw[zet,hes.length,Array.length_toList]
   rw[hl] at h2;exact⟨_,hgo h2,by simp[Builtin.len_,h0,a0,run_underlying (zfa hk),MapKept.run_getObj_map hcm]⟩
 | _=>rw[hk] at hh; cases hh
theorem zhU{lt:Int->Int->Bool}{f:Value->Value->Sem Value}(hf:∀k m k' n w,(f (.int k m) (.int k' n)).run P w=.ok (.int k (if lt n m then n else m)) w) :
  ∀{vs:List V} {vs':List Value} {x v:V} {x':Value},zeq (VR e) vs vs'->VR e x x'->zcA lt vs x=some v->∃v',VR e v v'/\(vs'.foldlM f x').run P w=.ok v' w
 | _,_,x,v,x',.nil,hx,hh=>by
  have:some x=some v:=hh
  cases this
  exact⟨x',hx,rfl⟩
 | _,_,x,v,x',.cons (x:=y) (y:=y') (xs:=ys) (ys:=ys') h1 h2,hx,hh=>by
  obtain⟨k,m,rfl,h3⟩:=zeQ (show zat x none (fun k a=>zat y none fun _ b=>zcA lt ys (.c (.int k (ifB (lt b a) b a))))=some v from hh);obtain⟨k',n,rfl,h4⟩:=zeQ h3;have e1:x'=.int k m:=hx;have e2:y'=.int k' n:=h1;subst e1; subst e2
  have hif:ifB (lt n m) n m=if lt n m then n else m:=by cases lt n m <;> rfl
  rw[hif] at h4;obtain⟨v',q1,q2⟩:=zhU hf h2 (show VR e (.c (.int k (if lt n m then n else m))) (.int k (if lt n m then n else m)) from rfl) h4;refine⟨v',q1,?_⟩;rw[List.foldlM_cons,Sem.run_bind,hf];exact q2
end
end Go.Abs

namespace Go.Abs
noncomputable section
variable {P:Program} {e:Env} {tm:S3 V} {h:H} {w:World} {a:Act} {o:Oper}
def RR(P:Program)(e:Env)(h:H)(w:World)(a:Act)(o:Oper):R->Prop
 | .val v h'=>ze5 P e h w a o v h'/\(classOf o.op < 2->h'=h)
 | .call f args=>∃args':Array Value,zeq (VR e) args args'.toList/\(execOp a.eval o).run P w=(callFunc f args').run P w
 | .yield l args=>∃cl,e.ρ l=some cl/\∃args':Array Value,zeq (VR e) args args'.toList/\(execOp a.eval o).run P w=(Instr.yield cl args').run P w
 | .alts l=>∃p∈l,ze5 P e h w a o p.1 p.2
theorem RR.same{v:V}{r:R}(hh:r=.val v h/\ze5 P e h w a o v h):RR P e h w a o r:=by
 obtain⟨rfl,h1⟩:=hh;exact⟨h1,fun _=>rfl⟩
theorem RR.same'{r:R}(hh:∃v,r=.val v h/\ze5 P e h w a o v h):RR P e h w a o r:=hh.elim fun _ h=>RR.same h
theorem RR.eff{r:R}(hc:classOf o.op=2)(hh:∃v h',r=.val v h'/\ze5 P e h w a o v h'):RR P e h w a o r:=by
 obtain⟨v,h',rfl,h1⟩:=hh;exact⟨h1,fun h2=>by omega⟩
theorem zhV{args:List V}{xs:Array Value}(ha:zeq (VR e) args xs.toList){i:Nat}{x:V}(hx:args[i]? = some x):∃x',xs[i]? = some x'/\VR e x x':=by
 obtain⟨y,hy,hr⟩:=ha.get hx;exact⟨y,by rw[<- Array.getElem?_toList]; exact hy,hr⟩
theorem zhW{α β:Type}{l:List α}{c:α->List α->Option β}{r:β}(hh:zab l none c=some r):∃x xs,l=x::xs/\c x xs=some r:=by
 cases l with
 | nil=>cases hh
 | cons x xs=>exact⟨x,xs,rfl,hh⟩
theorem zhX{α β:Type}{l:List α}{z:Option β}{r:β}(hh:zab l z (fun _ _=>none)=some r):l=[]/\z=some r:=by
 cases l with
 | nil=>exact⟨rfl,hh⟩
 | cons x xs=>cases hh
theorem zhY{c:Call}{b:Builtin}(hcal:c.callee=.builtin b):classOf (.call c)=(match b with | .len=>1 | .min=>0 | .max=>0 | _=>2):=by
 obtain⟨cal,args,tys⟩:=c
 simp only at hcal
 subst hcal
 cases b <;> rfl
theorem zhZ{c:Call}{b:Builtin}(hcal:c.callee=.builtin b)(ho:o.op=.call c)(hr:HR e h w){args:List V}{xs:Array Value}(hxs:xs=c.args.map a.eval)(ha:zeq (VR e) args xs.toList){r:R}
  (h1:zcB P h b c.argTypes.toList args=some r):RR P e h w a o r:=by
 obtain⟨cs,hrun⟩:∃cs,∀w',(execOp a.eval o).run P w'=(builtin b c.argTypes o.type cs xs).run P w':=by
  refine⟨c.args.map (fun x=>match x with | .const _=>true | _=>false),fun w'=>?_⟩
  have hres:(resolve a.eval c o.type)=pure { target:=.builtin b c.argTypes o.type (c.args.map (fun x=>match x with | .const _=>true | _=>false)),args:=c.args.map a.eval }:=by
   unfold resolve;rw[hcal]
   rfl
  simp only[execOp,ho,hres,Sem.run_bind,Sem.run_pure,Result.andThen_ok,invoke,hxs]
 have hfin:∀{s:Sem Value} {v:V} {h':H},Fin P e h w s v h'->builtin b c.argTypes o.type cs xs=(do pure (.value (<- s)):Sem Next)->ze5 P e h w a o v h':=by
  intro s v h' hf hb;obtain⟨e',w',v',f1,f2,f3,f4⟩:=hf;exact⟨e',w',v',f1,f2,f3,.inl (by rw[hrun,hb]; simp[f4])⟩
 have hty:∀{i:Nat} {t:TypeId},c.argTypes.toList[i]? = some t->c.argTypes[i]? = some t:=fun hh=>by rw[<- Array.getElem?_toList]; exact hh
 cases b with
 | append=>
  obtain⟨t,r2,ht,h2⟩:=zhW (show zab c.argTypes.toList none _=some r from h1);obtain⟨t2,r3,ht2,h3⟩:=zhW h2;obtain⟨el2,hk2,h4⟩:=zfA h3;obtain⟨s,r4,hs,h5⟩:=zhW h4;obtain⟨x,r5,hx,h6⟩:=zhW h5;subst ht2; subst hs; subst hx;obtain⟨s',q1,q2⟩:=zhV ha (i:=0) (x:=s) rfl;obtain⟨x',q3,q4⟩:=zhV ha (i:=1) (x:=x) rfl;obtain⟨v,h',rfl,hf⟩:=zhP (ty:=o.type) (hty (i:=0) (by rw[ht]; rfl)) (hty (i:=1) (by rw[ht]; rfl)) (ze8 hk2) q1 q3 hr q2 q4 h6;exact⟨hfin hf rfl,fun hc=>by rw[ho,zhY hcal] at hc; simp at hc⟩
 | copy=>
  obtain⟨t,r2,ht,h2⟩:=zhW (show zab c.argTypes.toList none _=some r from h1);obtain⟨s,r4,hs,h5⟩:=zhW h2;obtain⟨x,r5,hx,h6⟩:=zhW h5;subst hs; subst hx;obtain⟨s',q1,q2⟩:=zhV ha (i:=0) (x:=s) rfl;obtain⟨x',q3,q4⟩:=zhV ha (i:=1) (x:=x) rfl;obtain⟨v,h',rfl,hf⟩:=zhS (ty:=o.type) (hty (i:=0) (by rw[ht]; rfl)) q1 q3 hr q2 q4 h6;exact⟨hfin hf rfl,fun hc=>by rw[ho,zhY hcal] at hc; simp at hc⟩
 | len=>
  obtain⟨t,r2,ht,h2⟩:=zhW (show zab c.argTypes.toList none _=some r from h1);obtain⟨x,r4,hx,h5⟩:=zhW h2;subst hx;obtain⟨x',q3,q4⟩:=zhV ha (i:=0) (x:=x) rfl;obtain⟨v,hv,rfl⟩:=ze6 h5;obtain⟨v',q5,q6⟩:=zhT (ty:=o.type) (hty (i:=0) (by rw[ht]; rfl)) q3 hr q4 hv;exact⟨hfin (.same hr q5 q6) rfl,fun _=>rfl⟩
 | min=>
  obtain⟨x,r4,hx,h5⟩:=zhW (show zab args none _=some r from h1);obtain⟨v,hv,rfl⟩:=ze6 h5;subst hx
  cases hl:xs.toList with
  | nil=>rw[hl] at ha; cases ha
  | cons x' ys=>
   rw[hl] at ha
   cases ha with
   | cons p1 p2=>
    obtain⟨v',q5,q6⟩:=zhU (P:=P) (w:=w) (f:=Builtin.min2) (fun k m k' n w=>by simp[Builtin.min2,zgf]) p2 p1 hv;exact⟨hfin (.same hr q5 (s:=Builtin.min_ c.argTypes o.type xs) (by unfold Builtin.min_; rw[hl]; exact q6)) rfl,fun _=>rfl⟩
 | max=>
  obtain⟨x,r4,hx,h5⟩:=zhW (show zab args none _=some r from h1);obtain⟨v,hv,rfl⟩:=ze6 h5;subst hx
  cases hl:xs.toList with
  | nil=>rw[hl] at ha; cases ha
  | cons x' ys=>
   rw[hl] at ha
   cases ha with
   | cons p1 p2=>
    obtain⟨v',q5,q6⟩:=zhU (P:=P) (w:=w) (lt:=fun b a=>zaU a b) (f:=Builtin.max2) (fun k m k' n w=>by simp[Builtin.max2,zgf]) p2 p1 hv;exact⟨hfin (.same hr q5 (s:=Builtin.max_ c.argTypes o.type xs) (by unfold Builtin.max_; rw[hl]; exact q6)) rfl,fun _=>rfl⟩
 | _=>cases h1
theorem zh0{l:List W}{xs:List Value}(ha:zeq (WR e) l xs):zeq (VR e) (zbZ wV l) xs:=by
 rw[zeu]
 induction ha with
 | nil=>exact .nil
 | cons h1 _ ih=>exact .cons (zfP h1) ih
theorem zh1{l:List FieldStep}:∀{t:TypeId} {x:V} {x':Value} {y:TypeId × V},zcD P l t x=some y->VR e x x'->∃y',(follow l t (.val x')).run P w=.ok (y.1,.val y') w/\VR e y.2 y':=by
 induction l with
 | nil=>intro t x x' y h1 hx; cases h1; exact⟨x',rfl,hx⟩
 | cons s l ih=>
  intro t x x' y h1 hx;have h2:ifB s.deref none (za8 (tk P s.struct) none fun fs=>zaa (atS fs s.index) none fun fl=>zaz x none fun _ cs=>zaa (zbe P fl.type cs fl.offset) none fun y=>zcD P l fl.type y)=some y:=h1
  cases hd:s.deref with
  | true=>rw[hd] at h2; cases h2
  | false=>
   rw[hd] at h2;obtain⟨fs,hk,h3⟩:=zfz (show za8 (tk P s.struct) none _=some y from h2);obtain⟨fa,hu,hfa⟩:=zfb hk;obtain⟨fl,hfl,h4⟩:=zd7 h3
   obtain⟨n,cs,rfl,h5⟩:∃n cs,x=.agg n cs/\zaa (zbe P fl.type cs fl.offset) none (fun y=>zcD P l fl.type y)=some y:=by
    cases x with
    | agg n cs=>exact⟨n,cs,rfl,h4⟩
    | _=>cases h4
   obtain⟨z,hz,h6⟩:=zd7 h5;obtain⟨xs,rfl,hxs,_⟩:=hx;obtain⟨z',hrun,hzr⟩:=zfs (P:=P) hxs hz w;obtain⟨y',hy,hyr⟩:=ih h6 hzr;refine⟨y',?_,hyr⟩
   have hfl':fa[s.index]? = some fl:=by
    have:=zey hfl;rw[<- hfa] at this
    simpa using this
   simp only[follow,Sem.run_bind,run_underlying hu,Result.andThen_ok,hfl',hd]
   simp[hrun,hy]
theorem zh2{t:TypeId}{name:String}{args:List V}{args':Array Value}(ha:zeq (VR e) args args'.toList){r:R}(h1:zcE P t name args=some r) :
  ∃g vs vs',r=.call g vs/\zeq (VR e) vs vs'.toList/\(invoke (.fn (.methodOf t name) #[]) args').run P w=(callFunc g vs').run P w:=by
 unfold zcE at h1;obtain⟨fs,hk,h2⟩:=zfz h1;obtain⟨fa,hu,_⟩:=zfb hk;obtain⟨i,hi,h3⟩:=zd7 h2;obtain⟨m,hm,h4⟩:=zd7 h3;obtain⟨q,hq,h5⟩:=zd7 h4;obtain⟨g,b⟩:=q
 cases b with
 | true=>cases h5
 | false=>
  obtain⟨xa,ra,rfl,h6⟩:∃xa ra,args=xa::ra/\zaa (zcD P m.path.toList t xa) none (fun y=>ifB (za9 P y.1) (some (.call g (y.2::ra))) none)=some r:=by
   cases args with
   | nil=>cases h5
   | cons xa ra=>exact⟨xa,ra,rfl,h5⟩
  obtain⟨y,hy,h7⟩:=zd7 h6
  have hag:za9 P y.1=true:=by
   cases hq:za9 P y.1 with
   | true=>rfl
   | false=>rw[hq] at h7; cases h7
  rw[hag] at h7;have hr:R.call g (y.2::ra)=r:=oi h7;subst hr
  have hu2:(∃fa2,P.underlying y.1=some (.struct fa2))\/∃n el,P.underlying y.1=some (.array n el):=by
   unfold za9 at hag
   cases hk2:tk P y.1 with
   | st fs2=>obtain⟨fa2,h,_⟩:=zfb hk2; exact .inl ⟨fa2,h⟩
   | arr n el=>exact .inr ⟨n,el,ze9 hk2⟩
   | _=>rw[hk2] at hag; cases hag
  obtain⟨ws,rfl⟩:∃ws:List Value,args'=ws.toArray:=⟨args'.toList,by simp⟩
  cases ws with
  | nil=>cases ha
  | cons xv rest=>
   cases ha with
   | cons hx hrest=>
    obtain⟨y',hrun,hyr⟩:=zh1 (P:=P) (w:=w) hy hx;refine⟨g,_,#[y']++rest.toArray,rfl,by simpa using zeq.cons hyr hrest,?_⟩
    have hex:(xv::rest).toArray.extract 1 (xv::rest).toArray.size=rest.toArray:=by simp
    have hfind:i.methods.find? (fun x=>x.name == name)=some m:=hm
    have hmeth:(method (P.types.size+Made.depth) t xv name).run P w=.ok (g,y') w:=by
     rw[show P.types.size+Made.depth=(P.types.size+99)+1 from rfl];unfold method
     simp only[Sem.run_bind,run_typeInfo w hi,Result.andThen_ok,hfind,hrun,hq]
     unfold receiverAt
     rcases hu2 with ⟨fa2,hu2⟩ | ⟨n,el,hu2⟩ <;> simp[run_underlying hu2,Place.get]
    have h0:(xv::rest).toArray[0]? = some xv:=by simp
    simp only[invoke,h0,Sem.run_bind,run_underlying hu,Result.andThen_ok,hex,callMethod]
    simp[hmeth]
theorem zh3{c:Call}(ho:o.op=.call c)(hr:HR e h w)(ht:TR e tm a.tmps){r:R}(h1:zcG P tm h c=some r):RR P e h w a o r:=by
 unfold zcG at h1;obtain⟨args,hargs,h2⟩:=zd7 h1;have ha:=zfR ht hargs
 cases hcal:c.callee with
 | value f=>
  rw[hcal] at h2;obtain⟨v,hv,h3⟩:=zd7 (show zaa (opd tm f) none (fun v=>vFn v none fun f x y=>zcF P args f x y)=some r from h2);obtain⟨fn,x,y,rfl,h4⟩:=zeY h3;obtain⟨fn',x',y',hfn,hfe,hx,hy⟩:∃f' a' b',FnR e fn f'/\a.eval f=.func f' a' b'/\zeq (WR e) x a'.toList/\zeq (WR e) y b'.toList:=ze4 ht hv
  cases fn with
  | func g=>
   have:fn'=.func g:=hfn;subst this
   cases h4
   refine⟨x'++c.args.map a.eval++y',?_,?_⟩
   ·rw[zes,zes,Array.toList_append,Array.toList_append,List.append_assoc];exact(zh0 hx).app (ha.app (zh0 hy))
   ·simp only[execOp,ho,resolve,hcal,hfe,Deferred.ofValue,Sem.run_bind,Sem.run_pure,Result.andThen_ok,invoke]
  | yield l=>
   obtain⟨cl,hcl,rfl⟩:∃cl,e.ρ l=some cl/\fn'=.yield cl:=hfn;obtain⟨rfl,h5⟩:=zhX (show zab x (some (R.yield l args)) (fun _ _=>none)=some r from h4)
   cases h5
   have hx':x' = #[]:=by
    apply Array.toList_inj.1
    generalize x'.toList=z at hx
    cases hx
    rfl
   subst hx';refine⟨cl,hcl,c.args.map a.eval,ha,?_⟩
   simp only[execOp,ho,resolve,hcal,hfe,Deferred.ofValue,Sem.run_bind,Sem.run_pure,Result.andThen_ok,invoke,Array.empty_append]
  | methodOf t n=>
   have:fn'=.methodOf t n:=hfn;subst this;obtain⟨rfl,h5⟩:=zhX (show zab x (zab y (zcE P t n args) fun _ _=>none) (fun _ _=>none)=some r from h4);obtain⟨rfl,h6⟩:=zhX h5
   have hnil:∀{z:Array Value},zeq (WR e) [] z.toList->z = #[]:=fun {z} hz=>by
    apply Array.toList_inj.1
    generalize z.toList=u at hz
    cases hz
    rfl
   have hx':=hnil hx;have hy':=hnil hy;subst hx' hy';obtain⟨g,vs,vs',rfl,q1,q2⟩:=zh2 (P:=P) (w:=w) ha h6;refine⟨vs',q1,?_⟩;rw[<- q2]
   simp only[execOp,ho,resolve,hcal,hfe,Deferred.ofValue,Sem.run_bind,Sem.run_pure,Result.andThen_ok,Array.empty_append]
  | _=>cases h4
 | invoke x n=>rw[hcal] at h2; cases h2
 | builtin b=>
  rw[hcal] at h2;exact zhZ hcal ho hr rfl ha h2
theorem zh4(hP:zgE P)(hr:HR e h w)(ht:TR e tm a.tmps){r:R}(h1:opR P tm h o.op=some r) :
  RR P e h w a o r/\(∀c,o.op ≠ .defer c)/\(∀cs b,o.op ≠ .select cs b):=by
 cases ho:o.op with
 | move x=>
  rw[ho] at h1;obtain⟨v,hv,rfl⟩:=ze6 (show vR h (opd tm x)=some r from h1);exact⟨⟨zfk (.inl ho) hr ht hv,fun _=>rfl⟩,by simp,by simp⟩
 | assign x=>
  rw[ho] at h1;obtain⟨v,hv,rfl⟩:=ze6 (show vR h (opd tm x)=some r from h1);exact⟨⟨zfk (.inr ho) hr ht hv,fun _=>rfl⟩,by simp,by simp⟩
 | pick c x y=>rw[ho] at h1; exact⟨.same' (zfl ho hr ht h1),by simp,by simp⟩
 | alloc t=>rw[ho] at h1; exact⟨.eff (by rw[ho]; rfl) (zfo ho hr h1),by simp,by simp⟩
 | box t x=>rw[ho] at h1; exact⟨.eff (by rw[ho]; rfl) (zfp ho hr ht h1),by simp,by simp⟩
 | build t ps=>rw[ho] at h1; exact⟨.same' (zf3 ho hr ht h1),by simp,by simp⟩
 | buildSlice t n ps=>rw[ho] at h1; exact⟨.eff (by rw[ho]; rfl) (zf4 ho hr ht h1),by simp,by simp⟩
 | insert t m k v=>rw[ho] at h1; exact⟨.eff (by rw[ho]; rfl) (zhp hP (.inr ho) hr ht h1),by simp,by simp⟩
 | load t x=>rw[ho] at h1; exact⟨.same' (zfu ho hr ht h1),by simp,by simp⟩
 | store t x y=>rw[ho] at h1; exact⟨.eff (by rw[ho]; rfl) (zfw ho hr ht h1),by simp,by simp⟩
 | nilCheck x=>rw[ho] at h1; exact⟨.same' (zfy ho hr ht h1),by simp,by simp⟩
 | binOp op t x y yt=>rw[ho] at h1; exact⟨.same' (zg2 hP ho hr ht h1),by simp,by simp⟩
 | unOp op t x=>rw[ho] at h1; exact⟨.same' (zg3 ho hr ht h1),by simp,by simp⟩
 | convert s d x=>rw[ho] at h1; exact⟨.same' (zg4 ho hr ht h1),by simp,by simp⟩
 | makeFunc f x y=>rw[ho] at h1; exact⟨.same' (zfS ho hr ht h1),by simp,by simp⟩
 | makeMap t res=>
  rw[ho] at h1
  cases res with
  | some x=>cases h1
  | none=>
   cases h1
   exact⟨⟨zfT ho hr,fun hc=>by rw[ho] at hc; exact absurd hc (by show ¬ (2 < 2); omega)⟩,by simp,by simp⟩
 | makeSlice t x y=>rw[ho] at h1; exact⟨.eff (by rw[ho]; rfl) (zf6 ho hr ht h1),by simp,by simp⟩
 | slice t x lo hi mx=>rw[ho] at h1; exact⟨.same' (zha ho hr ht h1),by simp,by simp⟩
 | fieldAddr s x f=>rw[ho] at h1; exact⟨.same' (zfD ho hr ht h1),by simp,by simp⟩
 | field s x f=>rw[ho] at h1; exact⟨.same' (zfE ho hr ht h1),by simp,by simp⟩
 | indexAddr t x i=>rw[ho] at h1; exact⟨.same' (zfH ho hr ht h1),by simp,by simp⟩
 | index t x i=>rw[ho] at h1; exact⟨.same' (zfK ho hr ht h1),by simp,by simp⟩
 | lookup t x k ok=>rw[ho] at h1; exact⟨.same' (zhh hP ho hr ht h1),by simp,by simp⟩
 | mapUpdate t m k v=>rw[ho] at h1; exact⟨.eff (by rw[ho]; rfl) (zhp hP (.inl ho) hr ht h1),by simp,by simp⟩
 | mapEntry t m k=>rw[ho] at h1; exact⟨.eff (by rw[ho]; rfl) (zhq hP ho hr ht h1),by simp,by simp⟩
 | entryStore t m k v=>rw[ho] at h1; exact⟨.eff (by rw[ho]; rfl) (zhs ho hr ht h1),by simp,by simp⟩
 | range t x=>rw[ho] at h1; exact⟨.eff (by rw[ho]; rfl) (zhy ho hr ht h1),by simp,by simp⟩
 | next it s=>
  rw[ho] at h1
  cases s with
  | true=>cases h1
  | false=>
   rcases zhD ho hr ht (show zcp tm h it=some r from h1) with ⟨v,rfl,h2⟩ | ⟨l,rfl,h2⟩
   ·exact⟨⟨h2,fun _=>rfl⟩,by simp,by simp⟩
   ·exact⟨h2,by simp,by simp⟩
 | entry it=>rw[ho] at h1; exact⟨.same' (zhB ho hr ht h1),by simp,by simp⟩
 | extract t i=>rw[ho] at h1; exact⟨.same' (zfL ho hr ht h1),by simp,by simp⟩
 | call c=>rw[ho] at h1; exact⟨zh3 ho hr ht h1,by simp,by simp⟩
 | _=>rw[ho] at h1; cases h1
end
end Go.Abs

namespace Go.Abs
noncomputable section
variable {P:Program} {e:Env} {tm:S3 V} {h:H} {w:World} {a:Act} {o:Oper}
inductive zh5:Out->Ex->S3 V->H->Prop where
 | ok (ex:Ex) (tm:S3 V) (h:H):zh5 (.ok ex tm h) ex tm h
 | l {x y:Out} {ex:Ex} {tm:S3 V} {h:H}:zh5 x ex tm h->zh5 (.or x y) ex tm h
 | r {x y:Out} {ex:Ex} {tm:S3 V} {h:H}:zh5 y ex tm h->zh5 (.or x y) ex tm h
def zh6:Out->Prop
 | .fail=>False
 | .ok _ _ _=>True
 | .or x y=>zh6 x/\zh6 y
theorem zh7{ex ex':Ex}{tm tm':S3 V}{h h':H}(hl:zh5 (.ok ex tm h) ex' tm' h'):ex'=ex/\tm'=tm/\h'=h:=by
 cases hl; exact⟨rfl,rfl,rfl⟩
theorem zh8{x y:Out}{ex:Ex}{tm:S3 V}{h:H}(hl:zh5 (.or x y) ex tm h):zh5 x ex tm h\/zh5 y ex tm h:=by
 cases hl with
 | l h=>exact .inl h
 | r h=>exact .inr h
theorem zh9{x:Out}{k:K}{ex ex':Ex}{tm tm':S3 V}{h h':H}(hl:zh5 x ex tm h)(hk:zh5 (k ex tm h) ex' tm' h'):zh5 (bind x k) ex' tm' h':=by
 induction hl with
 | ok=>exact hk
 | l _ ih=>exact .l (ih hk)
 | r _ ih=>exact .r (ih hk)
theorem zia{k:K}:∀{x:Out},zh6 (bind x k)->zh6 x/\∀ex tm h,zh5 x ex tm h->zh6 (k ex tm h)
 | .fail,hn=>hn.elim
 | .ok ex tm h,hn=>⟨trivial,fun _ _ _ hl=>by obtain⟨rfl,rfl,rfl⟩:=zh7 hl; exact hn⟩
 | .or x y,hn=>by
  have h1:=zia (x:=x) hn.1;have h2:=zia (x:=y) hn.2;exact⟨⟨h1.1,h2.1⟩,fun ex tm h hl=>(zh8 hl).elim (h1.2 ex tm h) (h2.2 ex tm h)⟩
theorem zib{α:Type}{x:Option α}{s:α->Out}(hn:zh6 (orF x s)):∃y,x=some y/\zh6 (s y):=by
 cases x with
 | none=>exact hn.elim
 | some y=>exact⟨y,rfl,hn⟩
theorem zic{α:Type}(y:α)(s:α->Out):orF (some y) s=s y:=rfl
theorem zid(P:Program)(rec:Rec)(ops:List Oper)(o:Oper)(next:Run)(tm:S3 V)(h:H) :
  zcT P rec ops o next tm h=orF (zcO ops tm o) fun t=>ifB t (orF (opR P tm h o.op) (zcS rec next o.dst tm h)) (next (zcP tm o.dst (.tup [])) h):=by
 unfold zcT zcO
 cases o.guard <;> rfl
theorem zie(P:Program)(rec:Rec)(ops:List Oper)(d:DI)(next:zdo)(tm:S3 V)(h:H)(hs:List (Nat × H))(rs:List RE) :
  zdu P rec ops d next tm h hs rs=orF (zcO ops tm d.o) fun t=>ifB t (orF (opR P tm h d.o.op) (onD P rec next d tm h hs rs)) (zds P next d tm h hs rs):=by
 unfold zdu zcO
 cases d.o.guard <;> rfl
theorem zif{P:Program}{rec:Rec}{ops:List Oper}{b:Nat}{d:DI}{k:Nat}(hf:d.flt=some k)(next:zdo)(tm:S3 V)(h:H)(hs:List (Nat × H))(rs:List RE) :
  zdw P rec ops b d next tm h hs rs=orF (zcO ops tm d.o) fun t=>ifB t (zdv P b d k next tm h hs rs) (zdp P next d tm h hs rs (.tup []) h):=by
 unfold zdw zcO;rw[hf]
 cases d.o.guard <;> rfl
theorem VR.undef(e:Env):VR e (.tup []) undef:=⟨#[],rfl,.nil⟩
theorem zig(tm:S3 V)(t:Nat)(v:V):zcP tm (some t) v=zah tm t v:=rfl
theorem TR.put(ht:TR e tm a.tmps){v:V}{v':Value}(hv:VR e v v'){d:Option Tmp}(hd:∀t,d=some t->t < a.tmps.size):TR e (zcP tm d v) (a.put d v').tmps/\(a.put d v').tmps.size=a.tmps.size/\(a.put d v').defers=a.defers:=by
 cases d with
 | none=>exact⟨ht,rfl,rfl⟩
 | some t=>
  refine⟨fun t' x hx=>?_,by simp[Act.put],rfl⟩;rw[zig] at hx;have hlt:=hd t rfl
  show VR e x ((a.tmps.setIfInBounds t v').getD t' Go.undef)
  rcases zen hx with ⟨rfl,rfl⟩ | ⟨hne,hx'⟩
  ·rw[Array.getD_eq_getD_getElem?,Array.getElem?_setIfInBounds_self_of_lt hlt]; exact hv
  ·rw[Array.getD_eq_getD_getElem?,Array.getElem?_setIfInBounds_ne (Ne.symm hne),<- Array.getD_eq_getD_getElem?]; exact ht t' x hx'
theorem zih{ops:Array Oper}(ht:TR e tm a.tmps){t:Bool}(hw:zcO ops.toList tm o=some t):Region.wanted o (yielded ops a.tmps)=t:=by
 unfold zcO at hw;unfold Region.wanted
 cases hg:o.guard with
 | none=>rw[hg] at hw; cases hw; rfl
 | some g=>
  obtain⟨j,want⟩:=g;rw[hg] at hw;have hw':zcN ops.toList tm j want=some t:=hw;unfold zcN at hw'
  show(yielded ops a.tmps j == some want)=t
  unfold yielded
  cases hj:ops[j]? with
  | none=>
   have:atS ops.toList j=none:=by
    cases hs:atS ops.toList j with
    | none=>rfl
    | some x=>have:=zey hs; rw[Array.getElem?_toList,hj] at this; cases this
   rw[this] at hw'
   cases hw'
   rfl
  | some p=>
   cases hs:atS ops.toList j with
   | none=>
    exfalso
    have hlt:j < ops.toList.length:=by
     have:=(Array.getElem?_eq_some_iff.1 hj).1
     simpa using this
    have:∀(l:List Oper) (j:Nat),j < l.length->atS l j ≠ none:=by
     intro l
     induction l with
     | nil=>intro j hj; exact absurd hj (Nat.not_lt_zero _)
     | cons x xs ih=>
      intro j hj
      cases j with
      | zero=>intro hc; cases hc
      | succ j=>exact ih j (by simpa using hj)
    exact this _ _ hlt hs
   | some q=>
    have:=zey hs;rw[Array.getElem?_toList,hj] at this
    cases this
    rw[hs] at hw'
    cases hd:p.dst with
    | none=>
     have:(some false:Option Bool)=some t:=by simpa [zd6,hd,zd5] using hw'
     cases this
     simp[hd]
    | some d=>
     have h2:zaa (zag tm d) none (fun v=>some (zav v false fun b=>zbs b want))=some t:=by simpa [zd6,hd] using hw'
     obtain⟨v,hv,h3⟩:=zd7 h2
     cases h3
     have hvr:=ht d v hv
     simp only[hd,Option.bind_some]
     cases hx:a.tmps[d]? with
     | none=>
      rw[Array.getD_eq_getD_getElem?,hx] at hvr;have hvr':VR e v undef:=hvr
      cases v with
      | c x=>
       cases x with
       | bool b=>cases (show undef=.bool b from hvr')
       | _=>rfl
      | _=>rfl
     | some x=>
      rw[Array.getD_eq_getD_getElem?,hx] at hvr;have hvr':VR e v x:=hvr
      cases v with
      | c y=>
       cases y with
       | bool b=>
        have:x=.bool b:=hvr';subst this
        show(some b == some want)=zbs b want
        rw[zgu]
        cases b <;> cases want <;> rfl
       | sl b o n s c=>
        have hs:=CR.single (c:=.sl b o n s c) hvr';obtain⟨_,_,_,_,_,rfl,_⟩:=(show VR e (.c (.sl b o n s c)) x from hvr').slice rfl
        rfl
       | ptr b o=>obtain⟨_,_,rfl⟩:=hvr'; rfl
       | map r=>obtain⟨_,_,rfl⟩:=hvr'; rfl
       | fn f p q=>obtain⟨_,_,_,_,rfl,_⟩:=hvr'; rfl
       | _=>cases hvr'; rfl
      | agg n l=>obtain⟨_,rfl,_⟩:=hvr'; rfl
      | tup l=>obtain⟨_,rfl,_⟩:=hvr'; rfl
def zii(ro:Option Nat):Fence:={ Fence.wide with round:=ro }
def zij(e:Env)(h:H)(w:World)(out:Out):Ending->World->Prop:=fun en w'=>
 ∃v v' tm' e' h',en=.returned v'/\zh5 out (.val v) tm' h'/\zeE e h w e' h' w'/\HR e' h' w'/\VR e' v v'
def zik(ro:Option Nat)(w:World):Prop:=∀l,ro=some l->∃r,w.heap[l]? = some (Obj.loop r)
theorem zik.step{ro:Option Nat}{e':Env}{h':H}{w':World}(hk:zik ro w)(hs:zeE e h w e' h' w'):zik ro w':=fun l hl=>by
 obtain⟨r,hr⟩:=hk l hl;exact hs.loops l r hr
def zil(r:Nat):Deferred:={ target:=.collected r,args:=#[] }
structure Inv (e0:Env) (h0:H) (w0:World) (N:Nat) (tm:S3 V) (h:H) (a:Act) (w:World):Prop where
 ex:∃e,zeE e0 h0 w0 e h w/\HR e h w/\TR e tm a.tmps/\∃ms:List Nat,a.defers=ms.map zil/\ms.Nodup/\∀r∈ms,w0.heap.size<=r/\w.heap[r]? = some (.deferred (some []))/\∀b o,zaj h.t b=some o->e.ρ b ≠ some r
 size:a.tmps.size=N
def ExR:Ex->Exit->Prop
 | .nrm,x=>x=.normal
 | .exit id,x=>x=.exit id
 | .ret,x=>x=.ret
 | .val _,_=>False
def zim(e0:Env)(h0:H)(w0:World)(N:Nat)(out:Out):Exit->Act->World->Prop:=fun x a' w'=>
 ∃ex tm' h',zh5 out ex tm' h'/\ExR ex x/\Inv e0 h0 w0 N tm' h' a' w'
def zin(F:Fence)(n:Nat)(P:Program)(c:Code)(Q:Exit->Act->World->Prop)(a:Act)(w:World):Prop:=
 ∀(b:Frame) (k:List Item) (cs:List Frame),b.roundOf=F.round->F.fn b.fn->F.room (cs.length+1+n) ->
  ∃e a' w',Q e a' w'/\ArrivesIn (Machine.fenced P F) P (lone (b.atR a (.code c :: .inLoop c::k)) cs w) b k cs e a' w'
theorem zio{F:Fence}{n:Nat}{c:Code}{Q:Exit->Act->World->Prop}(hh:c.wpIn F n P (Exit.then (zin F n P c Q) Q) a w):zin F n P c Q a w:=by
 intro b k cs hro hb hr;obtain⟨e,a₁,w₁,hq,harr⟩:=hh b (.inLoop c::k) cs hro hb hr
 cases e with
 | normal=>
  obtain⟨e₂,a₂,w₂,hq₂,harr₂⟩:=hq b k cs hro hb hr;exact⟨e₂,a₂,w₂,hq₂,.of_steps (StepsIn.trans harr (.one (fenced_calm hb hr rfl) stepR_inLoop)) harr₂⟩
 | exit id=>exact⟨_,a₁,w₁,hq,.pass (x:=.inLoop c) rfl (fun _ _=>.inl (by simp)) harr⟩
 | goto l=>exact⟨_,a₁,w₁,hq,.pass (x:=.inLoop c) rfl (fun _ _=>.inl (by simp)) harr⟩
 | ret=>exact⟨_,a₁,w₁,hq,.pass (x:=.inLoop c) rfl (fun _ _=>.inl (by simp)) harr⟩
 | panic ch=>exact⟨_,a₁,w₁,hq,.pass (x:=.inLoop c) rfl (fun _ _=>.inl (by simp)) harr⟩
 | outgrown=>exact⟨_,a₁,w₁,hq,.pass (x:=.inLoop c) rfl (fun _ _=>.inl (by simp)) harr⟩
theorem ziq{F:Fence}{n:Nat}{c:Code}{Q:Exit->Act->World->Prop}(hh:zin F n P c Q a w):(Code.loop c).wpIn F n P Q a w:=by
 intro b k cs hro hb hr;obtain⟨e,a',w',hq,harr⟩:=hh b k cs hro hb hr;exact⟨e,a',w',hq,.of_steps (.one (fenced_calm hb hr rfl) stepR_loop) harr⟩
structure zir (P:Program) (rec:Rec):Prop where
 call:∀f args tm h e w (args':Array Value),HR e h w->zeq (VR e) args args'.toList->zh6 (rec (.call f args) tm h) ->
  (∃ fn, P.funcs[f]? = some fn ∧ fn.body.isNone = false ∧ (fn.name == "runtime.NumGoroutine") = false) ∧ ∀ n, CallsIn Fence.wide n P f args' w (zij e h w (rec (.call f args) tm h))
 yield:∀l args tm h e w cl (args':Array Value),e.ρ l=some cl->HR e h w->zeq (VR e) args args'.toList->zh6 (rec (.yield l args) tm h) ->
  ∃fn tmps assign body,(Instr.yield cl args').run P w=.ok (.round cl fn tmps assign body) w/\∀n,RoundIn Fence.wide n P cl fn tmps assign body w (zij e h w (rec (.yield l args) tm h))
 loop:∀c tm h e0 h0 w0 N ro a w n,zik ro w0->slotsOk N c=true->Inv e0 h0 w0 N tm h a w->zh6 (rec (.loop c) tm h)->zin (zii ro) n P c (zim e0 h0 w0 N (rec (.loop c) tm h)) a w
 jump:∀c tm h e0 h0 w0 N ro a w n,zik ro w0->slotsOk N c=true->Inv e0 h0 w0 N tm h a w->zh6 (rec (.jump c) tm h)->c.wpIn (zii ro) n P (zim e0 h0 w0 N (rec (.jump c) tm h)) a w
theorem zis{ro:Option Nat}(hd:∀c,o.op ≠ .defer c):o.semAt ro a.eval=execOp a.eval o:=Oper.semAt_eq _ _ _ hd
theorem zit{ro:Option Nat}{n:Nat}{v:V}{h':H}{K:Act->World->Prop}{Q:Exit->Act->World->Prop}(hd:∀c,o.op ≠ .defer c)(hok:ze5 P e h w a o v h')
  (hK:∀e' w' v',zeE e h w e' h' w'->HR e' h' w'->VR e' v v'->K (a.put o.dst v') w'):o.wpIn (zii ro) n P a w K Q:=by
 obtain⟨e',w',v',h1,h2,h3,h4⟩:=hok;refine⟨fun _ _=>trivial,?_⟩;rw[zis hd]
 rcases h4 with h4 | ⟨h4,rfl⟩
 ·rw[h4,Oper.uponIn_value]; exact hK e' w' v' h1 h2 h3
 ·rw[h4,Oper.uponIn_skip]; exact hK e' w' _ h1 h2 h3
theorem ziu {f : FuncId} {args : Array Value} {fn : Func} (hf : P.funcs[f]? = some fn) (hb : fn.body.isNone = false) (hn : (fn.name == "runtime.NumGoroutine") = false) (w : World) : (callFunc f args).run P w = .ok (.enter f args) w := by
 have hn' : fn.name ≠ "runtime.NumGoroutine" := by simpa using hn
 have hb':fn.body ≠ none:=by intro hc; rw[hc] at hb; cases hb
 simp[callFunc,hf,hb',hn']
theorem ziv{rec:Rec}(hs:zir P rec){ro:Option Nat}{n:Nat}{f:FuncId}{args:List V}{tm1:S3 V}{K:Act->World->Prop}{Q:Exit->Act->World->Prop}(hr:HR e h w)(hd:∀c,o.op ≠ .defer c)
  (hok:RR P e h w a o (.call f args)) (hn:zh6 (rec (.call f args) tm1 h))
  (hK:∀v tm' h' e' w' v',zh5 (rec (.call f args) tm1 h) (.val v) tm' h'->zeE e h w e' h' w'->HR e' h' w'->VR e' v v'->K (a.put o.dst v') w'):o.wpIn (zii ro) n P a w K Q:=by
 obtain⟨args',ha,hrun⟩:=hok;obtain⟨⟨fn,hf,hb,hnm⟩,hc⟩:=hs.call f args tm1 h e w args' hr ha hn;refine⟨fun _ _=>trivial,?_⟩;rw[zis hd,hrun,ziu hf hb hnm,Oper.uponIn_enter];refine⟨fun hx=>absurd hx (by simp[zii,Fence.wide]),CallsIn.mono (hc (n - 1)) fun en w' hp=>?_⟩;obtain⟨v,v',tm',e',h',rfl,q1,q2,q3,q4⟩:=hp;exact hK v tm' h' e' w' v' q1 q2 q3 q4
theorem ziw{rec:Rec}(hs:zir P rec){ro:Option Nat}{n:Nat}{l:Nat}{args:List V}{tm1:S3 V}{K:Act->World->Prop}{Q:Exit->Act->World->Prop}(hr:HR e h w)(hd:∀c,o.op ≠ .defer c)
  (hok:RR P e h w a o (.yield l args)) (hn:zh6 (rec (.yield l args) tm1 h))
  (hK:∀v tm' h' e' w' v',zh5 (rec (.yield l args) tm1 h) (.val v) tm' h'->zeE e h w e' h' w'->HR e' h' w'->VR e' v v'->K (a.put o.dst v') w'):o.wpIn (zii ro) n P a w K Q:=by
 obtain⟨cl,hcl,args',ha,hrun⟩:=hok;obtain⟨fn,tmps,assign,body,hy,hc⟩:=hs.yield l args tm1 h e w cl args' hcl hr ha hn;refine⟨fun _ _=>trivial,?_⟩;rw[zis hd,hrun,hy,Oper.uponIn_round];refine⟨fun hx=>absurd hx (by simp[zii,Fence.wide]),RoundIn.mono (hc (n - 1)) fun en w' hp=>?_⟩;obtain⟨v,v',tm',e',h',rfl,q1,q2,q3,q4⟩:=hp;exact hK v tm' h' e' w' v' q1 q2 q3 q4
end
end Go.Abs

namespace Go.Abs
noncomputable section
variable {P:Program} {e:Env} {tm:S3 V} {h:H} {w:World} {a:Act} {o:Oper}
variable {e0:Env} {h0:H} {w0:World} {N:Nat} {ro:Option Nat} {n:Nat}
def zix(e:Env)(h:H)(w0 w:World)(ds:List Deferred):Prop:=
 ∃ms:List Nat,ds=ms.map zil/\ms.Nodup/\∀r∈ms,w0.heap.size<=r/\w.heap[r]? = some (.deferred (some []))/\∀b o,zaj h.t b=some o->e.ρ b ≠ some r
theorem zix.step{ds:List Deferred}(hm:zix e h w0 w ds){e':Env}{h':H}{w':World}(hs:zeE e h w e' h' w'):zix e' h' w0 w' ds:=by
 obtain⟨ms,h1,h2,h3⟩:=hm;refine⟨ms,h1,h2,fun r hr=>?_⟩;obtain⟨q1,q2,q3⟩:=h3 r hr;have hlt:r < w.heap.size:=(Array.getElem?_eq_some_iff.1 q2).1;refine⟨q1,by rw[hs.keep r hlt q3]; exact q2,fun b o hb hc=>?_⟩
 rcases hs.org b o r hb hc with h4 | ⟨b0,o0,h5,h6⟩
 ·omega
 ·exact q3 b0 o0 h5 h6
theorem Inv.mk'(hst:zeE e0 h0 w0 e h w)(hr:HR e h w)(ht:TR e tm a.tmps)(hm:zix e h w0 w a.defers)(hN:a.tmps.size=N):Inv e0 h0 w0 N tm h a w:=⟨⟨e,hst,hr,ht,hm⟩,hN⟩
theorem Inv.out(hi:Inv e0 h0 w0 N tm h a w):∃e,zeE e0 h0 w0 e h w/\HR e h w/\TR e tm a.tmps/\zix e h w0 w a.defers/\a.tmps.size=N:=
 let ⟨e,h1,h2,h3,h4⟩:=hi.ex; ⟨e,h1,h2,h3,h4,hi.size⟩
theorem Inv.put(hst:zeE e0 h0 w0 e h w)(ht:TR e tm a.tmps)(hm:zix e h w0 w a.defers)(hN:a.tmps.size=N){e':Env}{h':H}{w':World}{v:V}{v':Value}
  (hs:zeE e h w e' h' w') (hr':HR e' h' w') (hv:VR e' v v') {d:Option Tmp} (hd:∀t,d=some t->t < N):Inv e0 h0 w0 N (zcP tm d v) h' (a.put d v') w':=by
 obtain⟨p1,p2,p3⟩:=(TR.mono hs.le ht).put hv (d:=d) (fun t h=>by rw[hN]; exact hd t h);exact .mk' (hst.trans hs) hr' p1 (by rw[p3]; exact hm.step hs) (by rw[p2]; exact hN)
theorem ziy{next:Run}{d:Option Nat}:∀{l:List (V × H)},zh6 (zcR next d tm l)->∀p∈l,zh6 (next (zcP tm d p.1) p.2)/\∀ex tm' h',zh5 (next (zcP tm d p.1) p.2) ex tm' h'->zh5 (zcR next d tm l) ex tm' h'
 | [],_,p,hp=>by cases hp
 | [q],hn,p,hp=>by
  rw[List.mem_singleton] at hp;subst hp;exact⟨hn,fun _ _ _ h=>h⟩
 | q::q2::r,hn,p,hp=>by
  have hn':zh6 (next (zcP tm d q.1) q.2)/\zh6 (zcR next d tm (q2::r)):=hn
  rcases List.mem_cons.1 hp with rfl | hp
  ·exact⟨hn'.1,fun _ _ _ h=>.l h⟩
  ·obtain⟨k1,k2⟩:=ziy hn'.2 p hp;exact⟨k1,fun ex tm' h' h=>.r (k2 ex tm' h' h)⟩
theorem ziz{rec:Rec}(hs:zir P rec){K:Act->World->Prop}{Q:Exit->Act->World->Prop}{next:Run}(hd:∀c,o.op ≠ .defer c)
  (hst:zeE e0 h0 w0 e h w) (hr:HR e h w) (ht:TR e tm a.tmps) (hm:zix e h w0 w a.defers) (hN:a.tmps.size=N) (hdst:∀t,o.dst=some t->t < N) {r:R} (hok:RR P e h w a o r) (hn:zh6 (zcS rec next o.dst tm h r))
  (hK:∀tm' h' a' w',zh6 (next tm' h')->(∀ex tm2 h2,zh5 (next tm' h') ex tm2 h2->zh5 (zcS rec next o.dst tm h r) ex tm2 h2)->Inv e0 h0 w0 N tm' h' a' w'->K a' w'):o.wpIn (zii ro) n P a w K Q:=by
 have hin:∀{e':Env} {h':H} {w':World} {v:V} {v':Value},zeE e h w e' h' w'->HR e' h' w'->VR e' v v'->Inv e0 h0 w0 N (zcP tm o.dst v) h' (a.put o.dst v') w':=fun q1 q2 q3=>Inv.put hst ht hm hN q1 q2 q3 hdst
 cases r with
 | val v h'=>
  exact zit hd hok.1 fun e' w' v' q1 q2 q3=>hK _ _ _ _ hn (fun _ _ _ hl=>hl) (hin q1 q2 q3)
 | call f args=>
  obtain⟨n1,n2⟩:=zia (show zh6 (bind (rec (.call f args) e3 h) (zcQ next o.dst tm)) from hn);exact ziv hs hr hd hok n1 fun v tm' h' e' w' v' q0 q1 q2 q3=>hK _ _ _ _ (n2 _ _ _ q0) (fun ex tm2 h2 hl=>zh9 q0 hl) (hin q1 q2 q3)
 | yield l args=>
  obtain⟨n1,n2⟩:=zia (show zh6 (bind (rec (.yield l args) e3 h) (zcQ next o.dst tm)) from hn);exact ziw hs hr hd hok n1 fun v tm' h' e' w' v' q0 q1 q2 q3=>hK _ _ _ _ (n2 _ _ _ q0) (fun ex tm2 h2 hl=>zh9 q0 hl) (hin q1 q2 q3)
 | alts l=>
  obtain⟨p,hp,hok⟩:=hok;obtain⟨k1,k2⟩:=ziy hn p hp;exact zit hd hok fun e' w' v' q1 q2 q3=>hK _ _ _ _ k1 k2 (hin q1 q2 q3)
theorem ziA(hP:zgE P){rec:Rec}(hs:zir P rec){ops:Array Oper}{Q:Exit->Act->World->Prop}:∀{l:List Oper} {is:List Nat} {tm:S3 V} {h:H} {a:Act} {w:World},zeq (fun o i=>ops[i]? = some o) l is ->
  (∀o∈l,∀t,o.dst=some t->t < N)->Inv e0 h0 w0 N tm h a w->zh6 (zcU P rec ops.toList l tm h) ->
  (∀tm' h' a' w',zh5 (zcU P rec ops.toList l tm h) .nrm tm' h'->Inv e0 h0 w0 N tm' h' a' w'->Q .normal a' w')->wpOpsIn (zii ro) n P ops Q is a w
 | _,_,tm,h,a,w,.nil,_,hi,_,hQ=>hQ tm h a w (.ok _ _ _) hi
 | _,_,tm,h,a,w,.cons (x:=o) (y:=i) (xs:=l) (ys:=is) ho hl,hd,hi,hn,hQ=>by
  rw[wpOpsIn_cons];unfold wpOpIn
  simp only[ho]
  have heq:zcU P rec ops.toList (o::l) tm h=zcT P rec ops.toList o (zcU P rec ops.toList l) tm h:=rfl;rw[heq,zid] at hn hQ;obtain⟨t,hw,h1⟩:=zib hn;rw[hw,zic] at hQ;obtain⟨e,hst,hr,ht,hm,hN⟩:=hi.out;rw[zih ht hw]
  cases t with
  | true=>
   simp only[if_true]
   obtain⟨r,hop,h2⟩:=zib (show zh6 (orF (opR P tm h o.op) (zcS rec (zcU P rec ops.toList l) o.dst tm h)) from h1);have hQ':∀tm' h' a' w',zh5 (orF (opR P tm h o.op) (zcS rec (zcU P rec ops.toList l) o.dst tm h)) .nrm tm' h'->Inv e0 h0 w0 N tm' h' a' w'->Q .normal a' w':=hQ;rw[hop,zic] at hQ';obtain⟨k1,k2,_⟩:=zh4 (a:=a) hP hr ht hop
   exact ziz hs k2 hst hr ht hm hN (hd o (List.mem_cons_self ..)) k1 h2 fun tm' h' a' w' q1 q2 q3=>
    ziA hP hs hl (fun o' ho'=>hd o' (List.mem_cons_of_mem _ ho')) q3 q1 fun tm2 h2 a2 w2 q4 q5=>hQ' _ _ _ _ (q2 _ _ _ q4) q5
  | false=>
   simp only[Bool.false_eq_true,if_false]
   refine⟨fun _ _=>trivial,?_⟩;exact ziA hP hs hl (fun o' ho'=>hd o' (List.mem_cons_of_mem _ ho')) (Inv.put hst ht hm hN (.refl e h w) hr (VR.undef e) (hd o (List.mem_cons_self ..))) h1 hQ
theorem ziB{α:Type}(l:Array α):zeq (fun o i=>l[i]? = some o) l.toList (List.range l.size):=by
 have key:∀(xs:List α) (k:Nat),(∀i x,xs[i]? = some x->l[k+i]? = some x)->zeq (fun o i=>l[i]? = some o) xs (List.range' k xs.length):=by
  intro xs
  induction xs with
  | nil=>intro k _; exact .nil
  | cons x xs ih=>
   intro k hk;rw[List.length_cons,List.range'_succ];refine .cons (hk 0 x rfl) (ih (k+1) fun i y hy=>?_);have:=hk (i+1) y (by simpa using hy);rw[show k+1+i=k+(i+1) by omega];exact this
 have:=key l.toList 0 (fun i x hx=>by rw[Nat.zero_add,<- Array.getElem?_toList]; exact hx);rw[List.range_eq_range',<- Array.length_toList];exact this
theorem ziC(hP:zgE P){rec:Rec}(hs:zir P rec){ops:Array Oper}{id:Nat}(hd:∀o∈ops.toList,∀t,o.dst=some t->t < N)(hi:Inv e0 h0 w0 N tm h a w)
  (hn:zh6 (zcU P rec ops.toList ops.toList tm h)):(Code.region id ops false).wpIn (zii ro) n P (zim e0 h0 w0 N (zcU P rec ops.toList ops.toList tm h)) a w:=
 wpIn_region (ziA hP hs (ziB ops) hd hi hn fun tm' h' _ _ hl hi'=>⟨.nrm,tm',h',hl,rfl,hi'⟩)
end
end Go.Abs

namespace Go.Abs
noncomputable section
variable {P:Program} {tm tm':S3 V} {h h2:H}
theorem ziD{α β:Type}{f g:α->Option β}:∀{l:List α},(∀x∈l,f x=g x)->zaE f l=zaE g l
 | [],_=>rfl
 | x::xs,hh=>by
  show zaa (f x) none (fun y=>zaa (zaE f xs) none fun ys=>some (y::ys))=zaa (g x) none (fun y=>zaa (zaE g xs) none fun ys=>some (y::ys))
  rw[hh x (List.mem_cons_self ..),ziD fun y hy=>hh y (List.mem_cons_of_mem _ hy)]
theorem ziE{op:Op}(hh:∀x∈op.operands,opd tm x=opd tm' x):opR P tm h op=opR P tm' h op:=by
 cases op with
 | move x=>have h1:=hh x (by simp[Op.operands]); show vR h (opd tm x)=vR h (opd tm' x); rw[h1]
 | assign x=>have h1:=hh x (by simp[Op.operands]); show vR h (opd tm x)=vR h (opd tm' x); rw[h1]
 | pick c x y=>
  have h1:=hh c (by simp[Op.operands]); have h2:=hh x (by simp[Op.operands]); have h3:=hh y (by simp[Op.operands])
  show zbK tm h c x y=zbK tm' h c x y
  unfold zbK; rw[h1,h2,h3]
 | box t x=>have h1:=hh x (by simp[Op.operands]); show zbM tm h x=zbM tm' h x; unfold zbM; rw[h1]
 | build t ps=>
  have h1:zaE (zbN tm) ps.toList=zaE (zbN tm') ps.toList:=ziD fun p hp=>by
   have:=hh p.2 (by simp only[Op.operands,List.mem_toArray]; exact List.mem_map.2 ⟨p,hp,rfl⟩);unfold zbN; rw[this]
  show zbP P tm h t ps=zbP P tm' h t ps
  unfold zbP; rw[h1]
 | buildSlice t n ps=>
  have h1:zaE (zbN tm) ps.toList=zaE (zbN tm') ps.toList:=ziD fun p hp=>by
   have:=hh p.2 (by simp only[Op.operands,List.mem_toArray]; exact List.mem_map.2 ⟨p,hp,rfl⟩);unfold zbN; rw[this]
  show zbR P tm h t n ps=zbR P tm' h t n ps
  unfold zbR; rw[h1]
 | insert t m k v=>
  have h1:=hh m (by simp[Op.operands]); have h2:=hh k (by simp[Op.operands]); have h3:=hh v (by simp[Op.operands])
  show zci P tm h t m k v=zci P tm' h t m k v
  unfold zci; rw[h1,h2,h3]
 | mapUpdate t m k v=>
  have h1:=hh m (by simp[Op.operands]); have h2:=hh k (by simp[Op.operands]); have h3:=hh v (by simp[Op.operands])
  show zci P tm h t m k v=zci P tm' h t m k v
  unfold zci; rw[h1,h2,h3]
 | load t x=>have h1:=hh x (by simp[Op.operands]); show zbS P tm h t x=zbS P tm' h t x; unfold zbS; rw[h1]
 | store t x y=>
  have h1:=hh x (by simp[Op.operands]); have h2:=hh y (by simp[Op.operands])
  show zbT P tm h t x y=zbT P tm' h t x y
  unfold zbT; rw[h1,h2]
 | nilCheck x=>have h1:=hh x (by simp[Op.operands]); show zbV tm h x=zbV tm' h x; unfold zbV; rw[h1]
 | binOp op t x y yt=>
  have h1:=hh x (by simp[Op.operands]); have h2:=hh y (by simp[Op.operands])
  show zbW P tm h op t x y=zbW P tm' h op t x y
  unfold zbW; rw[h1,h2]
 | unOp op t x=>have h1:=hh x (by simp[Op.operands]); show zbX tm h op x=zbX tm' h op x; unfold zbX; rw[h1]
 | convert s d x=>have h1:=hh x (by simp[Op.operands]); show zbY P tm h s d x=zbY P tm' h s d x; unfold zbY; rw[h1]
 | makeFunc f x y=>
  have h1:zaE (zb0 tm) x.toList=zaE (zb0 tm') x.toList:=ziD fun p hp=>by
   have:=hh p (by simp only[Op.operands,Array.mem_append]; exact .inl (Array.mem_toList_iff.1 hp));unfold zb0; rw[this]
  have h2:zaE (zb0 tm) y.toList=zaE (zb0 tm') y.toList:=ziD fun p hp=>by
   have:=hh p (by simp only[Op.operands,Array.mem_append]; exact .inr (Array.mem_toList_iff.1 hp));unfold zb0; rw[this]
  show zb2 tm h f x y=zb2 tm' h f x y
  unfold zb2; rw[h1,h2]
 | makeSlice t x y=>
  have h1:=hh x (by simp[Op.operands]); have h2:=hh y (by simp[Op.operands])
  show zb3 P tm h t x y=zb3 P tm' h t x y
  unfold zb3; rw[h1,h2]
 | slice t x lo hi mx=>
  have h1:=hh x (by simp[Op.operands])
  have h2:∀d,zb4 tm d lo=zb4 tm' d lo:=fun d=>by
   cases lo with
   | none=>rfl
   | some p=>have:=hh p (by simp[Op.operands]); unfold zb4; simp only[zd6]; rw[this]
  have h3:∀d,zb4 tm d hi=zb4 tm' d hi:=fun d=>by
   cases hi with
   | none=>rfl
   | some p=>have:=hh p (by simp[Op.operands]); unfold zb4; simp only[zd6]; rw[this]
  show zb6 P tm h t x lo hi mx=zb6 P tm' h t x lo hi mx
  unfold zb6; simp only[h1,h2,h3]
 | fieldAddr s x f=>have h1:=hh x (by simp[Op.operands]); show zb8 P tm h s x f=zb8 P tm' h s x f; unfold zb8; rw[h1]
 | field s x f=>have h1:=hh x (by simp[Op.operands]); show zb9 P tm h s x f=zb9 P tm' h s x f; unfold zb9; rw[h1]
 | indexAddr t x i=>
  have h1:=hh x (by simp[Op.operands]); have h2:=hh i (by simp[Op.operands])
  show zcb P tm h t x i=zcb P tm' h t x i
  unfold zcb; rw[h1,h2]
 | index t x i=>
  have h1:=hh x (by simp[Op.operands]); have h2:=hh i (by simp[Op.operands])
  show zcc P tm h t x i=zcc P tm' h t x i
  unfold zcc; rw[h1,h2]
 | lookup t x k ok=>
  have h1:=hh x (by simp[Op.operands]); have h2:=hh k (by simp[Op.operands])
  show zch P tm h t x k ok=zch P tm' h t x k ok
  unfold zch; rw[h1,h2]
 | mapEntry t x k=>
  have h1:=hh x (by simp[Op.operands]); have h2:=hh k (by simp[Op.operands])
  show zcj P tm h t x k=zcj P tm' h t x k
  unfold zcj; rw[h1,h2]
 | entryStore t m k v=>
  have h1:=hh m (by simp[Op.operands]); have h2:=hh k (by simp[Op.operands]); have h3:=hh v (by simp[Op.operands])
  show zcl tm h m k v=zcl tm' h m k v
  unfold zcl; rw[h1,h2,h3]
 | range t x=>have h1:=hh x (by simp[Op.operands]); show zcn P tm h t x=zcn P tm' h t x; unfold zcn; rw[h1]
 | next x s=>have h1:=hh x (by simp[Op.operands]); show ifB s none (zcp tm h x)=ifB s none (zcp tm' h x); unfold zcp; rw[h1]
 | entry x=>have h1:=hh x (by simp[Op.operands]); show zcr tm h x=zcr tm' h x; unfold zcr; rw[h1]
 | extract x i=>have h1:=hh x (by simp[Op.operands]); show zcs tm h x i=zcs tm' h x i; unfold zcs; rw[h1]
 | call c=>
  have h1:zaE (opd tm) c.args.toList=zaE (opd tm') c.args.toList:=ziD fun p hp=>hh p (by
   simp only[Op.operands,Call.operands]
   have hp':=Array.mem_toList_iff.1 hp
   split <;> simp[hp'])
  show zcG P tm h c=zcG P tm' h c
  unfold zcG;rw[h1]
  cases hc:c.callee with
  | value f=>
   have:=hh f (by simp[Op.operands,Call.operands,hc])
   simp only[this]
  | _=>rfl
 | _=>rfl
def vo(x:Option R):Option V:=zaa x none zdk
theorem ziF{α:Type}(x:Option α)(s:α->Option R):vo (zaa x none s)=zaa x none fun y=>vo (s y):=by cases x <;> rfl
theorem ziG{α:Type}(x:Option α)(d:Option R)(s:α->Option R):vo (zaa x d s)=zaa x (vo d) fun y=>vo (s y):=by cases x <;> rfl
theorem ziH:vo none=none:=rfl
theorem ziI(b:Bool)(x:Option R):vo (ifB b x none)=ifB b (vo x) none:=by cases b <;> rfl
theorem ziJ(x:Option V):vo (vR h x)=x:=by cases x <;> rfl
theorem ziK(v:V)(s:Bool->Option R):vo (zav v none s)=zav v none fun b=>vo (s b):=by
 cases v with
 | c x=>cases x <;> rfl
 | _=>rfl
theorem ziL(v:V)(s:Nat->Option R):vo (zau v none s)=zau v none fun b=>vo (s b):=by
 cases v with
 | c x=>cases x with
  | int k n=>cases n <;> rfl
  | _=>rfl
 | _=>rfl
theorem ziM(v:V)(s:ByteArray->Option R):vo (zay v none s)=zay v none fun b=>vo (s b):=by
 cases v with
 | c x=>cases x <;> rfl
 | _=>rfl
theorem ziN(v:V)(d:Option R)(s:Nat->Nat->Option R):vo (zaw v d s)=zaw v (vo d) fun b o=>vo (s b o):=by
 cases v with
 | c x=>cases x <;> rfl
 | _=>rfl
theorem ziO(v:V)(z:Option R)(s:Nat->Nat->Nat->Nat->Option Nat->Option R):vo (vSl v none z s)=vSl v none (vo z) fun b o n q c=>vo (s b o n q c):=by
 cases v with
 | c x=>cases x <;> rfl
 | _=>rfl
theorem ziP(v:V)(s:Fn->List W->List W->Option R):vo (vFn v none s)=vFn v none fun f a b=>vo (s f a b):=by
 cases v with
 | c x=>cases x <;> rfl
 | _=>rfl
theorem ziQ(v:V)(s:Nat->List C->Option R):vo (zaz v none s)=zaz v none fun n l=>vo (s n l):=by cases v <;> rfl
theorem ziR(v:V)(s:List U->Option R):vo (zaA v none s)=zaA v none fun l=>vo (s l):=by cases v <;> rfl
theorem ziS(v:V):vo (some (.val v h))=some v:=rfl
theorem ziT{op:Op}(hc:classOf op=0):vo (opR P tm h op)=vo (opR P tm h2 op):=by
 cases op with
 | move x=>show vo (vR h _)=vo (vR h2 _); rw[ziJ,ziJ]
 | assign x=>show vo (vR h _)=vo (vR h2 _); rw[ziJ,ziJ]
 | pick c x y=>show vo (zbK tm h c x y)=vo (zbK tm h2 c x y); simp only[zbK,ziF,ziK,ziJ]
 | build t ps=>show vo (zbP P tm h t ps)=vo (zbP P tm h2 t ps); simp only[zbP,ziF,ziJ]
 | nilCheck x=>show vo (zbV tm h x)=vo (zbV tm h2 x); simp only[zbV,ziF,ziN,ziP,ziI,ziS]
 | binOp op t x y yt=>show vo (zbW P tm h op t x y)=vo (zbW P tm h2 op t x y); simp only[zbW,ziF,ziJ]
 | unOp op t x=>show vo (zbX tm h op x)=vo (zbX tm h2 op x); simp only[zbX,ziF,ziJ]
 | convert s d x=>show vo (zbY P tm h s d x)=vo (zbY P tm h2 s d x); simp only[zbY,ziF,ziJ]
 | makeFunc f x y=>show vo (zb2 tm h f x y)=vo (zb2 tm h2 f x y); simp only[zb2,ziF,ziI,ziS]
 | slice t x lo hi mx=>
  show vo (zb6 P tm h t x lo hi mx)=vo (zb6 P tm h2 t x lo hi mx)
  unfold zb6
  cases mx with
  | some m=>rfl
  | none=>
   simp only[zd5]
   cases tk P t with
   | sl e=>simp only[ziG,ziH,ziI,ziO,ziS,ziJ]
   | arr m e=>simp only[ziG,ziH,ziI,ziN,ziJ]
   | _=>simp only[ziG,ziH]
 | fieldAddr s x f=>
  show vo (zb8 P tm h s x f)=vo (zb8 P tm h2 s x f)
  unfold zb8 za8 zb7
  cases tk P s with
  | st fs=>simp only[ziF,ziN]; congr; funext fl; congr; funext p; congr; funext b o; cases Nat.beq (P.cellsOf fl.type) 0 <;> rfl
  | _=>rfl
 | field s x f=>
  show vo (zb9 P tm h s x f)=vo (zb9 P tm h2 s x f)
  unfold zb9 za8
  cases tk P s with
  | st fs=>simp only[ziF,ziQ,ziJ]
  | _=>rfl
 | indexAddr t x i=>
  show vo (zcb P tm h t x i)=vo (zcb P tm h2 t x i)
  unfold zcb zca zb7
  cases tk P t <;> simp only[ziF,ziL,ziO,ziN,ziI,ziS] <;> rfl
 | index t x i=>
  show vo (zcc P tm h t x i)=vo (zcc P tm h2 t x i)
  unfold zcc
  cases tk P t <;> simp only[ziF,ziL,ziM,ziQ,ziI,ziS,ziJ] <;> rfl
 | extract x i=>show vo (zcs tm h x i)=vo (zcs tm h2 x i); simp only[zcs,ziF,ziR,ziS]
 | call c=>
  obtain⟨cal,args,tys⟩:=c
  cases cal with
  | builtin b=>
   show vo (zcG P tm h _)=vo (zcG P tm h2 _)
   unfold zcG
   simp only[ziF]
   congr
   funext asn
   cases b with
   | min=>show vo (zab asn none _)=vo (zab asn none _); cases asn with
    | nil=>rfl
    | cons x r=>show vo (vR h _)=vo (vR h2 _); rw[ziJ,ziJ]
   | max=>show vo (zab asn none _)=vo (zab asn none _); cases asn with
    | nil=>rfl
    | cons x r=>show vo (vR h _)=vo (vR h2 _); rw[ziJ,ziJ]
   | len=>cases hc
   | _=>cases hc
  | _=>cases hc
 | _=>first | cases hc | rfl
end
end Go.Abs

namespace Go.Abs
noncomputable section
theorem ziU{x y:C}(hh:zbu x y=true):x=y:=by
 cases x with
 | bool b=>cases y with
  | bool c=>rw[show b=c from by have:zbs b c=true:=hh; rw[zgu] at this; exact beq_iff_eq.1 this]
  | _=>cases hh
 | int k n=>cases y with
  | int k' n'=>
   have h0:ifB (zaQ k k') (zaT n n') false=true:=hh
   cases hk:zaQ k k' with
   | false=>rw[hk] at h0; cases h0
   | true=>
    rw[hk] at h0;have h1:zaT n n'=true:=h0;rw[zgd] at h1;rw[zf7 hk,beq_iff_eq.1 h1]
  | _=>cases hh
 | str s=>cases y with
  | str t=>rw[(zgx s t).1 hh]
  | _=>cases hh
 | _=>cases hh
theorem ziV{x y:Option Nat}(hh:zaO x y=true):x=y:=by
 cases x with
 | none=>cases y with
  | none=>rfl
  | some y=>cases hh
 | some x=>cases y with
  | none=>cases hh
  | some y=>rw[zgw.1 (show Nat.beq x y=true from hh)]
theorem ziW{b x:Bool}(hh:ifB b x false=true):b=true/\x=true:=by
 cases b with
 | false=>cases hh
 | true=>exact⟨rfl,hh⟩
theorem ziX{x y:C}(hh:zcH x y=true):x=y:=by
 cases x with
 | bool b=>exact ziU hh
 | int k n=>exact ziU hh
 | str s=>exact ziU hh
 | ptr0=>cases y with
  | ptr0=>rfl
  | _=>cases hh
 | ptr b o=>cases y with
  | ptr b' o'=>
   obtain⟨h1,h2⟩:=ziW (show ifB (Nat.beq b b') (Nat.beq o o') false=true from hh);rw[zgw.1 h1,zgw.1 h2]
  | _=>cases hh
 | sl0=>cases y with
  | sl0=>rfl
  | _=>cases hh
 | sl b o n s c=>cases y with
  | sl b' o' n' s' c'=>
   obtain⟨h1,h2⟩:=ziW (show ifB (Nat.beq b b') (ifB (Nat.beq o o') (ifB (Nat.beq n n') (ifB (Nat.beq s s') (zaO c c') false) false) false) false=true from hh);obtain⟨h3,h4⟩:=ziW h2;obtain⟨h5,h6⟩:=ziW h4;obtain⟨h7,h8⟩:=ziW h6;rw[zgw.1 h1,zgw.1 h3,zgw.1 h5,zgw.1 h7,ziV h8]
  | _=>cases hh
 | map0=>cases y with
  | map0=>rfl
  | _=>cases hh
 | map r=>cases y with
  | map r'=>rw[zgw.1 (show Nat.beq r r'=true from hh)]
  | _=>cases hh
 | fn f p q=>cases hh
 | nilFn=>cases hh
 | nilIface=>cases hh
theorem ziY{α:Type}{eq:α->α->Bool}(he:∀x y,eq x y=true->x=y):∀{l r:List α},eqL eq l r=true->l=r
 | [],[],_=>rfl
 | [],_::_,hh=>by cases hh
 | _::_,[],hh=>by cases hh
 | x::xs,y::ys,hh=>by
  obtain⟨h1,h2⟩:=ziW (show ifB (eq x y) (eqL eq xs ys) false=true from hh);rw[he x y h1,ziY he h2]
theorem ziZ{x y:C0}(h:c0C x=c0C y):x=y:=by
 cases x <;> cases y <;> first | rfl | (cases h; rfl) | cases h
theorem zi0{α β:Type}{f:α->β}(hf:∀x y,f x=f y->x=y):∀{l r:List α},zbZ f l=zbZ f r->l=r
 | [],[],_=>rfl
 | [],_::_,h=>by cases h
 | _::_,[],h=>by cases h
 | x::xs,y::ys,h=>by
  have h:f x::zbZ f xs=f y::zbZ f ys:=h;obtain⟨h1,h2⟩:=List.cons.inj h;rw[hf _ _ h1,zi0 hf h2]
theorem zi1{x y:Fn}(hh:zcI x y=true):x=y:=by
 cases x with
 | func g=>cases y with
  | func g'=>rw[zgw.1 (show Nat.beq g g'=true from hh)]
  | _=>cases hh
 | yield l=>cases y with
  | yield l'=>rw[zgw.1 (show Nat.beq l l'=true from hh)]
  | _=>cases hh
 | _=>cases hh
theorem zi2{x y:W}(hh:eqW x y=true):x=y:=by
 cases x with
 | c x=>cases y with
  | c y=>rw[ziZ (ziX (show zcH (c0C x) (c0C y)=true from hh))]
  | agg m r=>cases hh
 | agg n l=>cases y with
  | c y=>cases hh
  | agg m r=>
   obtain⟨h1,h2⟩:=ziW (show ifB (Nat.beq n m) (eqL zcH (zbZ c0C l) (zbZ c0C r)) false=true from hh);rw[zgw.1 h1,zi0 (fun _ _=>ziZ) (ziY (fun _ _=>ziX) h2)]
theorem zi3{x y:C}(hh:eqC x y=true):x=y:=by
 cases x with
 | fn f p q=>cases y with
  | fn f' p' q'=>
   obtain⟨h1,h2⟩:=ziW (show ifB (zcI f f') (ifB (eqL eqW p p') (eqL eqW q q') false) false=true from hh);obtain⟨h3,h4⟩:=ziW h2;rw[zi1 h1,ziY (fun _ _=>zi2) h3,ziY (fun _ _=>zi2) h4]
  | _=>cases hh
 | nilFn=>cases y with
  | nilFn=>rfl
  | _=>cases hh
 | nilIface=>cases hh
 | _=>exact ziX hh
theorem zi4{x y:U}(hh:eqU x y=true):x=y:=by
 cases x with
 | c x=>cases y with
  | c y=>rw[zi3 (show eqC x y=true from hh)]
  | agg m r=>cases hh
 | agg n l=>cases y with
  | c y=>cases hh
  | agg m r=>
   obtain⟨h1,h2⟩:=ziW (show ifB (Nat.beq n m) (eqL eqC l r) false=true from hh);rw[zgw.1 h1,ziY (fun _ _=>zi3) h2]
theorem zi5{x y:V}(hh:zcJ x y=true):x=y:=by
 cases x with
 | c x=>cases y with
  | c y=>rw[zi3 (show eqC x y=true from hh)]
  | _=>cases hh
 | agg n l=>cases y with
  | agg m r=>
   obtain⟨h1,h2⟩:=ziW (show ifB (Nat.beq n m) (eqL eqC l r) false=true from hh);rw[zgw.1 h1,ziY (fun _ _=>zi3) h2]
  | _=>cases hh
 | tup l=>cases y with
  | tup r=>rw[ziY (fun _ _=>zi4) (show eqL eqU l r=true from hh)]
  | _=>cases hh
theorem zi6{x y:AO}(hh:zcK x y=true):x=y:=by
 cases x with
 | cells n vs opn=>cases y with
  | cells n' vs' opn'=>
   obtain⟨h1,h2⟩:=ziW (show ifB (Nat.beq n n') (ifB (zbs opn opn') (eqL eqC vs vs') false) false=true from hh);obtain⟨h3,h4⟩:=ziW h2;rw[zgu] at h3;rw[zgw.1 h1,beq_iff_eq.1 h3,ziY (fun _ _=>zi3) h4]
  | _=>cases hh
 | _=>cases hh
theorem zi7{α:Type}(d:D8)(f:α->α->α)(x y:N8 α):sel d (zao f x y)=f (sel d x) (sel d y):=by
 cases x; cases y; cases d <;> rfl
theorem zi8{α:Type}{eq:α->α->Bool}{x y:L α}{k:Nat}{a:α}(hh:zap eq x y=.x k a):x=.x k a/\∃b,y=.x k b/\eq a b=true:=by
 cases x with
 | e=>cases hh
 | x j u=>
  cases y with
  | e=>cases hh
  | x m v=>
   have h0:ifB (Nat.beq j m) (ifB (eq u v) (.x j u) .e) .e=L.x k a:=hh
   cases h1:Nat.beq j m with
   | false=>rw[h1] at h0; cases h0
   | true=>
    rw[h1,zd3] at h0;have:=zgw.1 h1;subst this
    cases h2:eq u v with
    | false=>rw[h2] at h0; cases h0
    | true=>
     rw[h2,zd3] at h0
     cases h0
     exact⟨rfl,v,rfl,h2⟩
theorem zi9{α:Type}{eq:α->α->Bool}{x y:Option α}{a:α}(hh:zaq eq x y=some a):x=some a/\∃b,y=some b/\eq a b=true:=by
 cases x with
 | none=>cases hh
 | some u=>
  cases y with
  | none=>cases hh
  | some v=>
   have h0:ifB (eq u v) (some u) none=some a:=hh;obtain⟨h1,h2⟩:=zd8 h0
   cases h2
   exact⟨rfl,v,rfl,h1⟩
theorem zja{α:Type}{eq:α->α->Bool}{x y:S5 α}{k:Nat}{a:α}(hh:zaj (zar eq x y) k=some a):zaj x k=some a/\∃b,zaj y k=some b/\eq a b=true:=by
 cases x with
 | f g=>exact zi9 (show zaq eq (g k) (zaj y k)=some a from hh)
 | t x=>
  cases y with
  | f g=>exact zi9 (show zaq eq (zai x k) (g k)=some a from hh)
  | t y=>
   have h0:zai (zao (zao (zao (zao (zao (zap eq))))) x y) k=some a:=hh
   have hl:zed (zaf k) (zao (zao (zao (zao (zao (zap eq))))) x y)=zap eq (zed (zaf k) x) (zed (zaf k) y):=by
    cases zaf k with
    | p a b c d e=>simp only[zed,zi7]
   rw[zef,hl] at h0;obtain⟨h1,b,h2,h3⟩:=zi8 (zeb h0)
   have hk:∀u:α,atL k (L.x k u)=some u:=fun u=>by show ifB (Nat.beq k k) (some u) none=some u; rw[Nat.beq_refl]; rfl
   exact⟨by show zai x k=_; rw[zef,h1,hk],b,by show zai y k=_; rw[zef,h2,hk],h3⟩
theorem zjb{x y:H}:x.nxt<=(zcL x y).nxt/\∀b o,zaj (zcL x y).t b=some o->zaj x.t b=some o:=by
 refine⟨?_,fun b o hb=>(zja hb).1⟩
 show x.nxt<=ifB (Nat.ble x.nxt y.nxt) y.nxt x.nxt
 cases hb:Nat.ble x.nxt y.nxt with
 | true=>exact Nat.le_of_ble_eq_true hb
 | false=>exact Nat.le_refl _
theorem zjc{x y:H}:y.nxt<=(zcL x y).nxt/\∀b o,zaj (zcL x y).t b=some o->zaj y.t b=some o:=by
 refine⟨?_,fun b o hb=>?_⟩
 ·show y.nxt<=ifB (Nat.ble x.nxt y.nxt) y.nxt x.nxt
  cases hb:Nat.ble x.nxt y.nxt with
  | true=>exact Nat.le_refl _
  | false=>
   rcases Nat.lt_or_ge y.nxt x.nxt with hq | hq
   ·exact Nat.le_of_lt hq
   ·rw[Nat.ble_eq_true_of_le hq] at hb; cases hb
 ·obtain⟨_,o',h2,h3⟩:=zja hb;rw[zi6 h3]; exact h2
def zjd{α:Type}(p:Nat->Bool):L α->L α
 | .e=>.e
 | .x k a=>if p k then .x k a else .e
def zje{α β:Type}(f:α->β):N8 α->N8 β
 | .n a0 a1 a2 a3 a4 a5 a6 a7=>.n (f a0) (f a1) (f a2) (f a3) (f a4) (f a5) (f a6) (f a7)
theorem zjf{α β:Type}(d:D8)(f:α->β)(x:N8 α):sel d (zje f x)=f (sel d x):=by
 cases x; cases d <;> rfl
def zjg{α:Type}(p:Nat->Bool)(t:S3 α):S3 α:=zje (zje (zje (zjd p))) t
theorem zjh{α:Type}(p:Nat->Bool)(t:S3 α)(k:Nat):zag (zjg p t) k=if p k then zag t k else none:=by
 rw[zee,zee]
 have:zec (zae k) (zjg p t)=zjd p (zec (zae k) t):=by
  cases zae k with
  | p a b c=>simp only[zec,zjg,zjf]
 rw[this]
 cases zec (zae k) t with
 | e=>simp[zjd,atL]
 | x j a=>
  have ha:∀u:α,atL k (L.x j u)=ifB (Nat.beq j k) (some u) none:=fun _=>rfl;have he:atL k (L.e:L α)=none:=rfl
  cases hb:Nat.beq j k with
  | true=>
   have:=zgw.1 hb;subst this;unfold zjd
   cases hp:p j <;> simp[ha,he,hp]
  | false=>
   unfold zjd
   cases hp:p j <;> simp[ha,he,hb,hp,zd4]
variable {P:Program} {e:Env} {tm:S3 V} {h:H} {w:World} {a:Act} {o:Oper}
variable {e0:Env} {h0:H} {w0:World} {N:Nat} {ro:Option Nat} {n:Nat}
theorem zji{α:Type}:∀{l:List α} {i:Nat},atS l i=none->l[i]? = none
 | [],i,_=>by simp
 | x::xs,0,hh=>by cases hh
 | x::xs,i+1,hh=>by
  have:atS xs i=none:=hh;have:=zji this
  simpa using this
theorem zjj{α:Type}(l:List α)(i:Nat)(d:α):zcV l i d=l.getD i d:=by
 unfold zcV;rw[List.getD_eq_getElem?_getD]
 cases hs:atS l i with
 | none=>rw[zji hs]; rfl
 | some x=>rw[zey hs]; rfl
theorem zjk{o:Oper}{m:Nat}:m∈zcX o↔∃ed∈o.after.toList,Region.binds .any ed=true/\ed.on=m:=by
 unfold zcX;generalize o.after.toList=l
 induction l with
 | nil=>simp
 | cons x xs ih=>
  show m∈ifB (zcW x) (x.on::_) _↔_
  cases hb:zcW x with
  | true=>
   rw[zd3,List.mem_cons,ih]
   constructor
   ·rintro (h1 | ⟨ed,h1,h2,h3⟩)
    ·exact⟨x,List.mem_cons_self ..,hb,h1.symm⟩
    ·exact⟨ed,List.mem_cons_of_mem _ h1,h2,h3⟩
   ·rintro⟨ed,h1,h2,h3⟩
    rcases List.mem_cons.1 h1 with rfl | h1
    ·exact .inl h3.symm
    ·exact .inr ⟨ed,h1,h2,h3⟩
  | false=>
   rw[zd4,ih]
   constructor
   ·rintro⟨ed,h1,h2,h3⟩
    exact⟨ed,List.mem_cons_of_mem _ h1,h2,h3⟩
   ·rintro⟨ed,h1,h2,h3⟩
    rcases List.mem_cons.1 h1 with rfl | h1
    ·have:zcW ed=true:=h2
     rw[hb] at this; cases this
    ·exact⟨ed,h1,h2,h3⟩
theorem zjl{β:Type}(x:Nat)(k:Nat->β):zcZ x k=k x:=by cases x <;> rfl
theorem zjm{α β:Type}(x:List α)(k:List α->β):zc0 x k=k x:=by cases x <;> rfl
theorem zjn(m i:Nat):zcY m i=m.testBit i:=by
 have h1:Nat.land (Nat.shiftRight m i) 1=m / 2 ^ i % 2:=by
  show(m >>> i) &&& 1=_
  rw[Nat.and_one_is_mod,Nat.shiftRight_eq_div_pow]
 rw[Nat.testBit_eq_decide_div_mod_eq]
 show Nat.beq (Nat.land (Nat.shiftRight m i) 1) 1=_
 rw[h1]
 cases hb:Nat.beq (m / 2 ^ i % 2) 1 with
 | true=>rw[zgw.1 hb]; rfl
 | false=>
  symm
  rw[decide_eq_false_iff_not];intro hc;rw[hc] at hb
  cases hb
def inB(bf:List Nat)(j i:Nat):Prop:=zcY (bf.getD j 0) i=true
theorem zjo(x:Nat):zcY 0 x=false:=by rw[zjn,Nat.zero_testBit]
theorem zjp{acc:List Nat}{x:Nat}:∀{ws:List Nat},zcY (zc1 acc ws) x=true->x∈ws\/∃m∈ws,zcY (acc.getD m 0) x=true
 | [],hh=>by
  rw[show zc1 acc []=0 from rfl,zjo] at hh
  cases hh
 | m::ws,hh=>by
  have h0:zcY ((2 ^ m ||| zcV acc m 0) ||| zc1 acc ws) x=true:=hh;rw[zjn,Nat.testBit_or,Nat.testBit_or,Bool.or_eq_true,Bool.or_eq_true,Nat.testBit_two_pow] at h0
  rcases h0 with (h1 | h1) | h1
  ·have:m=x:=by simpa using h1
   exact .inl (by rw[this]; exact List.mem_cons_self ..)
  ·rw[zjj] at h1;exact .inr ⟨m,List.mem_cons_self ..,by rw[zjn]; exact h1⟩
  ·rw[<- zjn] at h1
   rcases zjp h1 with h2 | ⟨k,h2,h3⟩
   ·exact .inl (List.mem_cons_of_mem _ h2)
   ·exact .inr ⟨k,List.mem_cons_of_mem _ h2,h3⟩
theorem zjq{L:List Oper}:∀(l:List Oper) (acc:List Nat) (pre:List Oper),L=pre++l->acc.length=pre.length ->
  (∀j,j < acc.length->acc.getD j 0=zc1 (acc.take j) (zcX (atO L j))) ->
  (zc2 acc l).length=L.length/\∀j,j < L.length->(zc2 acc l).getD j 0=zc1 ((zc2 acc l).take j) (zcX (atO L j))
 | [],acc,pre,hL,hlen,hp=>by
  have hl:acc.length=L.length:=by rw[hL,List.append_nil]; exact hlen
  exact⟨hl,fun j hj=>hp j (by show j < acc.length; omega)⟩
 | o::l,acc,pre,hL,hlen,hp=>by
  have hun:zc2 acc (o::l)=zc2 (acc++[zc1 acc (zcX o)]) l:=by
   show zcZ (zc1 acc (zcX o)) (fun m=>zc0 (appS acc [m]) fun acc=>zc2 acc l)=_
   rw[zjl,zjm,zes]
  rw[hun];refine zjq l _ (pre++[o]) (by rw[hL]; simp) (by simp[hlen]) fun j hj=>?_
  have hj':j < acc.length+1:=by simpa using hj
  by_cases hja:j < acc.length
  ·rw[List.getD_eq_getElem?_getD,List.getElem?_append_left hja,<- List.getD_eq_getElem?_getD,List.take_append_of_le_length (Nat.le_of_lt hja)];exact hp j hja
  ·have hje:j=acc.length:=by omega
   subst hje
   have hat:atO L acc.length=o:=by
    unfold atO;rw[zjj,hL,hlen]
    simp
   rw[hat]
   have ht:(acc++[zc1 acc (zcX o)]).take acc.length=acc:=by simp
   rw[ht]
   simp
theorem zjr(L:List Oper):∀j,j < L.length->∀x,inB (zc2 [] L) j x->x∈zcX (atO L j)\/∃m∈zcX (atO L j),m < j/\inB (zc2 [] L) m x:=by
 intro j hj x hx;obtain⟨hlen,hs⟩:=zjq (L:=L) L [] [] rfl rfl (fun j hj=>by simp at hj);unfold inB at hx;rw[hs j hj] at hx
 rcases zjp hx with h1 | ⟨m,hm,hxm⟩
 ·exact .inl h1
 ·by_cases hmj:m < j
  ·refine .inr ⟨m,hm,hmj,?_⟩;rw[List.getD_eq_getElem?_getD,List.getElem?_take,if_pos hmj,<- List.getD_eq_getElem?_getD] at hxm;exact hxm
  ·rw[List.getD_eq_getElem?_getD,List.getElem?_take,if_neg hmj] at hxm;rw[show(none:Option Nat).getD 0=0 from rfl,zjo] at hxm
   cases hxm
theorem zjs{acc:List Nat}{x:Nat}:∀{ws:List Nat},x∈ws->zcY (zc1 acc ws) x=true
 | [],hh=>by cases hh
 | m::ws,hh=>by
  show zcY ((2 ^ m ||| zcV acc m 0) ||| zc1 acc ws) x=true
  rw[zjn,Nat.testBit_or,Nat.testBit_or,Bool.or_eq_true,Bool.or_eq_true,Nat.testBit_two_pow]
  rcases List.mem_cons.1 hh with rfl | h1
  ·exact .inl (.inl (by simp))
  ·exact .inr (by rw[<- zjn]; exact zjs h1)
theorem zjt(L:List Oper){j:Nat}(hj:j < L.length){m:Nat}(hm:m∈zcX (atO L j)):inB (zc2 [] L) j m:=by
 obtain⟨hlen,hs⟩:=zjq (L:=L) L [] [] rfl rfl (fun j hj=>by simp at hj);unfold inB;rw[hs j hj];exact zjs hm
theorem zju{L:List Oper}{S:Nat->Prop}(hS:∀j,j < L.length->S j->∀m∈zcX (atO L j),S m):∀i,i < L.length->(∀m∈zcX (atO L i),S m)->∀x,inB (zc2 [] L) i x->S x:=by
 intro i
 induction i using Nat.strongRecOn with
 | _ i ih=>
  intro hi hw x hx
  rcases zjr L i hi x hx with h1 | ⟨m,hm,hmi,hxm⟩
  ·exact hw x h1
  ·exact ih m hmi (by omega) (hS m (by omega) (hw m hm)) x hxm
theorem zjv{p:Nat->Bool}:∀{n:Nat},zc7 n p=true->∀i,i < n->p i=true
 | 0,_,i,hi=>absurd hi (Nat.not_lt_zero i)
 | n+1,hh,i,hi=>by
  obtain⟨h1,h2⟩:=ziW (show ifB (p n) (zc7 n p) false=true from hh)
  by_cases hin:i=n
  ·rw[hin]; exact h1
  ·exact zjv h2 i (by omega)
theorem zjw{p:Nat->Bool}:∀{n i:Nat},i∈zc9 n p↔i < n/\p i=true
 | 0,i=>by
  show i∈[]↔_
  simp
 | n+1,i=>by
  show i∈ifB (p n) (n::zc9 n p) (zc9 n p)↔_
  cases hp:p n with
  | true=>
   rw[zd3,List.mem_cons,zjw]
   constructor
   ·rintro (rfl | ⟨h1,h2⟩)
    ·exact⟨by omega,hp⟩
    ·exact⟨by omega,h2⟩
   ·rintro⟨h1,h2⟩
    by_cases hin:i=n
    ·exact .inl hin
    ·exact .inr ⟨by omega,h2⟩
  | false=>
   rw[zd4,zjw]
   constructor
   ·rintro⟨h1,h2⟩; exact⟨by omega,h2⟩
   ·rintro⟨h1,h2⟩
    refine⟨?_,h2⟩
    by_cases hin:i=n
    ·rw[hin,hp] at h2; cases h2
    ·omega
theorem zjx{n:Nat}{p:Nat->Nat->Bool}(hh:zc8 n p=true){i j:Nat}(hij:i < j)(hj:j < n):p i j=true:=
 zjv (zjv hh j hj) i hij
theorem zjy{α:Type}{p:α->Bool}:∀{l:List α},zaL p l=true->∀x∈l,p x=true
 | [],_,x,hx=>by cases hx
 | y::ys,hh,x,hx=>by
  obtain⟨h1,h2⟩:=ziW (show ifB (p y) (zaL p ys) false=true from hh)
  rcases List.mem_cons.1 hx with rfl | hx
  ·exact h1
  ·exact zjy h2 x hx
theorem zjz{b:Bool}(hh:zdb b=true):b=false:=by cases b <;> first | rfl | cases hh
theorem zjA{bf:List Nat}{i j:Nat}:ltB bf i j=true↔inB bf j i:=by
 unfold ltB inB;rw[zjj]
structure zjB (L:List Oper):Prop where
 down:∀j,j < L.length->∀i,inB (zc2 [] L) j i->i < j
 chain:∀i j,i < j->j < L.length->zda L i=2->zda L j=2->zdd L (zc2 [] L) j=false->inB (zc2 [] L) j i
 apart:∀i j,i < j->j < L.length->inB (zc2 [] L) j i\/((∀t,(atO L i).dst=some t->zc5 L (atO L j) t=false)/\(∀t,(atO L j).dst=some t->zc5 L (atO L i) t=false))
theorem zjC{p:Nat->Bool}{o:Oper}(hh:zc6 p o=true):∀t,o.dst=some t->p t=true:=fun t ht=>by
 unfold zc6 at hh; rw[ht] at hh; exact hh
theorem zjD{L:List Oper}(hh:zdf L (zc2 [] L)=true):zjB L:=by
 unfold zdf at hh;rw[zet] at hh;obtain⟨h1,hh⟩:=ziW hh;obtain⟨h2,h3⟩:=ziW hh;refine⟨fun j hj i hi=>?_,fun i j hij hj hi2 hj2 hfl=>?_,fun i j hij hj=>?_⟩
 ·have h4:=zjv h1 j hj;rw[zjj] at h4;have h5:(zc2 [] L).getD j 0 < 2 ^ j:=zfF h4
  rcases Nat.lt_or_ge i j with hij | hij
  ·exact hij
  ·exfalso
   have h6:((zc2 [] L).getD j 0).testBit i=false:=Nat.testBit_lt_two_pow (Nat.lt_of_lt_of_le h5 (Nat.pow_le_pow_right (by omega) hij));unfold inB at hi;rw[zjn,h6] at hi
   cases hi
 ·have h4:=zjx h2 hij hj;rw[hi2,hj2] at h4;have h5:ifB (zdc (atO L j)) true (ltB (zc2 [] L) i j)=true:=h4
  cases hk:zdc (atO L j) with
  | false=>rw[hk] at h5; exact zjA.1 h5
  | true=>
   unfold zdd at hfl;rw[hk,zd3] at hfl
   have h6:zc7 j (fun y=>ifB (Nat.beq (zda L y) 2) (ltB (zc2 [] L) y j) true)=true:=by
    cases hb:zc7 j (fun y=>ifB (Nat.beq (zda L y) 2) (ltB (zc2 [] L) y j) true) with
    | true=>rfl
    | false=>rw[hb] at hfl; cases hfl
   have h7:=zjv h6 i hij;rw[hi2] at h7;exact zjA.1 h7
 ·have:=zjx h3 hij hj
  cases h4:ltB (zc2 [] L) i j with
  | true=>exact .inl (zjA.1 h4)
  | false=>
   rw[h4,zd4] at this;obtain⟨h5,h6⟩:=ziW this;exact .inr ⟨fun t ht=>zjz (zjC h5 t ht),fun t ht=>zjz (zjC h6 t ht)⟩
theorem zjE{L:List Oper}{bf:List Nat}:∀(l:List Oper) (i:Nat),(zdh L bf l i).length=l.length/\∀k,k < l.length->(zdh L bf l i)[k]? = some (zdg L bf (i+k))
 | [],i=>⟨rfl,fun k hk=>absurd hk (Nat.not_lt_zero k)⟩
 | o::l,i=>by
  have hun:zdh L bf (o::l) i=zdg L bf i::zdh L bf l (i+1):=rfl;obtain⟨h1,h2⟩:=zjE (L:=L) (bf:=bf) l (i+1);rw[hun];refine⟨by simp[h1],fun k hk=>?_⟩
  cases k with
  | zero=>rfl
  | succ k=>
   rw[List.getElem?_cons_succ,h2 k (by simpa using hk)]
   congr 2
   omega
theorem zjF{L:List Oper}{l:List DI}(hh:zdj L=some l):zjB L/\l.length=L.length/\∀k,k < L.length->l[k]? = some (zdg L (zc2 [] L) k):=by
 obtain⟨h1,h2⟩:=zd8 (show ifB (zdf L (zc2 [] L)) (some (zdh L (zc2 [] L) L 0)) none=some l from hh)
 cases h2
 obtain⟨q1,q2⟩:=zjE (L:=L) (bf:=zc2 [] L) L 0;exact⟨zjD h1,q1,fun k hk=>by rw[q2 k hk,Nat.zero_add]⟩
theorem zjG{L:List Oper}{o:Oper}{t:Nat}(hx:Operand.tmp t∈o.op.operands):t∈zc4 L o:=by
 have hm:∀l:List Operand,Operand.tmp t∈l->t∈zc3 l:=by
  intro l
  induction l with
  | nil=>intro h; cases h
  | cons x xs ih=>
   intro h
   rcases List.mem_cons.1 h with rfl | h
   ·exact List.mem_cons_self ..
   ·have:=ih h
    cases x with
    | tmp u=>exact List.mem_cons_of_mem _ this
    | _=>exact this
 have h1:=hm o.op.operands.toList (Array.mem_toList_iff.2 hx);unfold zc4
 cases o.guard with
 | none=>exact h1
 | some g=>
  rw[zd6]
  cases atS L g.1 with
  | none=>exact h1
  | some p=>
   rw[zd6]
   cases p.dst with
   | none=>exact h1
   | some d=>exact List.mem_cons_of_mem _ h1
theorem zjH{L:List Oper}{o:Oper}{j:Nat}{b:Bool}(hg:o.guard=some (j,b)){p:Oper}(hp:atS L j=some p){d:Nat}(hd:p.dst=some d):d∈zc4 L o:=by
 unfold zc4;rw[hg,zd6,hp,zd6,hd];exact List.mem_cons_self ..
theorem zjI{L:List Oper}{o:Oper}{t:Nat}(hx:t∈zc4 L o):zc5 L o t=true:=by
 unfold zc5;rw[zht,List.contains_iff_mem.2 hx]
 rfl
theorem zjJ{L:List Oper}{o:Oper}{t:Nat}(hx:o.dst=some t):zc5 L o t=true:=by
 unfold zc5
 cases zaK t (zc4 L o) with
 | true=>rfl
 | false=>rw[hx]; show Nat.beq t t=true; exact Nat.beq_refl t
def zjK(out:Out)(v:V)(tmx:S3 V)(M':H):Prop:=zh6 out/\zh5 out (.val v) tmx M'
def zjL(P:Program)(rec:Rec)(L:List Oper)(o:Oper)(T:S3 V)(M:H)(v:V)(M':H):Prop:=
 ∃t,zcO L T o=some t/\(t=false->v=.tup []/\M'=M) /\
  (t=true->∃ r,opR P T M o.op=some r/\((∃ h',r=.val v h'/\(classOf o.op=2->M'=h')) \/
   (∃f args tmx,r=.call f args/\classOf o.op=2/\zjK (rec (.call f args) e3 M) v tmx M') \/
   (∃l args tmx,r=.yield l args/\classOf o.op=2/\zjK (rec (.yield l args) e3 M) v tmx M')))
structure zjM (P:Program) (rec:Rec) (L:List Oper) (b:Nat) (d:DI) (T:S3 V) (M:H) (hs:List (Nat × H)) (rs:List RE) (v:V) (T':S3 V) (M':H) (hs':List (Nat × H)) (rs':List RE):Prop where
 tm:T'=zcP T d.o.dst v
 val:d.flt=none->zjL P rec L d.o T M v M'
 flt:∀k,d.flt=some k->∃t,zcO L T d.o=some t/\(t=false->v=.tup []/\M'=M)/\(t=true->∃o,zdt P T d.o.op (b+k)=some (v,o)/\M'=za0 M (b+k) o)
 low:d.cls ≠ 2->M'=M/\hs'=hs
 eff:d.cls=2->hs'=(d.idx,M)::hs/\rs'=rs/\zdn P M' d.again rs=true
 nil:d.cls=0->rs'=rs
 read:d.cls=1->(zcO L T d.o=some true->zdm P T d.o v d.back hs=true/\rs'={ idx:=d.idx,o:=d.o,tm:=T,v:=v } :: rs)/\(zcO L T d.o=some false->rs'=rs)
theorem zjN{b:Bool}{x:Out}(hn:zh6 (ifB b x .fail)):b=true/\zh6 x:=by
 cases b with
 | false=>exact hn.elim
 | true=>exact⟨rfl,hn⟩
theorem zjO{ex:Ex}{f:V->Out}(hn:zh6 (exB ex .fail (fun _=>.fail) .fail f)):∃v,ex=.val v/\zh6 (f v):=by
 cases ex with
 | val v=>exact⟨v,rfl,hn⟩
 | _=>exact hn.elim
theorem zjP:∀{o:Out},zh6 o->∃ex tm h,zh5 o ex tm h
 | .fail,hn=>hn.elim
 | .ok _ _ _,_=>⟨_,_,_,.ok _ _ _⟩
 | .or _ _,hn=>let ⟨ex,tm,h,hl⟩:=zjP hn.1; ⟨ex,tm,h,.l hl⟩
theorem zjQ{rec:Rec}{L:List Oper}{b:Nat}{d:DI}{l:List DI}{tm:S3 V}{h:H}{hs:List (Nat × H)}{rs:List RE}{t:zcM}{r:R}(hr:opR P tm h d.o.op=some r)
  (ht:(∃f args,r=.call f args/\t=.call f args)\/∃f args,r=.yield f args/\t=.yield f args) (hw:zcO L tm d.o=some true) (hcls:d.cls=classOf d.o.op) (hle:d.cls<=2) (hfl:d.flt=none)
  (hn:zh6 (zdx P rec L b (d::l) tm h hs rs)):zh6 (rec t e3 h)/\∀ex tmx hx,zh5 (rec t e3 h) ex tmx hx ->
  ∃v,ex=.val v/\zjM P rec L b d tm h hs rs v (zcP tm d.o.dst v) hx ((d.idx,h)::hs) rs/\zh6 (zdx P rec L b l (zcP tm d.o.dst v) hx ((d.idx,h)::hs) rs) /\
   ∀ex' tm' h',zh5 (zdx P rec L b l (zcP tm d.o.dst v) hx ((d.idx,h)::hs) rs) ex' tm' h'->zh5 (zdx P rec L b (d::l) tm h hs rs) ex' tm' h':=by
 have he:zdx P rec L b (d::l) tm h hs rs=bind (rec t e3 h) (zdr P (zdx P rec L b l) d tm h hs rs):=by
  have h1:zdx P rec L b (d::l) tm h hs rs=zdu P rec L d (zdx P rec L b l) tm h hs rs:=by
   show zdw P rec L b d (zdx P rec L b l) tm h hs rs=_
   unfold zdw; rw[hfl]; rfl
  rw[h1,zie,hw]
  show orF (opR P tm h d.o.op) (onD P rec (zdx P rec L b l) d tm h hs rs)=_
  rw[hr]
  rcases ht with ⟨f,args,rfl,rfl⟩ | ⟨f,args,rfl,rfl⟩ <;> rfl
 rw[he] at hn ⊢;obtain⟨q1,q3⟩:=zia hn;refine⟨q1,fun ex tmx hx hlf=>?_⟩;have q4:=q3 _ _ _ hlf;have q5:∀ex' tm' h',zh5 (zdr P (zdx P rec L b l) d tm h hs rs ex tmx hx) ex' tm' h'->zh5 (bind (rec t e3 h) (zdr P (zdx P rec L b l) d tm h hs rs)) ex' tm' h':=fun _ _ _ hk=>zh9 hlf hk;obtain⟨v,rfl,h4⟩:=zjO (show zh6 (zdr P (zdx P rec L b l) d tm h hs rs ex tmx hx) from q4)
 have h2:d.cls=2:=by
  rcases (show d.cls=0\/d.cls=1\/d.cls=2 by omega) with h0 | h0 | h0
  ·rw[h0] at h4; exact h4.elim
  ·rw[h0] at h4; exact h4.elim
  ·exact h0
 have hcd:zdr P (zdx P rec L b l) d tm h hs rs (.val v) tmx hx=zdp P (zdx P rec L b l) d tm h hs rs v hx:=by unfold zdr; rw[h2]; rfl
 rw[hcd] at q4 q5;obtain⟨hag,hn2⟩:=zjN (show zh6 (zdp P (zdx P rec L b l) d tm h hs rs v hx) from q4)
 have haf:zdp P (zdx P rec L b l) d tm h hs rs v hx=zdx P rec L b l (zcP tm d.o.dst v) hx ((d.idx,h)::hs) rs:=by unfold zdp; rw[hag]; rfl
 rw[haf] at q5;have hcall:zjK (rec t e3 h) v tmx hx:=⟨q1,hlf⟩;refine⟨v,rfl,⟨rfl,fun _=>⟨true,hw,(fun hc=>by cases hc),fun _=>⟨r,hr,?_⟩⟩,(fun k hk=>by rw[hfl] at hk; cases hk),fun hne=>absurd h2 hne,fun _=>⟨rfl,rfl,hag⟩,fun h0=>by omega,fun h0=>by omega⟩,hn2,q5⟩
 rcases ht with ⟨f,args,rfl,rfl⟩ | ⟨f,args,rfl,rfl⟩
 ·exact .inr (.inl ⟨f,args,tmx,rfl,by omega,hcall⟩)
 ·exact .inr (.inr ⟨f,args,tmx,rfl,by omega,hcall⟩)
theorem zjR{rec:Rec}{L:List Oper}{b:Nat}:∀(l:List DI) (tm:S3 V) (h:H) (hs:List (Nat × H)) (rs:List RE),(∀d∈l,d.cls=classOf d.o.op/\d.cls<=2/\∀k,d.flt=some k->d.cls=2)->zh6 (zdx P rec L b l tm h hs rs) ->
  ∃(T:Nat->S3 V) (M:Nat->H) (Hs:Nat->List (Nat × H)) (Rs:Nat->List RE) (v:Nat->V),T 0=tm/\M 0=h/\Hs 0=hs/\Rs 0=rs /\
   (∀i,i<=l.length->zh6 (zdx P rec L b (l.drop i) (T i) (M i) (Hs i) (Rs i))/\∀ex tm' h',zh5 (zdx P rec L b (l.drop i) (T i) (M i) (Hs i) (Rs i)) ex tm' h'->zh5 (zdx P rec L b l tm h hs rs) ex tm' h')/\∀i d,l[i]? = some d->zjM P rec L b d (T i) (M i) (Hs i) (Rs i) (v i) (T (i+1)) (M (i+1)) (Hs (i+1)) (Rs (i+1))
 | [],tm,h,hs,rs,_,hn=>⟨fun _=>tm,fun _=>h,fun _=>hs,fun _=>rs,fun _=>.tup [],rfl,rfl,rfl,rfl,(fun i _=>by rw[List.drop_nil]; exact⟨hn,fun _ _ _ q=>q⟩),fun i d hd=>by simp at hd⟩
 | d::l,tm,h,hs,rs,hc,hn=>by
  obtain⟨hcls,hle,hf2⟩:=hc d (List.mem_cons_self ..);have heq:zdx P rec L b (d::l) tm h hs rs=zdw P rec L b d (zdx P rec L b l) tm h hs rs:=rfl;have hn0:=hn;rw[heq] at hn0
  have fin':∀{v:V} {T1:S3 V} {M1:H} {hs1:List (Nat × H)} {rs1:List RE},zjM P rec L b d tm h hs rs v T1 M1 hs1 rs1->zh6 (zdx P rec L b l T1 M1 hs1 rs1)->(∀ex tm' h',zh5 (zdx P rec L b l T1 M1 hs1 rs1) ex tm' h'->zh5 (zdx P rec L b (d::l) tm h hs rs) ex tm' h') ->
    ∃(T:Nat->S3 V) (M:Nat->H) (Hs:Nat->List (Nat × H)) (Rs:Nat->List RE) (v:Nat->V),T 0=tm/\M 0=h/\Hs 0=hs/\Rs 0=rs /\
     (∀i,i<=(d::l).length->zh6 (zdx P rec L b ((d::l).drop i) (T i) (M i) (Hs i) (Rs i))/\∀ex tm' h',zh5 (zdx P rec L b ((d::l).drop i) (T i) (M i) (Hs i) (Rs i)) ex tm' h'->zh5 (zdx P rec L b (d::l) tm h hs rs) ex tm' h')/\∀i d',(d::l)[i]? = some d'->zjM P rec L b d' (T i) (M i) (Hs i) (Rs i) (v i) (T (i+1)) (M (i+1)) (Hs (i+1)) (Rs (i+1)):=by
   intro v T1 M1 hs1 rs1 hst hn1 he;obtain⟨T,M,Hs,Rs,vs,q1,q2,q3,q4,q5,q6⟩:=zjR l T1 M1 hs1 rs1 (fun d' hd'=>hc d' (List.mem_cons_of_mem _ hd')) hn1;refine⟨fun i=>Nat.casesOn i tm T,fun i=>Nat.casesOn i h M,fun i=>Nat.casesOn i hs Hs,fun i=>Nat.casesOn i rs Rs,fun i=>Nat.casesOn i v vs,rfl,rfl,rfl,rfl,fun i hi=>?_,fun i d' hd'=>?_⟩
   ·cases i with
    | zero=>exact⟨hn,fun ex tm' h' q=>q⟩
    | succ i=>
     obtain⟨r1,r2⟩:=q5 i (by simpa using hi);exact⟨r1,fun ex tm' h' q=>he _ _ _ (r2 _ _ _ q)⟩
   ·cases i with
    | zero=>
     have:d=d':=by simpa using hd'
     subst this
     show zjM P rec L b d tm h hs rs v (T 0) (M 0) (Hs 0) (Rs 0)
     rw[q1,q2,q3,q4]; exact hst
    | succ i=>exact q6 i d' (by simpa using hd')
  have fin:∀{v:V} {T1:S3 V} {M1:H} {hs1:List (Nat × H)} {rs1:List RE},zjM P rec L b d tm h hs rs v T1 M1 hs1 rs1->zh6 (zdx P rec L b l T1 M1 hs1 rs1)->zdw P rec L b d (zdx P rec L b l) tm h hs rs=zdx P rec L b l T1 M1 hs1 rs1->_:=
   fun {v T1 M1 hs1 rs1} hst hn1 he=>fin' hst hn1 fun _ _ _ q=>by rw[heq,he]; exact q
  cases hfl:d.flt with
  | some k=>
   have hse:=zif (P:=P) (rec:=rec) (ops:=L) (b:=b) hfl (zdx P rec L b l) tm h hs rs;rw[heq,hse] at hn;obtain⟨t,hw,hn⟩:=zib hn;have h2:=hf2 k hfl
   cases t with
   | true=>
    obtain⟨⟨v,o⟩,hop,hna⟩:=zib (show zh6 (orF (zdt P tm d.o.op (b+k)) fun p=>zdp P (zdx P rec L b l) d tm h hs rs p.1 (za0 h (b+k) p.2)) from hn);obtain⟨hag,hn2⟩:=zjN (show zh6 (zdp P (zdx P rec L b l) d tm h hs rs v (za0 h (b+k) o)) from hna)
    refine fin (v:=v) (T1:=zcP tm d.o.dst v) (M1:=za0 h (b+k) o) (hs1:=(d.idx,h)::hs) (rs1:=rs)
     ⟨rfl,(fun hne=>by rw[hfl] at hne; cases hne),(fun k' hk'=>by rw[hfl] at hk'; cases hk'; exact⟨true,hw,(fun h=>by cases h),fun _=>⟨o,hop,rfl⟩⟩),fun hne=>absurd h2 hne,fun _=>⟨rfl,rfl,hag⟩,fun h0=>by omega,fun h0=>by omega⟩ hn2 ?_
    rw[hse,hw]
    show orF (zdt P tm d.o.op (b+k)) _=_
    rw[hop]
    show zdp P (zdx P rec L b l) d tm h hs rs v (za0 h (b+k) o)=_
    unfold zdp; rw[hag]; rfl
   | false=>
    obtain⟨hag,hn2⟩:=zjN (show zh6 (zdp P (zdx P rec L b l) d tm h hs rs (.tup []) h) from hn)
    refine fin (v:=.tup []) (T1:=zcP tm d.o.dst (.tup [])) (M1:=h) (hs1:=(d.idx,h)::hs) (rs1:=rs)
     ⟨rfl,(fun hne=>by rw[hfl] at hne; cases hne),(fun k' hk'=>by rw[hfl] at hk'; cases hk'; exact⟨false,hw,(fun _=>⟨rfl,rfl⟩),fun h=>by cases h⟩),fun hne=>absurd h2 hne,fun _=>⟨rfl,rfl,hag⟩,fun h0=>by omega,fun h0=>by omega⟩ hn2 ?_
    rw[hse,hw]
    show zdp P (zdx P rec L b l) d tm h hs rs (.tup []) h=_
    unfold zdp; rw[hag]; rfl
  | none=>
  have hse:zdw P rec L b d (zdx P rec L b l) tm h hs rs=zdu P rec L d (zdx P rec L b l) tm h hs rs:=by unfold zdw; rw[hfl]; rfl
  rw[heq,hse,zie] at hn;obtain⟨t,hw,h1⟩:=zib hn
  have hstep:zdw P rec L b d (zdx P rec L b l) tm h hs rs=ifB t (orF (opR P tm h d.o.op) (onD P rec (zdx P rec L b l) d tm h hs rs)) (zds P (zdx P rec L b l) d tm h hs rs):=by
   rw[hse,zie,hw]; rfl
  have effect:∀{v:V} {M':H},d.cls=2->zjL P rec L d.o tm h v M'->zh6 (zdp P (zdx P rec L b l) d tm h hs rs v M')->zdw P rec L b d (zdx P rec L b l) tm h hs rs=zdp P (zdx P rec L b l) d tm h hs rs v M'->_:=
   fun {v M'} h2 hv hna he=>by
    obtain⟨hag,hn2⟩:=zjN hna
    exact fin (v:=v) (T1:=zcP tm d.o.dst v) (M1:=M') (hs1:=(d.idx,h)::hs) (rs1:=rs)
     ⟨rfl,fun _=>hv,(fun k hk=>by rw[hfl] at hk; cases hk),fun hne=>absurd h2 hne,fun _=>⟨rfl,rfl,hag⟩,fun h0=>by omega,fun h0=>by omega⟩ hn2 (by rw[he]; unfold zdp; rw[hag]; rfl)
  rcases (show d.cls=0\/d.cls=1\/d.cls=2 by omega) with h0 | h0 | h0
  ·-- operands alone
   cases t with
   | false=>
    have hsk:zds P (zdx P rec L b l) d tm h hs rs=zdx P rec L b l (zcP tm d.o.dst (.tup [])) h hs rs:=by unfold zds; rw[h0]; rfl
    refine fin (v:=.tup []) (T1:=zcP tm d.o.dst (.tup [])) (M1:=h) (hs1:=hs) (rs1:=rs) ⟨rfl,fun _=>⟨false,hw,fun _=>⟨rfl,rfl⟩,fun hc=>by cases hc⟩,(fun k hk=>by rw[hfl] at hk; cases hk),fun _=>⟨rfl,rfl⟩,fun h2=>by omega,fun _=>rfl,fun h1=>by omega⟩ ?_ ?_
    ·rw[<- hsk]; exact h1
    ·rw[hstep,<- hsk]; rfl
   | true=>
    obtain⟨r,hr,h2⟩:=zib (show zh6 (orF (opR P tm h d.o.op) (onD P rec (zdx P rec L b l) d tm h hs rs)) from h1)
    cases r with
    | val v h'=>
     have hv:onD P rec (zdx P rec L b l) d tm h hs rs (.val v h')=zdx P rec L b l (zcP tm d.o.dst v) h hs rs:=by show zdq P _ d tm h hs rs v h'=_; unfold zdq; rw[h0]; rfl
     refine fin (v:=v) (T1:=zcP tm d.o.dst v) (M1:=h) (hs1:=hs) (rs1:=rs) ⟨rfl,fun _=>⟨true,hw,(fun hc=>by cases hc),fun _=>⟨_,hr,.inl ⟨h',rfl,fun h2=>by omega⟩⟩⟩,(fun k hk=>by rw[hfl] at hk; cases hk),fun _=>⟨rfl,rfl⟩,fun h2=>by omega,fun _=>rfl,fun h1=>by omega⟩ ?_ ?_
     ·rw[<- hv]; exact h2
     ·rw[hstep,<- hv,hr]; rfl
    | call f args=>
     obtain⟨w1,w2⟩:=zjQ (t:=.call f args) hr (.inl ⟨f,args,rfl,rfl⟩) hw hcls hle hfl (by rw[heq]; exact hn0);obtain⟨ex,tmx,hx,w3⟩:=zjP w1;obtain⟨v,_,w4,w5,w6⟩:=w2 _ _ _ w3;exact fin' w4 w5 w6
    | yield f args=>
     obtain⟨w1,w2⟩:=zjQ (t:=.yield f args) hr (.inr ⟨f,args,rfl,rfl⟩) hw hcls hle hfl (by rw[heq]; exact hn0);obtain⟨ex,tmx,hx,w3⟩:=zjP w1;obtain⟨v,_,w4,w5,w6⟩:=w2 _ _ _ w3;exact fin' w4 w5 w6
    | alts l=>exact h2.elim
  ·-- a reading
   cases t with
   | false=>
    have hsk:zds P (zdx P rec L b l) d tm h hs rs=zdx P rec L b l (zcP tm d.o.dst (.tup [])) h hs rs:=by unfold zds; rw[h0]; rfl
    refine fin (v:=.tup []) (T1:=zcP tm d.o.dst (.tup [])) (M1:=h) (hs1:=hs) (rs1:=rs) ⟨rfl,fun _=>⟨false,hw,fun _=>⟨rfl,rfl⟩,fun hc=>by cases hc⟩,(fun k hk=>by rw[hfl] at hk; cases hk),fun _=>⟨rfl,rfl⟩,fun h2=>by omega,fun h2=>by omega,fun _=>⟨(fun h=>by rw[hw] at h; cases h),fun _=>rfl⟩⟩ ?_ ?_
    ·rw[<- hsk]; exact h1
    ·rw[hstep,<- hsk]; rfl
   | true=>
    obtain⟨r,hr,h2⟩:=zib (show zh6 (orF (opR P tm h d.o.op) (onD P rec (zdx P rec L b l) d tm h hs rs)) from h1)
    cases r with
    | val v h'=>
     have h3:zh6 (zdq P (zdx P rec L b l) d tm h hs rs v h'):=h2
     have hvd:zdq P (zdx P rec L b l) d tm h hs rs v h'=ifB (zdm P tm d.o v d.back hs) (zdx P rec L b l (zcP tm d.o.dst v) h hs ({ idx:=d.idx,o:=d.o,tm:=tm,v:=v } :: rs)) .fail:=by unfold zdq; rw[h0]; rfl
     rw[hvd] at h3;obtain⟨hb,h4⟩:=zjN h3;refine fin (v:=v) (T1:=zcP tm d.o.dst v) (M1:=h) (hs1:=hs) (rs1:={ idx:=d.idx,o:=d.o,tm:=tm,v:=v } :: rs) ⟨rfl,fun _=>⟨true,hw,(fun hc=>by cases hc),fun _=>⟨_,hr,.inl ⟨h',rfl,fun h2=>by omega⟩⟩⟩,(fun k hk=>by rw[hfl] at hk; cases hk),fun _=>⟨rfl,rfl⟩,fun h2=>by omega,fun h2=>by omega,fun _=>⟨fun _=>⟨hb,rfl⟩,fun h=>by rw[hw] at h; cases h⟩⟩ h4 ?_;rw[hstep,hr]
     show zdq P (zdx P rec L b l) d tm h hs rs v h'=_
     rw[hvd,hb]; rfl
    | call f args=>
     obtain⟨w1,w2⟩:=zjQ (t:=.call f args) hr (.inl ⟨f,args,rfl,rfl⟩) hw hcls hle hfl (by rw[heq]; exact hn0);obtain⟨ex,tmx,hx,w3⟩:=zjP w1;obtain⟨v,_,w4,w5,w6⟩:=w2 _ _ _ w3;exact fin' w4 w5 w6
    | yield f args=>
     obtain⟨w1,w2⟩:=zjQ (t:=.yield f args) hr (.inr ⟨f,args,rfl,rfl⟩) hw hcls hle hfl (by rw[heq]; exact hn0);obtain⟨ex,tmx,hx,w3⟩:=zjP w1;obtain⟨v,_,w4,w5,w6⟩:=w2 _ _ _ w3;exact fin' w4 w5 w6
    | alts l=>exact h2.elim
  ·-- an effect
   cases t with
   | false=>
    have hsk:zds P (zdx P rec L b l) d tm h hs rs=zdp P (zdx P rec L b l) d tm h hs rs (.tup []) h:=by unfold zds; rw[h0]; rfl
    refine effect (v:=.tup []) (M':=h) h0 ⟨false,hw,fun _=>⟨rfl,rfl⟩,fun hc=>by cases hc⟩ ?_ ?_
    ·rw[<- hsk]; exact h1
    ·rw[hstep,<- hsk]; rfl
   | true=>
    obtain⟨r,hr,h2⟩:=zib (show zh6 (orF (opR P tm h d.o.op) (onD P rec (zdx P rec L b l) d tm h hs rs)) from h1)
    have hst':zdw P rec L b d (zdx P rec L b l) tm h hs rs=onD P rec (zdx P rec L b l) d tm h hs rs r:=by rw[hstep,hr]; rfl
    cases r with
    | val v h'=>
     have hvd:onD P rec (zdx P rec L b l) d tm h hs rs (.val v h')=zdp P (zdx P rec L b l) d tm h hs rs v h':=by show zdq P _ d tm h hs rs v h'=_; unfold zdq; rw[h0]; rfl
     refine effect (v:=v) (M':=h') h0 ⟨true,hw,(fun hc=>by cases hc),fun _=>⟨_,hr,.inl ⟨h',rfl,fun _=>rfl⟩⟩⟩ ?_ ?_
     ·rw[<- hvd]; exact h2
     ·rw[hst',hvd]
    | call f args=>
     obtain⟨w1,w2⟩:=zjQ (t:=.call f args) hr (.inl ⟨f,args,rfl,rfl⟩) hw hcls hle hfl (by rw[heq]; exact hn0);obtain⟨ex,tmx,hx,w3⟩:=zjP w1;obtain⟨v,_,w4,w5,w6⟩:=w2 _ _ _ w3;exact fin' w4 w5 w6
    | yield f args=>
     obtain⟨w1,w2⟩:=zjQ (t:=.yield f args) hr (.inr ⟨f,args,rfl,rfl⟩) hw hcls hle hfl (by rw[heq]; exact hn0);obtain⟨ex,tmx,hx,w3⟩:=zjP w1;obtain⟨v,_,w4,w5,w6⟩:=w2 _ _ _ w3;exact fin' w4 w5 w6
    | alts l=>exact h2.elim
end
end Go.Abs

namespace Go.Abs
noncomputable section
variable {P:Program} {e:Env} {tm:S3 V} {h:H} {w:World} {a:Act} {o:Oper}
variable {e0:Env} {h0:H} {w0:World} {N:Nat} {ro:Option Nat} {nn:Nat}
theorem zjS{L:List Oper}{bf:List Nat}{i k:Nat}(hk:(zdg L bf i).flt=some k):zdc (atO L i)=true/\zdd L bf i=true/\k=zde L bf i:=by
 have h1:ifB (zdd L bf i) (some (zde L bf i)) none=some k:=hk;obtain⟨h2,h3⟩:=zd8 h1
 cases h3
 refine⟨?_,h2,rfl⟩;unfold zdd at h2;exact(ziW h2).1
theorem zjT{L:List Oper}{bf:List Nat}{i k:Nat}(hk:(zdg L bf i).flt=some k):zda L i=2:=by
 obtain⟨h1,_⟩:=zjS hk;unfold zda;unfold zdc at h1
 cases ho:(atO L i).op <;> rw[ho] at h1 <;> first | rfl | cases h1
theorem zjU{L:List Oper}{bf:List Nat}{i:Nat}(hc:zda L i ≠ 2):(zdg L bf i).flt=none:=by
 cases hf:(zdg L bf i).flt with
 | none=>rfl
 | some k=>exact absurd (zjT hf) hc
structure zjV (P:Program) (rec:Rec) (L:List Oper) (b:Nat) (T:Nat->S3 V) (M:Nat->H) (Hs:Nat->List (Nat × H)) (Rs:Nat->List RE) (v:Nat->V):Prop where
 step:∀i,i < L.length->zjM P rec L b (zdg L (zc2 [] L) i) (T i) (M i) (Hs i) (Rs i) (v i) (T (i+1)) (M (i+1)) (Hs (i+1)) (Rs (i+1))
 ord:zjB L
section trace
variable {rec:Rec} {L:List Oper} {b:Nat} {T:Nat->S3 V} {M:Nat->H} {Hs:Nat->List (Nat × H)} {Rs:Nat->List RE} {v:Nat->V} (tr:zjV P rec L b T M Hs Rs v)
include tr
theorem zjW{i t:Nat}{x:V}(hi:i < L.length)(hd:(atO L i).dst ≠ some t)(hx:zag (T (i+1)) t=some x):zag (T i) t=some x:=by
 have:=(tr.step i hi).tm;rw[this] at hx
 cases hdst:(zdg L (zc2 [] L) i).o.dst with
 | none=>rw[hdst] at hx; exact hx
 | some d=>
  rw[hdst,zig] at hx
  rcases zen hx with ⟨rfl,_⟩ | ⟨_,h2⟩
  ·exact absurd hdst hd
  ·exact h2
theorem zjX{i t:Nat}{x:V}:∀{j:Nat},i<=j->j<=L.length->(∀k,i<=k->k < j->(atO L k).dst ≠ some t)->zag (T j) t=some x->zag (T i) t=some x
 | 0,hij,_,_,hx=>by
  have:i=0:=by omega
  rw[this]; exact hx
 | j+1,hij,hj,hk,hx=>by
  by_cases hije:i=j+1
  ·rw[hije]; exact hx
  ·exact zjX (j:=j) (by omega) (by omega) (fun k h1 h2=>hk k h1 (by omega)) (zjW tr (by omega) (hk j (by omega) (by omega)) hx)
theorem zjY{i:Nat}:∀{j:Nat},i<=j->j<=L.length->(∀k,i<=k->k < j->zda L k ≠ 2)->M j=M i
 | 0,hij,_,_=>by
  have:i=0:=by omega
  rw[this]
 | j+1,hij,hj,hk=>by
  by_cases hije:i=j+1
  ·rw[hije]
  ·rw[((tr.step j (by omega)).low (hk j (by omega) (by omega))).1];exact zjY (j:=j) (by omega) (by omega) fun k h1 h2=>hk k h1 (by omega)
theorem zjZ{y:Nat}(hy:zda L y=2):∀{i:Nat},y < i->i<=L.length->(y,M y)∈Hs i
 | 0,hyi,_=>absurd hyi (Nat.not_lt_zero y)
 | i+1,hyi,hi=>by
  have hst:=tr.step i (by omega)
  by_cases hyi':y=i
  ·subst hyi';rw[(hst.eff hy).1];exact List.mem_cons_self ..
  ·have ih:=zjZ hy (i:=i) (by omega) (by omega)
   by_cases hc:zda L i=2
   ·rw[(hst.eff hc).1]; exact List.mem_cons_of_mem _ ih
   ·rw[(hst.low hc).2]; exact ih
theorem zj0{q:Nat}(hq:zda L q=1)(hw:zcO L (T q) (atO L q)=some true):∀{i:Nat},q < i->i<=L.length->({ idx:=q,o:=atO L q,tm:=T q,v:=v q }:RE)∈Rs i
 | 0,hyi,_=>absurd hyi (Nat.not_lt_zero q)
 | i+1,hyi,hi=>by
  have hst:=tr.step i (by omega)
  by_cases hyi':q=i
  ·subst hyi';rw[((hst.read hq).1 hw).2];exact List.mem_cons_self ..
  ·have ih:=zj0 hq hw (i:=i) (by omega) (by omega)
   have h3:zda L i<=2:=by unfold zda classOf; split <;> omega
   rcases (show zda L i=0\/zda L i=1\/zda L i=2 by omega) with hc | hc | hc
   ·rw[hst.nil hc]; exact ih
   ·obtain⟨r1,r2⟩:=hst.read hc;obtain⟨t,hwt,_⟩:=hst.val (zjU (by omega))
    cases t with
    | true=>rw[(r1 hwt).2]; exact List.mem_cons_of_mem _ ih
    | false=>rw[r2 hwt]; exact ih
   ·rw[(hst.eff hc).2.1]; exact ih
omit tr in
theorem zj1{tm:S3 V}{o:Oper}{u:V}{h:H}(hh:zdl P tm o u h=true):vo (opR P tm h o.op)=some u:=by
 unfold zdl at hh
 cases hr:opR P tm h o.op with
 | none=>rw[hr] at hh; cases hh
 | some r=>
  rw[hr,zd6] at hh
  cases hv:zdk r with
  | none=>rw[hv] at hh; cases hh
  | some x=>
   rw[hv,zd6] at hh
   show zdk r=some u
   rw[hv,zi5 hh]
omit tr in
theorem zj2{p:Nat->Prop}:∀(i j:Nat),(∃k,j<=k/\k < i/\p k)->∃k,j<=k/\k < i/\p k/\∀m,j<=m->m < k->¬ p m:=by
 intro i
 induction i with
 | zero=>rintro j ⟨k,_,hk,_⟩; exact absurd hk (Nat.not_lt_zero k)
 | succ i ih=>
  rintro j ⟨k,h1,h2,h3⟩
  by_cases hex:∃k,j<=k/\k < i/\p k
  ·obtain⟨m,q1,q2,q3,q4⟩:=ih j hex;exact⟨m,q1,by omega,q3,q4⟩
  ·have hki:k=i:=by
    by_cases hki:k=i
    ·exact hki
    ·exact absurd ⟨k,h1,by omega,h3⟩ hex
   subst hki;exact⟨k,h1,h2,h3,fun m m1 m2 m3=>hex ⟨m,m1,m2,m3⟩⟩
omit tr in
theorem zj3{p:Nat->Prop}:∀(j i:Nat),(∃k,i<=k/\k < j/\p k)->∃k,i<=k/\k < j/\p k/\∀m,k < m->m < j->¬ p m:=by
 intro j
 induction j with
 | zero=>rintro i ⟨k,_,hk,_⟩; exact absurd hk (Nat.not_lt_zero k)
 | succ j ih=>
  rintro i ⟨k,h1,h2,h3⟩
  by_cases hpj:p j/\i<=j
  ·exact⟨j,hpj.2,by omega,hpj.1,fun m m1 m2=>by omega⟩
  ·have hkj:k ≠ j:=fun hkj=>hpj ⟨hkj ▸ h3,by omega⟩;obtain⟨m,q1,q2,q3,q4⟩:=ih i ⟨k,h1,by omega,h3⟩;refine⟨m,q1,by omega,q3,fun r r1 r2 r3=>?_⟩
   by_cases hrj:r=j
   ·exact hpj ⟨hrj ▸ r3,by omega⟩
   ·exact q4 r r1 (by omega) r3
theorem zj4{S:Nat->Prop}(hS:∀j,j < L.length->S j->∀m∈zcX (atO L j),S m){i j:Nat}(hi:i < L.length)(hj:j<=L.length)(hc:zda L i ≠ 2)(hni:¬ S i)(hwi:∀m∈zcX (atO L i),S m)
  (hcut:∀y,y < L.length->zda L y=2->y < j->S y) (hnorm:∀y,y < L.length->j<=y->zda L y=2->(∀z,j<=z->z < y->zda L z ≠ 2)->¬ S y) (hw:zcO L (T i) (atO L i)=some true):vo (opR P (T i) (M j) (atO L i).op)=some (v i):=by
 have hst:=tr.step i hi;obtain⟨t,hwt,_,hv⟩:=hst.val (zjU hc)
 have ht:t=true:=by
  have:zcO L (T i) (atO L i)=some t:=hwt
  rw[hw] at this; cases this; rfl
 obtain⟨r,hr,hrc⟩:=hv ht
 have hself:vo (opR P (T i) (M i) (atO L i).op)=some (v i):=by
  have hr':opR P (T i) (M i) (atO L i).op=some r:=hr
  rcases hrc with ⟨h',rfl,_⟩ | ⟨_,_,_,_,h2,_⟩ | ⟨_,_,_,_,h2,_⟩
  ·rw[hr']; rfl
  ·exact absurd h2 hc
  ·exact absurd h2 hc
 have h3:zda L i<=2:=by unfold zda classOf; split <;> omega
 rcases (show zda L i=0\/zda L i=1 by omega) with h0 | h0
 ·rw[ziT (h2:=M i) h0]; exact hself
 ·by_cases hex:∃y,j<=y/\y < i/\zda L y=2
  ·obtain⟨y,q1,q2,q3,q4⟩:=zj2 i j hex;have hMy:M y=M j:=zjY tr q1 (by omega) q4;have hnb:¬ inB (zc2 [] L) i y:=fun hb=>hnorm y (by omega) q1 q3 q4 (zju hS i hi hwi y hb);have hback:=(hst.read h0).1 hw
   have hmem:y∈(zdg L (zc2 [] L) i).back:=by
    show y∈ifB (Nat.beq (zda L i) 1) _ []
    rw[h0]
    show y∈zc9 i _
    rw[zjw];refine⟨q2,?_⟩;rw[q3]
    show zdb (ltB (zc2 [] L) y i)=true
    cases hb:ltB (zc2 [] L) y i with
    | false=>rfl
    | true=>exact absurd (zjA.1 hb) hnb
   have:=zjy hback.1 (y,M y) (zjZ tr q3 q2 (by omega));rw[zht,List.contains_iff_mem.2 hmem,zd3,hMy] at this;exact zj1 this
  ·by_cases hex2:∃x,i<=x/\x < j/\zda L x=2
   ·obtain⟨x,q1,q2,q3,q4⟩:=zj3 j i hex2
    have hxi:i < x:=by
     rcases Nat.lt_or_ge i x with hlt | hge
     ·exact hlt
     ·have:i=x:=by omega
      rw[this] at h0; omega
    have hMx:M j=M (x+1):=zjY tr (by omega) hj fun k k1 k2=>q4 k (by omega) k2;have hSx:S x:=hcut x (by omega) q3 q2;have hnb:¬ inB (zc2 [] L) x i:=fun hb=>hni (zju hS x (by omega) (hS x (by omega) hSx) i hb);have hag:=((tr.step x (by omega)).eff q3).2.2
    have hmem:i∈(zdg L (zc2 [] L) x).again:=by
     show i∈ifB (Nat.beq (zda L x) 2) _ []
     rw[q3]
     show i∈zc9 x _
     rw[zjw];refine⟨hxi,?_⟩;rw[h0]
     show zdb (ltB (zc2 [] L) i x)=true
     cases hb:ltB (zc2 [] L) i x with
     | false=>rfl
     | true=>exact absurd (zjA.1 hb) hnb
    have:=zjy hag _ (zj0 tr h0 hw hxi (by omega));rw[zht,List.contains_iff_mem.2 hmem,zd3,<- hMx] at this;exact zj1 this
   ·have hM:M j=M i:=by
     rcases Nat.le_total j i with hji | hij
     ·exact(zjY tr hji (by omega) fun k k1 k2 k3=>hex ⟨k,k1,k2,k3⟩).symm
     ·exact zjY tr hij hj fun k k1 k2 k3=>hex2 ⟨k,k1,k2,k3⟩
    rw[hM]; exact hself
end trace
end
end Go.Abs

namespace Go.Abs
noncomputable section
variable {P:Program} {w:World} {a:Act}
variable {e0:Env} {h0:H} {w0:World} {N:Nat} {ro:Option Nat} {nn:Nat}
variable {rec:Rec} {L:List Oper} {b:Nat} {T:Nat->S3 V} {M:Nat->H} {Hs:Nat->List (Nat × H)} {Rs:Nat->List RE} {v:Nat->V}
theorem zj5{e:Env}{id c:Nat}{l:List C}{cs:Array Value}(t:TypeId)(h1:zeq (CR e) l cs.toList){n:Nat}(hn:l.length=n)(hf:e.ρ id=none):OR (e.put id c cs.size 0) id (.cells n l false) (.cells cs t):=by
 have hl:l.length=cs.size:=by simpa using h1.length
 refine⟨cs,t,rfl,?_,hn,(Env.put_sz _ _ _ _ _).symm,by omega,fun _=>by omega⟩;have:cs.toList.take l.length=cs.toList:=List.take_of_length_le (by simp[hl]);rw[this];exact h1.mono fun _ _=>CR.mono (Env.put_le hf _ _ _)
def Made(co:Obj):Prop:=(∃cs t,co=.cells cs t (0,0))\/co=.map #[] 0
theorem zj6{e:Env}{tm:S3 V}{o:Oper}{id:Nat}{x:V}{ao:AO}(hk:zdt P tm o.op id=some (x,ao))(ht:TR e tm a.tmps)(hf:e.ρ id=none)(w:World) :
  ∃(co:Obj) (sz:Nat) (x':Value),Made co/\(execOp a.eval o).run P w=.ok (.value x') (w.alloc co) /\
   OR (e.put id w.heap.size sz 0) id ao co/\VR (e.put id w.heap.size sz 0) x x':=by
 cases ho:o.op with
 | makeMap t r=>
  rw[ho] at hk
  cases r with
  | some r=>cases hk
  | none=>
   cases hk
   refine⟨.map #[] 0,0,.map (some w.heap.size),.inr rfl,?_,⟨#[],rfl,.nil⟩,⟨_,Env.put_self _ _ _ _ _,rfl⟩⟩
   simp[execOp,ho,Instr.makeMap,newObj,Sem.run]
 | alloc t=>
  rw[ho] at hk;obtain⟨z,hz,h2⟩:=zd7 (show zaa (zeroV P t) none _=some (x,ao) from hk)
  cases h2
  obtain⟨zv,hrun,hzr⟩:=zfj hz w;have hnt:∀l,z ≠ .tup l:=fun l hl=>zfi (hl ▸ hz);refine⟨.cells zv.cells t,zv.cells.size,.pointer (some ⟨w.heap.size,0,none⟩),.inl ⟨_,_,rfl⟩,?_,zj5 t ((hzr e).cells hnt) ((hzr e).size' hnt) hf,⟨w.heap.size,Env.put_self _ _ _ _ _,rfl⟩⟩
  simp[execOp,ho,Instr.alloc,hrun,zfn]
 | buildSlice t len parts=>
  rw[ho] at hk;obtain⟨el,htk,h2⟩:=zfA (show za6 (tk P t) none _=some (x,ao) from hk);have hu:=ze8 htk;obtain⟨hsmall,h3⟩:=zd8 h2;obtain⟨z,hz,h3⟩:=zd7 h3;obtain⟨hlen,h3⟩:=zd8 h3;obtain⟨hzsz,h4⟩:=zd8 h3;obtain⟨ps,hps,h5⟩:=zd7 h4;obtain⟨cs,hcs,h6⟩:=zd7 h5
  cases h6
  obtain⟨zv',hzrun,hzr'⟩:=zfj hz w;have hnt:∀l,z ≠ .tup l:=fun l hl=>zfi (hl ▸ hz);have hpe:=zfZ ht hps;have hzc:=(hzr' e).cells hnt;have hzs:=(hzr' e).size' hnt;have hzz:=(hzr' e).size hnt;have hze:=Nat.eq_of_beq_eq_true hzsz;have hsm:len * P.cellsOf el<=1048576:=Nat.le_of_ble_eq_true hsmall;have hln:len<=1048576:=Nat.le_of_ble_eq_true hlen;obtain⟨it,_,hit,_,_⟩:=zf2 hz
  have hbase:((Array.range (len * P.cellsOf el)).map (zv'.cells[· % zv'.cells.size]!)).toList=(List.replicate len zv'.cells.toList).flatten:=by
   rw[<- hze,hzz]; exact zfV _ _
  obtain⟨zs,z1,z2,z3⟩:=zfY (place':=fun i=>some (i * P.cellsOf el,P.cellsOf el)) (fun i q hq=>hq) (ys:=(Array.range (len * P.cellsOf el)).map (zv'.cells[· % zv'.cells.size]!)) hcs hpe (by
   rw[hbase]; exact zfU hzc len)
  have hcl:cs.length=len * zaC z:=by rw[z3,zeB]; simp[hzs]
  refine⟨.cells zs el,zs.size,.slice (some ⟨w.heap.size,0,none⟩) len len,.inl ⟨_,_,rfl⟩,?_,zj5 el z2 hcl hf,⟨w.heap.size,_,Env.put_self _ _ _ _ _,rfl,Nat.le_refl _,by unfold maxLen; omega,.inl rfl⟩⟩
  have hrun:(Instr.buildSlice t len (parts.map fun(i,x)=>(i,a.eval x))).run P w=.ok (.slice (some ⟨w.heap.size,0,none⟩) len len) (w.alloc (.cells zs el)):=by
   unfold Instr.buildSlice
   simp only[Sem.run_bind,run_underlying hu,Result.andThen_ok,run_sizeOf w hit]
   rw[if_neg (by omega)]
   by_cases h0:len * P.cellsOf el=0
   ·rw[if_pos h0]
    have e0:(Array.range (len * P.cellsOf el)).map ((#[]:Array Value)[· % (#[]:Array Value).size]!)=(Array.range (len * P.cellsOf el)).map (zv'.cells[· % zv'.cells.size]!):=by
     rw[h0]; simp
    simp only[Sem.run_bind,Sem.run_pure,Result.andThen_ok]
    rw[e0,z1]
    simp[newRow,newObj,Sem.run]
   ·rw[if_neg h0]
    simp only[Sem.run_bind,hzrun,Sem.run_pure,Result.andThen_ok]
    rw[z1]
    simp[newRow,newObj,Sem.run]
  simp only[execOp,ho,Sem.run_bind,hrun,Result.andThen_ok,Sem.run_pure]
 | makeSlice t x y=>
  rw[ho] at hk;obtain⟨el,htk,h2⟩:=zfA (show za6 (tk P t) none _=some (_,ao) from hk);have hu:=ze8 htk;obtain⟨lv,hl,h3⟩:=zd7 h2;obtain⟨k1,l,rfl,h4⟩:=zeR h3;obtain⟨cv,hc,h5⟩:=zd7 h4;obtain⟨k2,c,rfl,h6⟩:=zeR h5;obtain⟨hlc,h7⟩:=zd8 h6;obtain⟨hc4,h8⟩:=zd8 h7;obtain⟨hby,h9⟩:=zd8 h8;obtain⟨z,hz,h10⟩:=zd7 h9;obtain⟨hzsz,h11⟩:=zd8 h10
  cases h11
  have q1:l<=c:=Nat.le_of_ble_eq_true hlc;have q2:c<=4096:=Nat.le_of_ble_eq_true hc4
  have q3:P.bytesOf el<=1048576:=Nat.le_of_ble_eq_true hby
  have hze:=Nat.eq_of_beq_eq_true hzsz;obtain⟨zv',hzrun,hzr'⟩:=zfj hz w;have hnt:∀l,z ≠ .tup l:=fun l hl=>zfi (hl ▸ hz);have hzc:=(hzr' e).cells hnt;have hzs:=(hzr' e).size' hnt;have hzz:=(hzr' e).size hnt;obtain⟨it,_,hit,_,_⟩:=zf2 hz
  have hbytes:it.bytes=P.bytesOf el:=by simp[Program.bytesOf,hit]
  have hle:a.eval x=.int k1 (.ofNat l):=ze4 ht hl;have hce:a.eval y=.int k2 (.ofNat c):=ze4 ht hc
  have hbase:((Array.range (c * P.cellsOf el)).map (zv'.cells[· % zv'.cells.size]!)).toList=(List.replicate c zv'.cells.toList).flatten:=by
   rw[<- hze,hzz]; exact zfV _ _
  have hall:zeq (CR e) (zaJ (zaB z) c) ((Array.range (c * P.cellsOf el)).map (zv'.cells[· % zv'.cells.size]!)).toList:=by
   rw[hbase]; exact zfU hzc c
  refine⟨.cells _ el,_,.slice (some ⟨w.heap.size,0,none⟩) l c,.inl ⟨_,_,rfl⟩,?_,zj5 el hall (by rw[zeB]; simp[hzs]) hf,⟨w.heap.size,_,Env.put_self _ _ _ _ _,rfl,q1,by unfold maxLen; omega,.inl rfl⟩⟩;have hrun:=zf5 (w:=w) hu hzrun hze hit hbytes q1 q2 q3 k1 k2
  simp only[execOp,ho,hle,hce,Sem.run_bind,hrun,Result.andThen_ok,Sem.run_pure]
 | _=>rw[ho] at hk; cases hk
def zj7(L:List Oper)(y:Nat):Option Nat:=(zdg L (zc2 [] L) y).flt
theorem zj8{L:List Oper}{bf:List Nat}{i:Nat}:∀{j:Nat},i<=j->zde L bf i<=zde L bf j
  | 0, hij => by have:i=0:=by omega
                 rw[this]; exact Nat.le_refl _
  | j+1,hij=>by
    by_cases hije:i=j+1
    · rw[hije]; exact Nat.le_refl _
    · have ih:=zj8 (L:=L) (bf:=bf) (i:=i) (j:=j) (by omega);have hs:zde L bf (j+1)=ifB (zdd L bf j) (Nat.succ (zde L bf j)) (zde L bf j):=rfl;rw[hs]
      cases zdd L bf j with
      | true=>rw[zd3]; omega
      | false=>rw[zd4]; exact ih
theorem zj9{L:List Oper}{bf:List Nat}{i j:Nat}(hij:i < j)(hf:zdd L bf i=true):zde L bf i < zde L bf j:=by
 have h1:=zj8 (L:=L) (bf:=bf) (i:=i+1) (j:=j) (by omega);have hs:zde L bf (i+1)=ifB (zdd L bf i) (Nat.succ (zde L bf i)) (zde L bf i):=rfl;rw[hs,hf,zd3] at h1
 omega
theorem zka{L:List Oper}{i j k:Nat}(hi:zj7 L i=some k)(hj:zj7 L j=some k):i=j:=by
 obtain⟨_,q1,q2⟩:=zjS hi;obtain⟨_,q3,q4⟩:=zjS hj
 rcases Nat.lt_trichotomy i j with h | h | h
 ·have:=zj9 h q1; omega
 ·exact h
 ·have:=zj9 h q3; omega
def zkb(b k:Nat)(M:Nat->H)(w0:World)(e:Env)(j:Nat)(w:World)(y:Nat):Prop:=
 ∃c ao co,Made co/\e.ρ (b+k)=some c/\w.heap[c]? = some co/\OR e (b+k) ao co/\M (y+1)=za0 (M y) (b+k) ao/\(w0.heap.size<=c/\e.base.size<=c) /\
  ∀q o,zaj (M j).t q=some o->e.ρ q ≠ some c
structure zkc (L:List Oper) (b nf:Nat) (T:Nat->S3 V) (M:Nat->H) (e0:Env) (h0:H) (w0:World) (N:Nat) (S:Nat->Prop) (e:Env) (j:Nat) (a:Act) (w:World):Prop where
 jn:j<=L.length
 st:zeE e0 h0 w0 e (M j) w
 hr:HR e (M j) w
 ms:zix e (M j) w0 w a.defers
 sz:a.tmps.size=N
 cut:∀y,y < L.length->zda L y=2->y < j->S y
 pend:∀y,y < L.length->zda L y=2->S y->j<=y->∃k,zj7 L y=some k/\(zkb b k M w0 e j w y\/(M (y+1)=M y/\e.ρ (b+k)=none))
 dj:∀y y2 k k2,j<=y->j<=y2->S y->S y2->zj7 L y=some k->zj7 L y2=some k2->y ≠ y2->∀c,e.ρ (b+k)=some c->e.ρ (b+k2) ≠ some c
 free:∀y k,y < L.length->zj7 L y=some k->¬ S y->e.ρ (b+k)=none
 bd:b+nf<=(M j).nxt
 sl:∀k,k<=L.length->¬ S k->∀t,(k=L.length\/t∈zc4 L (atO L k))->(∀m,m < k->(atO L m).dst=some t->S m)->∀x,zag (T k) t=some x->VR e x (a.tmps.getD t undef)
def zkd(L:List Oper)(S:Nat->Prop)(j:Nat):Prop:=∀y,y < L.length->j<=y->zda L y=2->(∀z,j<=z->z < y->zda L z ≠ 2)->¬ S y
structure zke (L:List Oper) (S:Nat->Prop):Prop where
 lt:∀m,S m->m < L.length
 cl:∀j,j < L.length->S j->∀m∈zcX (atO L j),S m
theorem zkf(tr:zjV P rec L b T M Hs Rs v){S:Nat->Prop}(hS:zke L S){e:Env}{j i:Nat}{nf:Nat}(hd:zkc L b nf T M e0 h0 w0 N S e j a w)(hi:i < L.length)(hni:¬ S i)(hwi:∀m∈zcX (atO L i),S m) :
  TR e (zjg (fun t=>zaK t (zc4 L (atO L i))) (T i)) a.tmps:=by
 intro t x hx;rw[zjh] at hx
 cases hl:zaK t (zc4 L (atO L i)) with
 | false=>rw[hl] at hx; simp at hx
 | true=>
  rw[hl] at hx
  have hmem:t∈zc4 L (atO L i):=by rw[zht] at hl; exact List.contains_iff_mem.1 hl
  refine hd.sl i (by omega) hni t (.inr hmem) (fun m hm hdst=>?_) x (by simpa using hx)
  rcases tr.ord.apart m i hm hi with h1 | ⟨h1,_⟩
  ·exact zju hS.cl i hi hwi m h1
  ·have:=h1 t hdst;rw[zjI hmem] at this
   cases this
theorem zkg{i:Nat}{h:H}:opR P (zjg (fun t=>zaK t (zc4 L (atO L i))) (T i)) h (atO L i).op=opR P (T i) h (atO L i).op:=by
 refine ziE fun x hx=>?_
 cases x with
 | tmp t=>
  show zag _ t=zag _ t
  rw[zjh,zht,List.contains_iff_mem.2 (zjG hx)]
  rfl
 | _=>rfl
theorem zkh{i:Nat}:zcO L (zjg (fun t=>zaK t (zc4 L (atO L i))) (T i)) (atO L i)=zcO L (T i) (atO L i):=by
 unfold zcO
 cases hg:(atO L i).guard with
 | none=>rfl
 | some g=>
  rw[zd6,zd6];unfold zcN
  cases hp:atS L g.1 with
  | none=>rfl
  | some p=>
   rw[zd6,zd6]
   cases hd:p.dst with
   | none=>rfl
   | some d=>
    rw[zd6,zd6,zjh,zht,List.contains_iff_mem.2 (zjH (b:=g.2) hg hp hd)]
    rfl
theorem zki(tr:zjV P rec L b T M Hs Rs v){S:Nat->Prop}(hS:zke L S){nf:Nat}{e:Env}{j i:Nat}(hd:zkc L b nf T M e0 h0 w0 N S e j a w)(hi:i < L.length)(hni:¬ S i)(hwi:∀m∈zcX (atO L i),S m)
  (hdst:∀t,(atO L i).dst=some t->t < N) {e':Env} {v':Value} (hle:e.le e') (hv:VR e' (v i) v') :
  ∀k,k<=L.length->¬ (S k\/k=i)->∀t,(k=L.length\/t∈zc4 L (atO L k))->(∀m,m < k->(atO L m).dst=some t->S m\/m=i)->∀x,zag (T k) t=some x->VR e' x ((a.put (atO L i).dst v').tmps.getD t undef):=by
 have hbf:∀m,inB (zc2 [] L) i m->S m:=zju hS.cl i hi hwi;intro k hk hnk t ht hw x hx;have hnk1:¬ S k:=fun h=>hnk (.inl h);have hnk2:k ≠ i:=fun h=>hnk (.inr h)
 by_cases hwt:(atO L i).dst=some t
 ·-- it is the one that writes here
  have hik:i < k:=by
   rcases Nat.lt_or_ge i k with h1 | h1
   ·exact h1
   ·exfalso
    have hki:k < i:=by omega
    rcases ht with h2 | h2
    ·omega
    ·rcases tr.ord.apart k i hki hi with h3 | ⟨_,h3⟩
     ·exact hnk1 (hbf k h3)
     ·have:=h3 t hwt;rw[zjI h2] at this
      cases this
  have hno:∀m,i+1<=m->m < k->(atO L m).dst ≠ some t:=fun m m1 m2 m3=>by
   rcases hw m m2 m3 with h1 | h1
   ·have hmL:=hS.lt m h1
    rcases tr.ord.apart i m (by omega) hmL with h3 | ⟨h3,_⟩
    ·exact hni (zju hS.cl m hmL (hS.cl m hmL h1) i h3)
    ·have:=h3 t hwt;rw[zjJ m3] at this
     cases this
   ·omega
  have hx1:=zjX tr (i:=i+1) (by omega) hk hno hx;have htm:=(tr.step i hi).tm;rw[htm] at hx1;have hdd:(zdg L (zc2 [] L) i).o.dst=some t:=hwt;rw[hdd,zig] at hx1
  rcases zen hx1 with ⟨_,rfl⟩ | ⟨hne,_⟩
  ·have hlt:t < a.tmps.size:=by rw[hd.sz]; exact hdst t hwt
   rw[hwt]
   show VR e' (v i) ((a.tmps.setIfInBounds t v').getD t undef)
   rw[Array.getD_eq_getD_getElem?,Array.getElem?_setIfInBounds_self_of_lt hlt];exact hv
  ·exact absurd rfl hne
 ·have hold:VR e x (a.tmps.getD t undef):=hd.sl k hk hnk1 t ht (fun m m1 m2=>by
   rcases hw m m1 m2 with h1 | h1
   ·exact h1
   ·subst h1; exact absurd m2 hwt) x hx
  have heq:(a.put (atO L i).dst v').tmps.getD t undef=a.tmps.getD t undef:=by
   unfold Act.put
   cases hdi:(atO L i).dst with
   | none=>rfl
   | some d=>
    have hne:d ≠ t:=fun h=>hwt (by rw[hdi,h])
    show(a.tmps.setIfInBounds d v').getD t undef=_
    rw[Array.getD_eq_getD_getElem?,Array.getElem?_setIfInBounds_ne hne,<- Array.getD_eq_getD_getElem?]
  rw[heq];exact VR.mono hle hold
theorem put_sz(i:Nat)(v':Value):(a.put (atO L i).dst v').tmps.size=a.tmps.size:=by unfold Act.put; cases (atO L i).dst <;> simp
theorem zkj(i:Nat)(v':Value):(a.put (atO L i).dst v').defers=a.defers:=by unfold Act.put; cases (atO L i).dst <;> rfl
theorem zkb.step{k j j' y:Nat}{e e':Env}{w':World}(hp:zkb b k M w0 e j w y)(hs:zeE e (M j) w e' (M j') w'):zkb b k M w0 e' j' w' y:=by
 obtain⟨c,ao,co,hmk,h1,h2,h3,h4,h5,h6⟩:=hp;have hlt:=(Array.getElem?_eq_some_iff.1 h2).1;refine⟨c,ao,co,hmk,hs.le.ρ _ _ h1,by rw[hs.keep c hlt h6]; exact h2,OR.mono hs.le h1 h3,h4,⟨h5.1,by rw[hs.le.base]; exact h5.2⟩,fun q o hq hc=>?_⟩
 rcases hs.org q o c hq hc with h7 | ⟨q0,o0,h8,h9⟩
 ·omega
 ·exact h6 q0 o0 h8 h9
theorem zkk(tr:zjV P rec L b T M Hs Rs v){S:Nat->Prop}(hS:zke L S){nf:Nat}{e:Env}{j i:Nat}(hd:zkc L b nf T M e0 h0 w0 N S e j a w)(hi:i < L.length)(hni:¬ S i)(hwi:∀m∈zcX (atO L i),S m)
  (hnf:∀y k,zj7 L y=some k->k < nf) (hfl:zj7 L i=none)
  (hdst:∀t,(atO L i).dst=some t->t < N) {e':Env} {w':World} {v':Value} (hs:zeE e (M j) w e' (M (if zda L i=2 then i+1 else j)) w') (hr:HR e' (M (if zda L i=2 then i+1 else j)) w') (hv:VR e' (v i) v') :
  zkc L b nf T M e0 h0 w0 N (fun m=>S m\/m=i) e' (if zda L i=2 then i+1 else j) (a.put (atO L i).dst v') w':=by
 have hbf:∀m,inB (zc2 [] L) i m->S m:=zju hS.cl i hi hwi;have hlow:∀k,k < nf->e'.ρ (b+k)=e.ρ (b+k):=fun k hk=>hs.low _ (by have:=hd.bd; omega)
 have hji:zda L i=2->j<=i:=fun hc=>by
  rcases Nat.lt_or_ge i j with h | h
  ·exact absurd (hd.cut i hi hc h) hni
  ·exact h
 have hjle:j<=(if zda L i=2 then i+1 else j):=by
  split
  ·rename_i hc; have:=hji hc; omega
  ·exact Nat.le_refl _
 refine⟨?_,hd.st.trans hs,hr,by rw[zkj]; exact hd.ms.step hs,by rw[put_sz]; exact hd.sz,fun y hy hy2 hyj=>?_,fun y hy hy2 hSy hjy=>?_,fun y y2 k k2 h1 h2 h3 h4 h5 h6 hne=>?_,fun y k hy hk hSy=>?_,?_,zki tr hS hd hi hni hwi hdst hs.le hv⟩
 ·split
  ·omega
  ·exact hd.jn
 ·by_cases hc:zda L i=2
  ·rw[if_pos hc] at hyj
   by_cases hyi:y=i
   ·exact .inr hyi
   ·exact .inl (hbf y (tr.ord.chain y i (by omega) hi hy2 hc (by
     cases hb:zdd L (zc2 [] L) i with
     | false=>rfl
     | true=>
      have:zj7 L i=some (zde L (zc2 [] L) i):=by
       show ifB (zdd L (zc2 [] L) i) _ none=_
       rw[hb]; rfl
      rw[hfl] at this; cases this)))
  ·rw[if_neg hc] at hyj;exact .inl (hd.cut y hy hy2 hyj)
 ·rcases hSy with h1 | h1
  ·obtain⟨k,q1,q2⟩:=hd.pend y hy hy2 h1 (by omega);exact⟨k,q1,q2.imp (·.step hs) fun h=>⟨h.1,by rw[hlow k (hnf _ _ q1)]; exact h.2⟩⟩
  ·exfalso
   subst h1;rw[if_pos hy2] at hjy
   omega
 ·have hS3:S y:=by
   rcases h3 with h | h
   ·exact h
   ·subst h; rw[hfl] at h5; cases h5
  have hS4:S y2:=by
   rcases h4 with h | h
   ·exact h
   ·subst h; rw[hfl] at h6; cases h6
  rw[hlow k (hnf _ _ h5),hlow k2 (hnf _ _ h6)];exact hd.dj y y2 k k2 (by omega) (by omega) hS3 hS4 h5 h6 hne
 ·rw[hlow k (hnf _ _ hk)];exact hd.free y k hy hk fun h=>hSy (.inl h)
 ·exact Nat.le_trans hd.bd hs.nxt
theorem zkl(tr:zjV P rec L b T M Hs Rs v){S:Nat->Prop}(hS:zke L S){nf:Nat}{e:Env}{j i:Nat}(hd:zkc L b nf T M e0 h0 w0 N S e j a w)(hi:i < L.length)(hni:¬ S i)(hwi:∀m∈zcX (atO L i),S m)
    (hnf:∀y k,zj7 L y=some k->k < nf) {k:Nat} (hfl:zj7 L i=some k) (hb0:h0.nxt<=b)
    (hdst:∀t,(atO L i).dst=some t->t < N) {ao:AO} {co:Obj} {sz:Nat} {v':Value} (hmk:Made co) (hM:M (i+1)=za0 (M i) (b+k) ao)
    (hor:OR (e.put (b+k) w.heap.size sz 0) (b+k) ao co) (hv:VR (e.put (b+k) w.heap.size sz 0) (v i) v') :
    zkc L b nf T M e0 h0 w0 N (fun m=>S m\/m=i) (e.put (b+k) w.heap.size sz 0) j (a.put (atO L i).dst v') (w.alloc co):=by
  have hc:zda L i=2:=zjT hfl
  have hji:j<=i:=by
    rcases Nat.lt_or_ge i j with h | h
    · exact absurd (hd.cut i hi hc h) hni
    · exact h
  have hfree:=hd.free i k hi hfl hni;have hle:=Env.put_le hfree w.heap.size sz 0;have hkn:=hnf i k hfl;have hbd:=hd.bd
  have hother:∀q,q ≠ b+k->(e.put (b+k) w.heap.size sz 0).ρ q=e.ρ q:=fun q hq=>by simp[Env.put,hq]
  have hself:(e.put (b+k) w.heap.size sz 0).ρ (b+k)=some w.heap.size:=Env.put_self _ _ _ _ _
  have hlive:∀{q o},zaj (M j).t q=some o->(e.put (b+k) w.heap.size sz 0).ρ q=e.ρ q:=fun {q o} hq=>by
    obtain⟨cb,h1,_⟩:=hd.hr.live q o hq
    exact hother q fun h=>by rw[h,hfree] at h1; cases h1
  have hold:∀{c o},w.heap[c]? = some o->(w.alloc co).heap[c]? = some o:=fun {c o} h=>by
    rw[heap_alloc_old w _ c (Array.getElem?_eq_some_iff.1 h).1]; exact h
  refine⟨hd.jn,⟨hd.st.le.trans hle,hd.st.nxt,Nat.le_trans hd.st.size (by simp),hd.st.tape,hd.st.os,hd.st.output,fun c hcs hn=>?_,fun q o c hq hqc=>?_,fun c r hr=>?_,fun q hq=>?_⟩,
    ⟨fun q hq=>?_,fun q o hq=>?_,fun q q' o1 o2 c h1 h2 h3 h4=>?_,hd.hr.vws.to hle (by simp) (fun c hc=>heap_alloc_old w _ c (Nat.lt_of_lt_of_le hc hd.hr.vws.lim)) (fun q o c hq hc=>by rw[hlive hq] at hc; exact hd.hr.vws.own q o c hq hc) fun _ _ h=>h⟩,?_,by rw[put_sz]; exact hd.sz,fun y hy hy2 hyj=>.inl (hd.cut y hy hy2 hyj),fun y hy hy2 hSy hjy=>?_,fun y y2 k1 k2 h1 h2 h3 h4 h5 h6 hne=>?_,fun y k1 hy hk1 hSy=>?_,hd.bd,zki tr hS hd hi hni hwi hdst hle hv⟩
  · rw[heap_alloc_old w _ c (Nat.lt_of_lt_of_le hcs hd.st.size)]; exact hd.st.keep c hcs hn
  · rw[hlive hq] at hqc; exact hd.st.org q o c hq hqc
  · obtain⟨r',hr'⟩:=hd.st.loops c r hr;exact⟨r',hold hr'⟩
  · rw[hother q (by omega)]; exact hd.st.low q hq
  · rw[hother q (by omega)]; exact hd.hr.fresh q hq
  · obtain⟨cb,h1,co,h2,h3⟩:=hd.hr.live q o hq;exact⟨cb,hle.ρ _ _ h1,co,hold h2,OR.mono hle h1 h3⟩
  · rw[hlive h1] at h3; rw[hlive h2] at h4;exact hd.hr.inj q q' o1 o2 c h1 h2 h3 h4
  · rw[zkj];obtain⟨ms,m1,m2,m3⟩:=hd.ms;refine⟨ms,m1,m2,fun r hr=>?_⟩;obtain⟨p1,p2,p3⟩:=m3 r hr;exact⟨p1,hold p2,fun q o hq hc=>by rw[hlive hq] at hc; exact p3 q o hq hc⟩
  · rcases hSy with h1 | h1
    · obtain⟨k1,q1,⟨c,ao1,co1,pm,p1,p2,p3,p4,p5,p6⟩ | ⟨p1,p2⟩⟩:=hd.pend y hy hy2 h1 hjy
      · exact⟨k1,q1,.inl ⟨c,ao1,co1,pm,hle.ρ _ _ p1,hold p2,OR.mono hle p1 p3,p4,p5,fun q o hq hc=>by rw[hlive hq] at hc; exact p6 q o hq hc⟩⟩
      · exact⟨k1,q1,.inr ⟨p1,by rw[hother _ fun h=>hni (by rw[<- zka (k:=k) (by rw[show k=k1 by omega]; exact q1) hfl]; exact h1)]; exact p2⟩⟩
    · subst h1;refine⟨k,hfl,.inl ⟨w.heap.size,ao,co,hmk,hself,heap_alloc_new w _,hor,hM,⟨hd.st.size,hd.hr.vws.lim⟩,fun q o hq hc=>?_⟩⟩;rw[hlive hq] at hc;exact absurd (hd.hr.lt hq hc) (by omega)
  · have hnew:∀{y1 k1},j<=y1->S y1->zj7 L y1=some k1->(e.put (b+k) w.heap.size sz 0).ρ (b+k1)=e.ρ (b+k1)/\∀c,e.ρ (b+k1)=some c->c < w.heap.size:=fun {y1 k1} q1 q2 q3=>by
      refine⟨hother _ fun h=>hni (by rw[<- zka (k:=k) (by rw[show k=k1 by omega]; exact q3) hfl]; exact q2),fun c hc=>?_⟩;obtain⟨k3,q4,⟨c',_,_,_,p1,p2,_⟩ | ⟨_,p2⟩⟩:=hd.pend y1 (hS.lt _ q2) (zjT q3) q2 q1
      · rw[q3] at q4; cases q4
        rw[hc] at p1; cases p1
        exact(Array.getElem?_eq_some_iff.1 p2).1
      · rw[q3] at q4; cases q4
        rw[hc] at p2; cases p2
    intro c hc1 hc2
    rcases h3 with h3 | h3 <;> rcases h4 with h4 | h4
    · rw[(hnew h1 h3 h5).1] at hc1;rw[(hnew h2 h4 h6).1] at hc2;exact hd.dj y y2 k1 k2 h1 h2 h3 h4 h5 h6 hne c hc1 hc2
    · rw[(hnew h1 h3 h5).1] at hc1;have:=(hnew h1 h3 h5).2 c hc1;subst h4
      rw[hfl] at h6; cases h6
      rw[hself] at hc2
      cases hc2; omega
    · rw[(hnew h2 h4 h6).1] at hc2;have:=(hnew h2 h4 h6).2 c hc2;subst h3
      rw[hfl] at h5; cases h5
      rw[hself] at hc1
      cases hc1; omega
    · omega
  · have hyi:y ≠ i:=fun h=>hSy (.inr h);rw[hother _ fun h=>hyi (zka (k:=k) (by rw[show k=k1 by omega]; exact hk1) hfl)];exact hd.free y k1 hy hk1 fun h=>hSy (.inl h)
theorem zkm(tr:zjV P rec L b T M Hs Rs v){S:Nat->Prop}(hS:zke L S){nf:Nat}{e:Env}{j i:Nat}(hd:zkc L b nf T M e0 h0 w0 N S e j a w)(hi:i < L.length)(hni:¬ S i)(hwi:∀m∈zcX (atO L i),S m)
  {k:Nat} (hfl:zj7 L i=some k) (hdst:∀t,(atO L i).dst=some t->t < N) {v':Value} (hM:M (i+1)=M i) (hv:VR e (v i) v') :
  zkc L b nf T M e0 h0 w0 N (fun m=>S m\/m=i) e j (a.put (atO L i).dst v') w:=by
 have hfree:=hd.free i k hi hfl hni;refine⟨hd.jn,hd.st,hd.hr,by rw[zkj]; exact hd.ms,by rw[put_sz]; exact hd.sz,fun y hy hy2 hyj=>.inl (hd.cut y hy hy2 hyj),fun y hy hy2 hSy hjy=>?_,fun y y2 k1 k2 h1 h2 h3 h4 h5 h6 hne=>?_,fun y k1 hy hk1 hSy=>hd.free y k1 hy hk1 fun h=>hSy (.inl h),hd.bd,zki tr hS hd hi hni hwi hdst (.refl e) hv⟩
 ·rcases hSy with h1 | h1
  ·exact hd.pend y hy hy2 h1 hjy
  ·subst h1; exact⟨k,hfl,.inr ⟨hM,hfree⟩⟩
 ·intro c hc1 hc2
  rcases h3 with h3 | h3 <;> rcases h4 with h4 | h4
  ·exact hd.dj y y2 k1 k2 h1 h2 h3 h4 h5 h6 hne c hc1 hc2
  ·subst h4
   rw[hfl] at h6; cases h6
   rw[hfree] at hc2; cases hc2
  ·subst h3
   rw[hfl] at h5; cases h5
   rw[hfree] at hc1; cases hc1
  ·omega
theorem zkn(tr:zjV P rec L b T M Hs Rs v){S:Nat->Prop}{nf:Nat}{e:Env}{j y:Nat}(hd:zkc L b nf T M e0 h0 w0 N S e j a w)(hy:y < L.length)(hjy:j<=y)(hc:zda L y=2)(hno:∀z,j<=z->z < y->zda L z ≠ 2)(hSy:S y)(_hSL:∀m,S m->m < L.length) :
    zkc L b nf T M e0 h0 w0 N S e (y+1) a w:=by
  have hMy:M y=M j:=zjY tr hjy (by omega) hno;obtain⟨k,hfl,⟨c,ao,co,pm,p1,p2,p3,p4,p5,p6⟩ | ⟨p4,p1⟩⟩:=hd.pend y hy hc hSy hjy
  rotate_left
  · rw[hMy] at p4;refine⟨by omega,by rw[p4]; exact hd.st,by rw[p4]; exact hd.hr,by rw[p4]; exact hd.ms,hd.sz,fun z hz hz2 hzj=>?_,fun z hz hz2 hSz hjz=>?_,fun y1 y2 k1 k2 h1 h2=>hd.dj y1 y2 k1 k2 (by omega) (by omega),hd.free,by rw[p4]; exact hd.bd,hd.sl⟩
    · by_cases hzj2:z < j
      · exact hd.cut z hz hz2 hzj2
      · by_cases hzy:z=y
        · subst hzy; exact hSy
        · exact absurd hz2 (hno z (by omega) (by omega))
    · obtain⟨k1,q1,⟨c1,ao1,co1,sm,s1,s2,s3,s4,s5,s6⟩ | h⟩:=hd.pend z hz hz2 hSz (by omega)
      · exact⟨k1,q1,.inl ⟨c1,ao1,co1,sm,s1,s2,s3,s4,s5,by rw[p4]; exact s6⟩⟩
      · exact⟨k1,q1,.inr h⟩
  rw[hMy] at p4
  have hget:∀{q o},zaj (M (y+1)).t q=some o->(q=b+k/\o=ao)\/(q ≠ b+k/\zaj (M j).t q=some o):=fun {q o} hq=>by
    rw[p4] at hq; exact zeo hq
  have hnx:(M (y+1)).nxt=(M j).nxt:=by rw[p4]; rfl
  refine⟨by omega,⟨hd.st.le,by rw[hnx]; exact hd.st.nxt,hd.st.size,hd.st.tape,hd.st.os,hd.st.output,hd.st.keep,fun q o x hq hx=>?_,hd.st.loops,hd.st.low⟩,
    ⟨fun q hq=>hd.hr.fresh q (by rw[<- hnx]; exact hq),fun q o hq=>?_,fun q q' o1 o2 x h1 h2 h3 h4=>?_,hd.hr.vws.to (.refl e) (Nat.le_refl _) (fun _ _=>rfl) (fun q o x hq hx=>by
      rcases hget hq with ⟨rfl,rfl⟩ | ⟨_,h2⟩
      · rw[p1] at hx; cases hx; exact p5.2
      · exact hd.hr.vws.own q o x h2 hx) fun q x hq=>by rw[p4] at hq; exact hq⟩,?_,hd.sz,fun z hz hz2 hzj=>?_,fun z hz hz2 hSz hjz=>?_,fun y1 y2 k1 k2 h1 h2=>hd.dj y1 y2 k1 k2 (by omega) (by omega),hd.free,by rw[hnx]; exact hd.bd,hd.sl⟩
  · rcases hget hq with ⟨rfl,rfl⟩ | ⟨_,h2⟩
    · rw[p1] at hx; cases hx; exact .inl p5.1
    · exact hd.st.org q o x h2 hx
  · rcases hget hq with ⟨rfl,rfl⟩ | ⟨_,h2⟩
    · exact⟨c,p1,_,p2,p3⟩
    · exact hd.hr.live q o h2
  · rcases hget h1 with ⟨rfl,rfl⟩ | ⟨hn1,g1⟩ <;> rcases hget h2 with ⟨rfl,rfl⟩ | ⟨hn2,g2⟩
    · rfl
    · rw[p1] at h3; cases h3; exact absurd h4 (p6 q' o2 g2)
    · rw[p1] at h4; cases h4; exact absurd h3 (p6 q o1 g1)
    · exact hd.hr.inj q q' o1 o2 x g1 g2 h3 h4
  · obtain⟨ms,m1,m2,m3⟩:=hd.ms;refine⟨ms,m1,m2,fun r hr=>?_⟩;obtain⟨r1,r2,r3⟩:=m3 r hr;refine⟨r1,r2,fun q o hq hcr=>?_⟩
    rcases hget hq with ⟨rfl,rfl⟩ | ⟨_,h2⟩
    · rw[p1] at hcr; cases hcr; rw[p2] at r2; cases r2; rcases pm with ⟨_,_,pm⟩ | pm <;> cases pm
    · exact r3 q o h2 hcr
  · by_cases hzj2:z < j
    · exact hd.cut z hz hz2 hzj2
    · by_cases hzy:z=y
      · subst hzy; exact hSy
      · exact absurd hz2 (hno z (by omega) (by omega))
  · obtain⟨k1,q1,⟨c1,ao1,co1,sm,s1,s2,s3,s4,s5,s6⟩ | h⟩:=hd.pend z hz hz2 hSz (by omega)
    rotate_left
    · exact⟨k1,q1,.inr h⟩
    refine⟨k1,q1,.inl ⟨c1,ao1,co1,sm,s1,s2,s3,s4,s5,fun q o hq hcq=>?_⟩⟩
    rcases hget hq with ⟨rfl,rfl⟩ | ⟨_,h2⟩
    · exact hd.dj y z k k1 hjy (by omega) hSy hSz hfl q1 (by omega) c1 hcq s1
    · exact s6 q o h2 hcq
theorem zko(tr:zjV P rec L b T M Hs Rs v){S:Nat->Prop}{nf:Nat}{e:Env}(hSL:∀m,S m->m < L.length):∀(d:Nat) {j:Nat},L.length - j<=d->zkc L b nf T M e0 h0 w0 N S e j a w->∃j',zkc L b nf T M e0 h0 w0 N S e j' a w/\zkd L S j':=by
 intro d
 induction d with
 | zero=>
  intro j hj hd;exact⟨j,hd,fun y hy hjy _ _=>by omega⟩
 | succ d ih=>
  intro j hj hd
  by_cases hex:∃y,j<=y/\y < L.length/\(zda L y=2/\S y/\∀z,j<=z->z < y->zda L z ≠ 2)
  ·obtain⟨y,h1,h2,h3,h4,h5⟩:=hex;exact ih (by omega) (zkn tr hd h2 h1 h3 h5 h4 hSL)
  ·exact⟨j,hd,fun y hy hjy hc hno hSy=>hex ⟨y,hjy,hy,hc,hSy,hno⟩⟩
theorem zkp{i id:Nat}:zdt P (zjg (fun t=>zaK t (zc4 L (atO L i))) (T i)) (atO L i).op id=zdt P (T i) (atO L i).op id:=by
 have hx:∀x,x∈(atO L i).op.operands->opd (zjg (fun t=>zaK t (zc4 L (atO L i))) (T i)) x=opd (T i) x:=fun x hx=>by
  cases x with
  | tmp t=>
   show zag _ t=zag _ t
   rw[zjh,zht,List.contains_iff_mem.2 (zjG hx)]
   rfl
  | _=>rfl
 cases ho:(atO L i).op with
 | alloc t=>rfl
 | makeSlice t l c=>
  rw[ho] at hx;unfold zdt
  simp only[hx l (by simp[Op.operands]),hx c (by simp[Op.operands])]
 | buildSlice t len parts=>
  rw[ho] at hx
  have hp:zaE (zbN (zjg (fun t=>zaK t (zc4 L (atO L i))) (T i))) parts.toList=zaE (zbN (T i)) parts.toList:=by
   have hm:∀p∈parts.toList,opd (zjg (fun t=>zaK t (zc4 L (atO L i))) (T i)) p.2=opd (T i) p.2:=fun p hp=>hx p.2 (by
    show p.2∈(parts.toList.map (·.2)).toArray
    simp only[List.mem_toArray,List.mem_map]
    exact⟨p,hp,rfl⟩)
   generalize parts.toList=l at hm
   induction l with
   | nil=>rfl
   | cons p ps ih=>
    show zaa (zaa (opd _ p.2) none fun x=>zbh x none (some (p.1,x))) none _=zaa (zaa (opd _ p.2) none fun x=>zbh x none (some (p.1,x))) none _
    rw[hm p (List.mem_cons_self ..)];have:=ih fun q hq=>hm q (List.mem_cons_of_mem _ hq)
    show zaa _ none (fun y=>zaa (zaE (zbN (zjg _ (T i))) ps) none fun ys=>some (y::ys))=zaa _ none (fun y=>zaa (zaE (zbN (T i)) ps) none fun ys=>some (y::ys))
    rw[this]
  unfold zdt
  simp only[hp]
 | _=>rfl
structure Way (P:Program) (rec:Rec) (L:List Oper) (b:Nat) (l:List DI) (O:Out) (T:Nat->S3 V) (M:Nat->H) (Hs:Nat->List (Nat × H)) (Rs:Nat->List RE) (v:Nat->V):Prop where
 tr:zjV P rec L b T M Hs Rs v
 nf:∀i,i<=L.length->zh6 (zdx P rec L b (l.drop i) (T i) (M i) (Hs i) (Rs i))
 lf:∀i,i<=L.length->∀ex tm h,zh5 (zdx P rec L b (l.drop i) (T i) (M i) (Hs i) (Rs i)) ex tm h->zh5 O ex tm h
structure Agr (j:Nat) (T:Nat->S3 V) (M:Nat->H) (v:Nat->V) (T':Nat->S3 V) (M':Nat->H) (v':Nat->V):Prop where
 t:∀k,k<=j->T' k=T k
 m:∀k,k<=j->M' k=M k
 v:∀k,k < j->v' k=v k
structure Lst (L:List Oper) (l:List DI):Prop where
 len:l.length=L.length
 at':∀k,k < L.length->l[k]? = some (zdg L (zc2 [] L) k)
 cls:∀d∈l,d.cls=classOf d.o.op/\d.cls<=2/\∀k,d.flt=some k->d.cls=2
variable {l:List DI} {O:Out}
theorem zkq(hl:Lst L l)(wy:Way P rec L b l O T M Hs Rs v){i:Nat}(hi:i < L.length)(hfl:zj7 L i=none){t:zcM}{r:R}(hr:opR P (T i) (M i) (atO L i).op=some r)
    (ht:(∃f args,r=.call f args/\t=.call f args)\/∃f args,r=.yield f args/\t=.yield f args) (hw:zcO L (T i) (atO L i)=some true) :
    zh6 (rec t e3 (M i))/\∀ex tmx hx,zh5 (rec t e3 (M i)) ex tmx hx->∃v0,ex=.val v0/\∃T' M' Hs' Rs' v',Way P rec L b l O T' M' Hs' Rs' v'/\Agr i T M v T' M' v'/\M' (i+1)=hx/\v' i=v0:=by
  have hil:i < l.length:=by rw[hl.len]; exact hi
  have hd:l[i]'hil=zdg L (zc2 [] L) i:=by
    have:=hl.at' i hi;rw[List.getElem?_eq_getElem hil] at this;exact oi this
  have hdr:l.drop i=zdg L (zc2 [] L) i::l.drop (i+1):=by rw[List.drop_eq_getElem_cons hil,hd]
  have hn:=wy.nf i (by omega);have hlf:=wy.lf i (by omega);rw[hdr] at hn hlf;obtain⟨hc1,hc2,_⟩:=hl.cls (zdg L (zc2 [] L) i) (by rw[<- hd]; exact List.getElem_mem _);obtain⟨q1,q2⟩:=zjQ (d:=zdg L (zc2 [] L) i) hr ht hw hc1 hc2 hfl hn;refine⟨q1,fun ex tmx hx hlv=>?_⟩;obtain⟨v0,rfl,q3,q4,q5⟩:=q2 _ _ _ hlv;obtain⟨Tt,Mt,Ht,Rt,vt,r1,r2,r3,r4,r5,r6⟩:=zjR (l.drop (i+1)) _ _ _ _ (fun d hd=>hl.cls d (List.mem_of_mem_drop hd)) q4
  have h3:∀k,¬ k<=i->k - (i+1)+(i+1)=k:=fun k hk=>by omega
  refine⟨v0,rfl,fun k=>if k<=i then T k else Tt (k - (i+1)),fun k=>if k<=i then M k else Mt (k - (i+1)),fun k=>if k<=i then Hs k else Ht (k - (i+1)),fun k=>if k<=i then Rs k else Rt (k - (i+1)),
    fun k=>if k < i then v k else if k=i then v0 else vt (k - (i+1)),⟨⟨fun k hk=>?_,wy.tr.ord⟩,fun k hk=>?_,fun k hk=>?_⟩,⟨fun k hk=>if_pos hk,fun k hk=>if_pos hk,fun k hk=>if_pos hk⟩,?_,?_⟩
  · rcases Nat.lt_trichotomy k i with h | h | h
    · simp only[if_pos (show k<=i by omega),if_pos (show k+1<=i by omega),if_pos h]
      exact wy.tr.step k hk
    · subst h
      simp only[if_pos (Nat.le_refl k),if_neg (show ¬ k+1<=k by omega),if_neg (show ¬ k < k by omega),if_true,Nat.sub_self]
      rw[r1,r2,r3,r4];exact q3
    · simp only[if_neg (show ¬ k<=i by omega),if_neg (show ¬ k+1<=i by omega),if_neg (show ¬ k < i by omega),if_neg (show ¬ k=i by omega),show k+1 - (i+1)=k - (i+1)+1 by omega]
      refine r6 _ _ ?_;rw[List.getElem?_drop,show i+1+(k - (i+1))=k by omega];exact hl.at' k hk
  · by_cases h:k<=i
    · simp only[if_pos h]; exact wy.nf k hk
    · simp only[if_neg h]
      have:=(r5 (k - (i+1)) (by rw[List.length_drop,hl.len]; omega)).1;rw[List.drop_drop,show i+1+(k - (i+1))=k by omega] at this;exact this
  · by_cases h:k<=i
    · simp only[if_pos h]; exact wy.lf k hk
    · simp only[if_neg h]
      have:=(r5 (k - (i+1)) (by rw[List.length_drop,hl.len]; omega)).2;rw[List.drop_drop,show i+1+(k - (i+1))=k by omega] at this;exact fun ex tm' h' hq=>hlf _ _ _ (q5 _ _ _ (this _ _ _ hq))
  · simp only[if_neg (show ¬ i+1<=i by omega),Nat.sub_self]
    exact r2
  · simp only[if_neg (show ¬ i < i by omega),if_true]
theorem zkr{α:Type}{t:S3 α}{k k':Nat}{x:α}(hp:zae k' ≠ zae k):zag (zah t k x) k'=zag t k':=by
 rw[zee,zee,zeg,if_neg hp]
theorem zks{T':Nat->S3 V}{M':Nat->H}{Hs':Nat->List (Nat × H)}{Rs':Nat->List RE}{v':Nat->V}(tr:zjV P rec L b T M Hs Rs v)(tr':zjV P rec L b T' M' Hs' Rs' v')(h0':T' 0=T 0){t:Nat}:∀{j:Nat},j<=L.length->(∀k,k < j->(atO L k).dst=some t->v' k=v k)->zag (T' j) t=zag (T j) t
 | 0,_,_=>by rw[h0']
 | j+1,hj,hk=>by
  have ih:=zks tr tr' h0' (t:=t) (j:=j) (by omega) fun k h1 h2=>hk k (by omega) h2;rw[(tr'.step j (by omega)).tm,(tr.step j (by omega)).tm];have hdi:(zdg L (zc2 [] L) j).o.dst=(atO L j).dst:=rfl;rw[hdi]
  cases hdst:(atO L j).dst with
  | none=>exact ih
  | some d=>
   rw[zig,zig]
   by_cases hd:d=t
   ·subst hd; rw[hk j (by omega) hdst,zee,zee,zeg,zeg,if_pos rfl,if_pos rfl]
   ·by_cases hp:zae t=zae d
    ·rw[zee,zee,zeg,zeg,if_pos hp,if_pos hp]
     have hno:∀x:V,atL t (Go.Abs.L.x d x)=none:=fun x=>by
      show ifB (Nat.beq d t) (some x) none=none
      cases hb:Nat.beq d t with
      | true=>exact absurd (Nat.eq_of_beq_eq_true hb) hd
      | false=>rfl
     rw[hno,hno]
    ·rw[zkr hp,zkr hp]; exact ih
structure zkt (P:Program) (rec:Rec) (L:List Oper) (b:Nat) (l:List DI) (O:Out) (nf:Nat) (e0:Env) (h0:H) (w0:World) (N:Nat) (S:Nat->Prop) (e:Env) (j:Nat) (a:Act) (w:World) (T:Nat->S3 V) (M:Nat->H) (Hs:Nat->List (Nat × H)) (Rs:Nat->List RE) (v:Nat->V):Prop where
 wy:Way P rec L b l O T M Hs Rs v
 al:∀T' M' Hs' Rs' v',Way P rec L b l O T' M' Hs' Rs' v'->Agr j T M v T' M' v'->zkc L b nf T' M' e0 h0 w0 N S e j a w/\∀m,S m->v' m=v m
theorem Agr.refl(j:Nat)(T:Nat->S3 V)(M:Nat->H)(v:Nat->V):Agr j T M v T M v:=⟨fun _ _=>rfl,fun _ _=>rfl,fun _ _=>rfl⟩
theorem Agr.mono{j i:Nat}{T':Nat->S3 V}{M':Nat->H}{v':Nat->V}(h:Agr i T M v T' M' v')(hj:j<=i):Agr j T M v T' M' v':=⟨fun k hk=>h.t k (by omega),fun k hk=>h.m k (by omega),fun k hk=>h.v k (by omega)⟩
theorem Agr.trans{j:Nat}{T' T'':Nat->S3 V}{M' M'':Nat->H}{v' v'':Nat->V}(h:Agr j T M v T' M' v')(h2:Agr j T' M' v' T'' M'' v''):Agr j T M v T'' M'' v'':=
 ⟨fun k hk=>(h2.t k hk).trans (h.t k hk),fun k hk=>(h2.m k hk).trans (h.m k hk),fun k hk=>(h2.v k hk).trans (h.v k hk)⟩
theorem zkt.di{nf:Nat}{S:Nat->Prop}{e:Env}{j:Nat}(hs:zkt P rec L b l O nf e0 h0 w0 N S e j a w T M Hs Rs v):zkc L b nf T M e0 h0 w0 N S e j a w:=(hs.al _ _ _ _ _ hs.wy (.refl _ _ _ _)).1
theorem zkt.norm{nf:Nat}{S:Nat->Prop}{e:Env}(hSL:∀m,S m->m < L.length):∀(d:Nat) {j:Nat},L.length - j<=d->zkt P rec L b l O nf e0 h0 w0 N S e j a w T M Hs Rs v->∃j',zkt P rec L b l O nf e0 h0 w0 N S e j' a w T M Hs Rs v/\zkd L S j':=by
 intro d
 induction d with
 | zero=>
  intro j hj hd;exact⟨j,hd,fun y hy hjy _ _=>by omega⟩
 | succ d ih=>
  intro j hj hd
  by_cases hex:∃y,j<=y/\y < L.length/\(zda L y=2/\S y/\∀z,j<=z->z < y->zda L z ≠ 2)
  ·obtain⟨y,h1,h2,h3,h4,h5⟩:=hex;refine ih (j:=y+1) (by omega) ⟨hd.wy,fun T' M' Hs' Rs' v' wy' ha=>?_⟩;obtain⟨q1,q2⟩:=hd.al _ _ _ _ _ wy' (ha.mono (by omega));exact⟨zkn wy'.tr q1 h2 h1 h3 h5 h4 hSL,q2⟩
  ·exact⟨j,hd,fun y hy hjy hc hno hSy=>hex ⟨y,hjy,hy,hc,hSy,hno⟩⟩
theorem zku{T':Nat->S3 V}{M':Nat->H}{Hs':Nat->List (Nat × H)}{Rs':Nat->List RE}{v':Nat->V}(tr:zjV P rec L b T M Hs Rs v)(tr':zjV P rec L b T' M' Hs' Rs' v')(h0':T' 0=T 0){S:Nat->Prop}(hS:zke L S){i:Nat}(hi:i < L.length)(hwi:∀m∈zcX (atO L i),S m)(hv:∀m,S m->v' m=v m) :
  ∀t∈zc4 L (atO L i),zag (T' i) t=zag (T i) t:=fun t hm=>zks tr tr' h0' (by omega) fun m hm1 hdst=>by
 rcases tr.ord.apart m i hm1 hi with h1 | ⟨h1,_⟩
 ·exact hv m (zju hS.cl i hi hwi m h1)
 ·have:=h1 t hdst;rw[zjI hm] at this
  cases this
theorem zkv{T':Nat->S3 V}{i:Nat}(hl:∀t∈zc4 L (atO L i),zag (T' i) t=zag (T i) t)(h:H):opR P (T' i) h (atO L i).op=opR P (T i) h (atO L i).op:=by
 refine ziE fun x hx=>?_
 cases x with
 | tmp t=>exact hl t (zjG hx)
 | _=>rfl
theorem zkw{T':Nat->S3 V}{i:Nat}(hl:∀t∈zc4 L (atO L i),zag (T' i) t=zag (T i) t):zcO L (T' i) (atO L i)=zcO L (T i) (atO L i):=by
 unfold zcO
 cases hg:(atO L i).guard with
 | none=>rfl
 | some g=>
  rw[zd6,zd6];unfold zcN
  cases hp:atS L g.1 with
  | none=>rfl
  | some p=>
   rw[zd6,zd6]
   cases hd:p.dst with
   | none=>rfl
   | some d=>rw[zd6,zd6,hl d (zjH (b:=g.2) hg hp hd)]
theorem zkx{T':Nat->S3 V}{i id:Nat}(hl:∀t∈zc4 L (atO L i),zag (T' i) t=zag (T i) t):zdt P (T' i) (atO L i).op id=zdt P (T i) (atO L i).op id:=by
 have hx:∀x,x∈(atO L i).op.operands->opd (T' i) x=opd (T i) x:=fun x hx=>by
  cases x with
  | tmp t=>exact hl t (zjG hx)
  | _=>rfl
 cases ho:(atO L i).op with
 | alloc t=>rfl
 | makeSlice t l c=>
  rw[ho] at hx;unfold zdt
  simp only[hx l (by simp[Op.operands]),hx c (by simp[Op.operands])]
 | buildSlice t len parts=>
  rw[ho] at hx
  have hp:zaE (zbN (T' i)) parts.toList=zaE (zbN (T i)) parts.toList:=by
   have hm:∀p∈parts.toList,opd (T' i) p.2=opd (T i) p.2:=fun p hp=>hx p.2 (by
    show p.2∈(parts.toList.map (·.2)).toArray
    simp only[List.mem_toArray,List.mem_map]
    exact⟨p,hp,rfl⟩)
   generalize parts.toList=l at hm
   induction l with
   | nil=>rfl
   | cons p ps ih=>
    show zaa (zaa (opd _ p.2) none fun x=>zbh x none (some (p.1,x))) none _=zaa (zaa (opd _ p.2) none fun x=>zbh x none (some (p.1,x))) none _
    rw[hm p (List.mem_cons_self ..)];have:=ih fun q hq=>hm q (List.mem_cons_of_mem _ hq)
    show zaa _ none (fun y=>zaa (zaE (zbN (T' i)) ps) none fun ys=>some (y::ys))=zaa _ none (fun y=>zaa (zaE (zbN (T i)) ps) none fun ys=>some (y::ys))
    rw[this]
  unfold zdt
  simp only[hp]
 | _=>rfl
theorem zky(hP:zgE P)(hsnd:zir P rec)(hl:Lst L l){ops:Array Oper}(hL:ops.toList=L){S:Nat->Prop}(hS:zke L S){nf:Nat}(hnf:∀y k,zj7 L y=some k->k < nf)(hb0:h0.nxt<=b){e:Env}{j i:Nat}(st:zkt P rec L b l O nf e0 h0 w0 N S e j a w T M Hs Rs v)(hnm:zkd L S j)(hi:i < L.length)(hni:¬ S i)(hwi:∀m∈zcX (atO L i),S m)
    (hdst:∀t,(atO L i).dst=some t->t < N) {K:Act->World->Prop} {Q:Exit->Act->World->Prop} (hK:∀T' M' Hs' Rs' v' e' j' a' w',zkt P rec L b l O nf e0 h0 w0 N (fun m=>S m\/m=i) e' j' a' w' T' M' Hs' Rs' v'->K a' w'):wpOpIn (zii ro) nn P ops Q i K a w:=by
  have tr:=st.wy.tr;have hd:=st.di
  have hop:ops[i]? = some (atO L i):=by
    rw[<- Array.getElem?_toList,hL];unfold atO;rw[zjj,List.getD_eq_getElem?_getD,List.getElem?_eq_getElem hi]
    rfl
  unfold wpOpIn
  simp only[hop]
  have ht:=zkf tr hS hd hi hni hwi;have hst:=tr.step i hi
  have hlk:∀{T' M' Hs' Rs' v'},Way P rec L b l O T' M' Hs' Rs' v'->Agr j T M v T' M' v'->∀t∈zc4 L (atO L i),zag (T' i) t=zag (T i) t:=fun {T' M' Hs' Rs' v'} wy' ha=>
    zku tr wy'.tr (ha.t 0 (by omega)) hS hi hwi (st.al _ _ _ _ _ wy' ha).2
  have hvs:∀{v':Nat->V},(∀m,S m->v' m=v m)->v' i=v i->∀m,(S m\/m=i)->v' m=v m:=fun h1 h2 m hm=>hm.elim (h1 m) fun h=>h ▸ h2
  cases hfl:zj7 L i with
  | some k=>
    have hkind:=(zjS hfl).1;obtain⟨t,hw,hf,hv⟩:=hst.flt k hfl;have hw':zcO L (T i) (atO L i)=some t:=hw
    have hwk:zcO ops.toList (zjg (fun t=>zaK t (zc4 L (atO L i))) (T i)) (atO L i)=some t:=by rw[hL,zkh]; exact hw'
    rw[zih ht hwk]
    cases t with
    | true=>
      simp only[if_true]
      obtain⟨ao,hop1,hM1⟩:=hv rfl
      have hop2:zdt P (zjg (fun t=>zaK t (zc4 L (atO L i))) (T i)) (atO L i).op (b+k)=some (v i,ao):=by
        rw[zkp]; exact hop1
      obtain⟨co,sz,x',hmk,hrun,hor,hvr⟩:=zj6 (a:=a) hop2 ht (hd.free i k hi hfl hni) w;refine⟨fun _ _=>trivial,?_⟩
      rw[zis (fun c hc=>by
        unfold zdc at hkind;rw[hc] at hkind
        cases hkind),hrun,Oper.uponIn_value]
      refine hK T M Hs Rs v (e.put (b+k) w.heap.size sz 0) j _ _ ⟨st.wy,fun T' M' Hs' Rs' v' wy' ha=>?_⟩;obtain⟨q1,q2⟩:=st.al _ _ _ _ _ wy' ha;obtain⟨t',hw2,_,hv2⟩:=(wy'.tr.step i hi).flt k hfl;have hw3:zcO L (T' i) (atO L i)=some t':=hw2;rw[zkw (hlk wy' ha),hw'] at hw3
      cases hw3
      obtain⟨ao',hop3,hM3⟩:=hv2 rfl;have hop4:zdt P (T' i) (atO L i).op (b+k)=some (v' i,ao'):=hop3;rw[zkx (hlk wy' ha),show zdt P (T i) (atO L i).op (b+k)=_ from hop1] at hop4;have hve:v' i=v i:=(Prod.mk.inj (oi hop4)).1.symm;have hae:ao'=ao:=(Prod.mk.inj (oi hop4)).2.symm;subst hae;exact⟨zkl wy'.tr hS q1 hi hni hwi hnf hfl hb0 hdst hmk hM3 hor (by rw[hve]; exact hvr),hvs q2 hve⟩
    | false=>
      simp only[Bool.false_eq_true,if_false]
      refine⟨fun _ _=>trivial,?_⟩;refine hK T M Hs Rs v e j _ _ ⟨st.wy,fun T' M' Hs' Rs' v' wy' ha=>?_⟩;obtain⟨q1,q2⟩:=st.al _ _ _ _ _ wy' ha;obtain⟨t',hw2,hf2,_⟩:=(wy'.tr.step i hi).flt k hfl;have hw3:zcO L (T' i) (atO L i)=some t':=hw2;rw[zkw (hlk wy' ha),hw'] at hw3
      cases hw3
      obtain⟨s1,s2⟩:=hf2 rfl;exact⟨zkm wy'.tr hS q1 hi hni hwi hfl hdst s2 (by rw[s1]; exact VR.undef e),hvs q2 (by rw[s1,(hf rfl).1])⟩
  | none=>
  obtain⟨t,hw,hf,hv⟩:=hst.val hfl;have hw':zcO L (T i) (atO L i)=some t:=hw
  have hwk:zcO ops.toList (zjg (fun t=>zaK t (zc4 L (atO L i))) (T i)) (atO L i)=some t:=by rw[hL,zkh]; exact hw'
  rw[zih ht hwk]
  have hnb:zdd L (zc2 [] L) i=false:=by
    cases hb:zdd L (zc2 [] L) i with
    | false=>rfl
    | true=>
      have:zj7 L i=some (zde L (zc2 [] L) i):=by
        show ifB (zdd L (zc2 [] L) i) _ none=_
        rw[hb]; rfl
      rw[hfl] at this; cases this
  have hji:zda L i=2->j<=i:=fun hc=>by
    rcases Nat.lt_or_ge i j with h1 | h1
    · exact absurd (hd.cut i hi hc h1) hni
    · exact h1
  have heff:∀{T' M' Hs' Rs' v'},zjV P rec L b T' M' Hs' Rs' v'->zda L i=2->M' j=M' i:=fun tr' hc=>by
    refine(zjY tr' (hji hc) (by omega) fun k k1 k2 k3=>?_).symm;obtain⟨y,y1,y2,y3,y4⟩:=zj2 (p:=fun k=>zda L k=2) i j ⟨k,k1,k2,k3⟩;exact hnm y (by omega) y1 y3 y4 (zju hS.cl i hi hwi y (tr.ord.chain y i y2 hi y3 hc hnb))
  have h3:zda L i<=2:=by unfold zda classOf; split <;> omega
  have hval:∀{T' M' Hs' Rs' v'},Way P rec L b l O T' M' Hs' Rs' v'->Agr j T M v T' M' v'->∃t',zcO L (T' i) (atO L i)=some t'/\t'=t/\(t'=false->v' i=.tup []/\M' (i+1)=M' i):=fun {T' M' Hs' Rs' v'} wy' ha=>by
    obtain⟨t',hw2,hf2,_⟩:=(wy'.tr.step i hi).val hfl;have hw3:zcO L (T' i) (atO L i)=some t':=hw2;refine⟨t',hw3,?_,hf2⟩;rw[zkw (hlk wy' ha),hw'] at hw3
    cases hw3; rfl
  cases t with
  | false=>
    simp only[Bool.false_eq_true,if_false]
    refine⟨fun _ _=>trivial,?_⟩;obtain⟨q1,q2⟩:=hf rfl;refine hK T M Hs Rs v e (if zda L i=2 then i+1 else j) _ _ ⟨st.wy,fun T' M' Hs' Rs' v' wy' ha=>?_⟩
    have ha0:Agr j T M v T' M' v':=ha.mono (by
      by_cases hc:zda L i=2
      · rw[if_pos hc]; have:=hji hc; omega
      · rw[if_neg hc]; exact Nat.le_refl _)
    obtain⟨d1,d2⟩:=st.al _ _ _ _ _ wy' ha0;obtain⟨t',_,rfl,r3⟩:=hval wy' ha0;obtain⟨r4,r5⟩:=r3 rfl;refine⟨zkk wy'.tr hS d1 hi hni hwi hnf hfl hdst (e':=e) (w':=w) ?_ ?_ (by rw[r4]; exact VR.undef e),hvs d2 (by rw[r4,q1])⟩
    · by_cases hc:zda L i=2
      · rw[if_pos hc,r5,<- heff wy'.tr hc]; exact .refl _ _ _
      · rw[if_neg hc]; exact .refl _ _ _
    · by_cases hc:zda L i=2
      · rw[if_pos hc,r5,<- heff wy'.tr hc]; exact d1.hr
      · rw[if_neg hc]; exact d1.hr
  | true=>
    simp only[if_true]
    by_cases hc:zda L i=2
    · have hMj:=heff tr hc;obtain⟨r,hr,hrc⟩:=hv rfl
      have hrk:opR P (zjg (fun t=>zaK t (zc4 L (atO L i))) (T i)) (M i) (atO L i).op=some r:=by rw[zkg]; exact hr
      have hHR:HR e (M i) w:=by rw[<- hMj]; exact hd.hr
      obtain⟨k1,k2,_⟩:=zh4 (a:=a) hP hHR ht hrk
      have hgo:∀{T1 M1 Hs1 Rs1 v1},Way P rec L b l O T1 M1 Hs1 Rs1 v1->Agr i T M v T1 M1 v1->∀e' w' x',zeE e (M i) w e' (M1 (i+1)) w'->HR e' (M1 (i+1)) w'->VR e' (v1 i) x'->K (a.put (atO L i).dst x') w':=fun {T1 M1 Hs1 Rs1 v1} wy1 a1 e' w' x' q1 q2 q3=>by
        refine hK T1 M1 Hs1 Rs1 v1 e' (i+1) _ _ ⟨wy1,fun T' M' Hs' Rs' v' wy' ha=>?_⟩;have ha0:Agr j T M v T' M' v':=(a1.trans (ha.mono (by omega))).mono (hji hc);obtain⟨d1,d2⟩:=st.al _ _ _ _ _ wy' ha0;obtain⟨_,d3⟩:=st.al _ _ _ _ _ wy1 (a1.mono (hji hc));have hM1:M' (i+1)=M1 (i+1):=ha.m _ (Nat.le_refl _);have hv1:v' i=v1 i:=ha.v _ (Nat.lt_succ_self _)
        have hMj2:M' j=M i:=by rw[ha0.m j (Nat.le_refl _),hMj]
        have hd5:=zkk wy'.tr hS d1 hi hni hwi hnf hfl hdst (e':=e') (w':=w') (v':=x') (by rw[if_pos hc,hMj2,hM1]; exact q1) (by rw[if_pos hc,hM1]; exact q2) (by rw[hv1]; exact q3);rw[if_pos hc] at hd5;refine⟨hd5,fun m hm=>?_⟩
        rcases hm with hm | hm
        · rw[d2 m hm,d3 m hm]
        · subst hm; exact hv1
      have hcall:∀{t:zcM} {tmx:S3 V},((∃f args,r=.call f args/\t=.call f args)\/∃f args,r=.yield f args/\t=.yield f args)->zjK (rec t e3 (M i)) (v i) tmx (M (i+1)) ->
          ∀{v0:V} {tm':S3 V} {h':H} {e':Env} {w':World} {x':Value},zh5 (rec t e3 (M i)) (.val v0) tm' h'->zeE e (M i) w e' h' w'->HR e' h' w'->VR e' v0 x'->K (a.put (atO L i).dst x') w':=fun {t tmx} ht1 hrec {v0 tm' h' e' w' x'} hl1 q1 q2 q3=>by
        obtain⟨_,s1⟩:=zkq hl st.wy hi hfl hr ht1 hw';obtain⟨v1,hv1,T',M',Hs',Rs',v'',s2,s3,s4,s5⟩:=s1 _ _ _ hl1
        cases hv1
        subst s4;exact hgo s2 s3 e' w' x' q1 q2 (by rw[s5]; exact q3)
      rcases hrc with ⟨h',rfl,h2⟩ | ⟨f,args,tmx,rfl,_,hrec⟩ | ⟨f,args,tmx,rfl,_,hrec⟩
      · have hh':=h2 hc;subst hh';exact zit k2 k1.1 (hgo st.wy (.refl _ _ _ _))
      · refine ziv hsnd hHR k2 k1 (tm1:=e3) hrec.1 fun v0 tm' h' e' w' v' hl1 q1 q2 q3=>hcall (.inl ⟨f,args,rfl,rfl⟩) hrec hl1 q1 q2 q3
      · refine ziw hsnd hHR k2 k1 (tm1:=e3) hrec.1 fun v0 tm' h' e' w' v' hl1 q1 q2 q3=>hcall (.inr ⟨f,args,rfl,rfl⟩) hrec hl1 q1 q2 q3
    · have hrd:=zj4 tr hS.cl hi hd.jn hc hni hwi hd.cut hnm hw'
      cases hr:opR P (T i) (M j) (atO L i).op with
      | none=>rw[hr] at hrd; cases hrd
      | some r=>
        rw[hr] at hrd
        have hrk:opR P (zjg (fun t=>zaK t (zc4 L (atO L i))) (T i)) (M j) (atO L i).op=some r:=by rw[zkg]; exact hr
        obtain⟨k1,k2,_⟩:=zh4 (a:=a) hP hd.hr ht hrk
        cases r with
        | val u h'=>
          have hu:u=v i:=by have:some u=some (v i):=hrd; cases this; rfl
          subst hu
          have hh' := k1.2 (show classOf (atO L i).op < 2 by have:zda L i < 2:=by omega
                                                             exact this)
          subst hh';refine zit k2 k1.1 fun e' w' x' q1 q2 q3=>hK T M Hs Rs v e' j _ _ ⟨st.wy,fun T' M' Hs' Rs' v' wy' ha=>?_⟩;obtain⟨d1,d2⟩:=st.al _ _ _ _ _ wy' ha;obtain⟨t',s1,rfl,_⟩:=hval wy' ha;have hMj:M' j=M j:=ha.m j (Nat.le_refl _)
          have hve:v' i=v i:=by
            have hrd':=zj4 wy'.tr hS.cl hi d1.jn hc hni hwi d1.cut hnm s1;rw[hMj,zkv (hlk wy' ha),hr] at hrd';have:some (v i)=some (v' i):=hrd';exact(oi this).symm
          have hd5:=zkk wy'.tr hS d1 hi hni hwi hnf hfl hdst (e':=e') (w':=w') (v':=x') (by rw[if_neg hc,hMj]; exact q1) (by rw[if_neg hc,hMj]; exact q2) (by rw[hve]; exact q3);rw[if_neg hc] at hd5;exact⟨hd5,hvs d2 hve⟩
        | call f args=>cases hrd
        | yield l args=>cases hrd
        | alts l=>cases hrd
theorem zkz(l:List Bool)(i:Nat)(hi:l[i]? = some false):((l.set i true).filter (!·)).length+1=(l.filter (!·)).length:=by
 induction l generalizing i with
 | nil=>simp at hi
 | cons x xs ih=>
  cases i with
  | zero=>
   have:x=false:=by simpa using hi
   subst this
   simp
  | succ i=>
   have:=ih i (by simpa using hi);rw[List.set_cons_succ]
   cases x <;> simp <;> omega
theorem zkA(hP:zgE P)(hsnd:zir P rec)(hl:Lst L l)(_hord:zjB L){nf:Nat}(hnf:∀y k,zj7 L y=some k->k < nf)(hb0:h0.nxt<=b){ops:Array Oper}(hL:ops.toList=L)(hdst:∀o∈L,∀t,o.dst=some t->t < N){Q:Exit->Act->World->Prop}
  (hQ:∀ tm' h' a' w',zh5 O .nrm tm' h'->Inv e0 h0 w0 N tm' h' a' w'->Q .normal a' w'):∀ (fuel:Nat) (T:Nat->S3 V) (M:Nat->H) (Hs:Nat->List (Nat × H)) (Rs:Nat->List RE) (v:Nat->V) (listed:Array Bool) (e:Env) (j:Nat) (a:Act) (w:World),listed.size=L.length->(listed.toList.filter (!·)).length<=fuel ->
   zke L (fun m=>listed.getD m false=true)->zkt P rec L b l O nf e0 h0 w0 N (fun m=>listed.getD m false=true) e j a w T M Hs Rs v->zkd L (fun m=>listed.getD m false=true) j->wpAnyIn (zii ro) nn P .any ops Q fuel listed a w:=by
 intro fuel
 have hsize:ops.size=L.length:=by rw[<- hL,Array.length_toList]
 have hready:∀(listed:Array Bool),listed.size=L.length->∀i,i∈Region.ready .any ops listed↔i < L.length/\listed.getD i false=false/\∀m∈zcX (atO L i),listed.getD m false=true:=by
  intro listed hls i;unfold Region.ready;rw[List.mem_filter,List.mem_range,hsize];refine and_congr_right fun hi=>?_
  have hop:ops[i]? = some (atO L i):=by
   rw[<- Array.getElem?_toList,hL];unfold atO;rw[zjj,List.getD_eq_getElem?_getD,List.getElem?_eq_getElem hi]
   rfl
  rw[hop]
  have hget:listed.getD i true=listed.getD i false:=by
   rw[Array.getD_eq_getD_getElem?,Array.getD_eq_getD_getElem?,Array.getElem?_eq_getElem (by omega)]
   rfl
  rw[hget,Bool.and_eq_true,Option.map_some,Option.getD_some]
  refine and_congr (by cases listed.getD i false <;> simp) ?_
  rw[Array.all_eq_true']
  constructor
  ·intro hh m hm;obtain⟨ed,h1,h2,rfl⟩:=zjk.1 hm;have:=hh ed (Array.mem_toList_iff.1 h1);rw[h2] at this
   simpa using this
  ·intro hh ed hed
   cases hb:Region.binds .any ed with
   | false=>rfl
   | true=>
    have:=hh ed.on (zjk.2 ⟨ed,Array.mem_toList_iff.2 hed,hb,rfl⟩)
    simpa using this
 have hdone:∀(T:Nat->S3 V) (M:Nat->H) (Hs:Nat->List (Nat × H)) (Rs:Nat->List RE) (v:Nat->V) (_:Way P rec L b l O T M Hs Rs v) (listed:Array Bool) (e:Env) (j:Nat) (a:Act) (w:World),listed.size=L.length->zkc L b nf T M e0 h0 w0 N (fun m=>listed.getD m false=true) e j a w->zkd L (fun m=>listed.getD m false=true) j->Region.ready .any ops listed=[]->Q .normal a w:=by
  intro T M Hs Rs v wy listed e j a w hls hd hnm hr;have tr:=wy.tr
  have hall:∀i,i < L.length->listed.getD i false=true:=by
   intro i
   induction i using Nat.strongRecOn with
   | _ i ih=>
    intro hi
    cases hl:listed.getD i false with
    | true=>rfl
    | false=>
     exfalso
     have:i∈Region.ready .any ops listed:=(hready listed hls i).2 ⟨hi,hl,fun m hm=>by
      have hmi:=tr.ord.down i hi m (zjt L hi hm)
      exact ih m hmi (by omega)⟩
     rw[hr] at this
     cases this
  have hM:M L.length=M j:=zjY tr hd.jn (Nat.le_refl _) fun k k1 k2 k3=>by
   obtain⟨y,y1,y2,y3,y4⟩:=zj2 (p:=fun k=>zda L k=2) L.length j ⟨k,k1,k2,k3⟩;exact hnm y y2 y1 y3 y4 (hall y y2)
  refine hQ _ _ a w (wy.lf L.length (Nat.le_refl _) _ _ _ (by rw[List.drop_eq_nil_of_le (by rw[hl.len]; exact Nat.le_refl _)]; exact .ok _ _ _)) (Inv.mk' (e:=e) (by rw[hM]; exact hd.st) (by rw[hM]; exact hd.hr) (fun t x hx=>?_) (by rw[hM]; exact hd.ms) hd.sz)
  exact hd.sl L.length (Nat.le_refl _) (fun hc=>by
   rw[Array.getD_eq_getD_getElem?,Array.getElem?_eq_none (by omega)] at hc
   cases hc) t (.inl rfl) (fun m hm _=>hall m hm) x hx
 induction fuel with
 | zero=>
  intro T M Hs Rs v listed e j a w hls hf hS st hnm;have wy:=st.wy;have hd:=st.di
  have hr:Region.ready .any ops listed=[]:=by
   cases hr:Region.ready .any ops listed with
   | nil=>rfl
   | cons i is=>
    exfalso
    obtain⟨hi,hl,_⟩:=(hready listed hls i).1 (by rw[hr]; exact List.mem_cons_self ..)
    have hmem:false∈listed.toList.filter (!·):=by
     rw[List.mem_filter];refine⟨?_,rfl⟩;rw[Array.getD_eq_getD_getElem?,Array.getElem?_eq_getElem (by omega)] at hl;have:listed[i]=false:=hl;rw[<- this];exact Array.mem_toList_iff.2 (Array.getElem_mem _)
    have:=List.length_pos_of_mem hmem
    omega
  exact⟨hr,hdone T M Hs Rs v wy listed e j a w hls hd hnm hr⟩
 | succ fuel ih=>
  intro T M Hs Rs v listed e j a w hls hf hS st hnm;have wy:=st.wy;have hd:=st.di;refine⟨fun hr=>hdone T M Hs Rs v wy listed e j a w hls hd hnm hr,fun i hi=>?_⟩;obtain⟨hlt,hli0,hwi⟩:=(hready listed hls i).1 hi
  have hli:listed[i]? = some false:=by
   rw[Array.getD_eq_getD_getElem?,Array.getElem?_eq_getElem (by omega)] at hli0;have:listed[i]=false:=hli0;rw[Array.getElem?_eq_getElem (by omega),this]
  have hset:∀m,(listed.setIfInBounds i true).getD m false=true↔(listed.getD m false=true\/m=i):=fun m=>by
   by_cases hmi:m=i
   ·subst hmi;rw[Array.getD_eq_getD_getElem?,Array.getElem?_setIfInBounds_self_of_lt (by omega)]
    simp
   ·rw[Array.getD_eq_getD_getElem?,Array.getElem?_setIfInBounds_ne (Ne.symm hmi),<- Array.getD_eq_getD_getElem?]
    simp[hmi]
  have hatm:atO L i∈L:=by
   unfold atO;rw[zjj,List.getD_eq_getElem?_getD,List.getElem?_eq_getElem hlt];exact List.getElem_mem _
  refine zky hP hsnd hl hL hS hnf hb0 st hnm hlt (by rw[hli0]; simp) hwi (hdst _ hatm) fun T' M' Hs' Rs' v' e' j' a' w' st'=>?_;have hfun:(fun m=>(listed.setIfInBounds i true).getD m false=true)=(fun m=>listed.getD m false=true\/m=i):=funext fun m=>propext (hset m);obtain⟨j2,hd2,hnm2⟩:=zkt.norm (fun m hm=>hm.elim (hS.lt m) (fun h=>h ▸ hlt)) L.length (by omega) st';refine ih T' M' Hs' Rs' v' _ e' j2 a' w' (by simp[hls]) ?_ ?_ ?_ ?_
  ·have:=zkz listed.toList i (by rw[Array.getElem?_toList]; exact hli);rw[Array.toList_setIfInBounds]
   omega
  ·rw[hfun];refine⟨fun m hm=>?_,fun k hk hSk m hm=>?_⟩
   ·rcases hm with h1 | h1
    ·exact hS.lt m h1
    ·omega
   ·rcases hSk with h1 | h1
    ·exact .inl (hS.cl k hk h1 m hm)
    ·subst h1; exact .inl (hwi m hm)
  ·rw[hfun]; exact hd2
  ·rw[hfun]; exact hnm2
theorem zkB{L:List Oper}{bf:List Nat}:∀(l:List Oper) (i:Nat),zde L bf (i+l.length)=zde L bf i+zdy (zdh L bf l i)
 | [],i=>rfl
 | o::l,i=>by
  have ih:=zkB (L:=L) (bf:=bf) l (i+1);have hs:zde L bf (i+1)=ifB (zdd L bf i) (Nat.succ (zde L bf i)) (zde L bf i):=rfl;have hn:zdy (zdh L bf (o::l) i)=zaa (ifB (zdd L bf i) (some (zde L bf i)) none) (zdy (zdh L bf l (i+1))) fun _=>Nat.succ (zdy (zdh L bf l (i+1))):=rfl;rw[show i+(o::l).length=i+1+l.length by simp; omega,ih,hn,hs]
  cases zdd L bf i with
  | true=>rw[zd3,zd3,zd6]; omega
  | false=>rw[zd4,zd4,zd5]
theorem HR.grow{e:Env}{h:H}(hr:HR e h w)(k:Nat):HR e (zdz h k) w/\zeE e h w e (zdz h k) w:=hr.less (Nat.le_add_right _ _) (fun _ _ hb=>hb) fun _ _ hb=>hb
theorem zkC(hP:zgE P)(hsnd:zir P rec){ops:Array Oper}{id:Nat}{l:List DI}(hl:zdj ops.toList=some l){tm:S3 V}{h:H}(hdst:∀o∈ops.toList,∀t,o.dst=some t->t < N)(hi:Inv e0 h0 w0 N tm h a w)
  (hn:zh6 (zdx P rec ops.toList h.nxt l tm (zdz h (zdy l)) [] [])):(Code.region id ops true).wpIn (zii ro) nn P (zim e0 h0 w0 N (zdx P rec ops.toList h.nxt l tm (zdz h (zdy l)) [] [])) a w:=by
 obtain⟨hord,hlen,hat⟩:=zjF hl
 have hcl:∀d∈l,d.cls=classOf d.o.op/\d.cls<=2/\∀k,d.flt=some k->d.cls=2:=by
  intro d hd;obtain⟨k,hk,hkd⟩:=List.getElem_of_mem hd;have:=hat k (by omega);rw[List.getElem?_eq_getElem hk,hkd] at this;have hd':d=zdg ops.toList (zc2 [] ops.toList) k:=oi this;rw[hd'];refine⟨rfl,?_,fun k' hk'=>zjT hk'⟩
  show zda ops.toList k<=2
  unfold zda classOf
  split <;> omega
 obtain⟨T,M,Hs,Rs,v,hT0,hM0,hH0,hR0,hout,hsteps⟩:=zjR l tm (zdz h (zdy l)) [] [] hcl hn;have tr:zjV P rec ops.toList h.nxt T M Hs Rs v:=⟨fun i hi=>hsteps i _ (hat i hi),hord⟩;have hlst:Lst ops.toList l:=⟨hlen,hat,hcl⟩;have wy:Way P rec ops.toList h.nxt l (zdx P rec ops.toList h.nxt l tm (zdz h (zdy l)) [] []) T M Hs Rs v:=⟨tr,fun i hi=>(hout i (by omega)).1,fun i hi=>(hout i (by omega)).2⟩;obtain⟨e,hst,hr,ht,hm,hN⟩:=hi.out;obtain⟨hg1,hg2⟩:=hr.grow (zdy l)
 have hnf:∀y k,zj7 ops.toList y=some k->k < zdy l:=fun y k hk=>by
  obtain⟨q1,q2,rfl⟩:=zjS hk
  have hy:y < ops.toList.length:=by
   rcases Nat.lt_or_ge y ops.toList.length with h1 | h1
   ·exact h1
   ·exfalso
    unfold zdc atO at q1;rw[zjj,List.getD_eq_getElem?_getD,List.getElem?_eq_none h1] at q1
    cases q1
  have h1:=zj9 (L:=ops.toList) (bf:=zc2 [] ops.toList) hy q2;have h2:=zkB (L:=ops.toList) (bf:=zc2 [] ops.toList) ops.toList 0;obtain⟨_,h3⟩:=zd8 (show ifB (zdf ops.toList (zc2 [] ops.toList)) (some (zdh ops.toList (zc2 [] ops.toList) ops.toList 0)) none=some l from hl)
  cases h3
  rw[Nat.zero_add] at h2;rw[h2] at h1;rw[show zde ops.toList (zc2 [] ops.toList) 0=0 from rfl,Nat.zero_add] at h1;exact h1
 refine wpIn_region_any hP.mixed ?_
 have hno:∀m,(Array.replicate ops.size false).getD m false=false:=fun m=>by
  rw[Array.getD_eq_getD_getElem?,Array.getElem?_replicate]
  split <;> rfl
 refine zkA hP hsnd hlst hord hnf hst.nxt rfl hdst (fun tm' h' a' w' hq hi'=>⟨.nrm,_,_,hq,rfl,hi'⟩) ops.size T M Hs Rs v (Array.replicate ops.size false) e 0 a _ (by simp) (by simp) ?_ ?_ (fun y _ _ _ _ hS=>by have hS':(Array.replicate ops.size false).getD y false=true:=hS; rw[hno] at hS'; cases hS')
 ·have hno':∀m,¬ (Array.replicate ops.size false).getD m false=true:=fun m hm=>(by rw[hno] at hm; cases hm);exact⟨fun m hm=>absurd hm (hno' m),fun j hj hS=>absurd hS (hno' j)⟩
 ·refine⟨wy,fun T' M' Hs' Rs' v' wy' ha=>⟨?_,fun m hS=>(by have hS':(Array.replicate ops.size false).getD m false=true:=hS; rw[hno] at hS'; cases hS')⟩⟩;have hT0:T' 0=tm:=(ha.t 0 (Nat.le_refl _)).trans hT0;have hM0:M' 0=zdz h (zdy l):=(ha.m 0 (Nat.le_refl _)).trans hM0;have tr:=wy'.tr;refine⟨by omega,?_,?_,?_,hN,fun y _ _ hy=>by omega,fun y _ _ hS=>(by have hS':(Array.replicate ops.size false).getD y false=true:=hS; rw[hno] at hS'; cases hS'),fun y _ _ _ _ _ hS=>(by have hS':(Array.replicate ops.size false).getD y false=true:=hS; rw[hno] at hS'; cases hS'),fun y k hy hk _=>?_,?_,fun k hk hnk t hc hwr x hx=>?_⟩
  ·rw[hM0]; exact(hst.trans hg2).trans (zeE.drawn _)
  ·rw[hM0]; exact hg1.drawn _
  ·rw[hM0]; exact(hm.step hg2).step (zeE.drawn _)
  ·exact hr.fresh _ (by omega)
  ·rw[hM0]; exact Nat.le_refl _
  ·-- nothing has been written
   have hnow:∀m,m < k->(atO ops.toList m).dst ≠ some t:=fun m m1 m2=>by
    have:=hwr m m1 m2;rw[hno] at this
    cases this
   have:=zjX tr (i:=0) (Nat.zero_le _) hk (fun m _ m2=>hnow m m2) hx;rw[hT0] at this;exact ht t x this
end
end Go.Abs

