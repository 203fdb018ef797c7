import PyProof.Rows.All
import Wide.All
import OpenK.AllK
import Wide.FinOn
import Lean
import PyProof.EqAt
import PyProof.EqKinds
import PyProof.TupleCall
import KE.KIntText
import PyProof.StrLawsChain
import PySem.Challenge.RW_hirefair_k12_whole_a_fair
import KE.KTryMore
import PyProof.ExcArgsOwn
import PyProof.ExcBaseAll.ValueError
import PyProof.ExcAttrAll.ValueError
import PyProof.StationsW
import PyProof.ExcClass2
import PyProof.RulesAs
import PyProof.NsDelKeeps
import PyProof.Rows.Range3
import PyProof.MeetsSeq
import PyProof.ZipIter
import PyProof.CollectWalk
import PyProof.ListNew
import PyProof.ListRange
import PyProof.ReprLoop
import PyProof.AttrMiss
import PyProof.FactsAll.zip
import PyProof.DictList
import KE.KDictOf
set_option Elab.async false
set_option linter.all false
set_option maxRecDepth 100000
namespace L2
open PySem PySem.Spec PyProof.Rows

abbrev Key:=Sum Int Str
def sY:Key->Value->Bool
 |.inl k,v=>Value.isInt k v
 |.inr x,v=>Value.isStrOf x v
def aI4(w:World):Key->Int
 |.inl k=>hashInt k
 |.inr x=>hashStr w x
theorem bV:∀{k:Key}{v:Value},sY k v=true->(∃i t,k=Sum.inl i/\v=Value.int i t)\/(∃x t,k=Sum.inr x/\v=Value.str x t)
 |.inl i,v,h=>by
   obtain⟨t,e⟩:=Value.isInt_shape (k:=i) (v:=v) h;exact .inl ⟨i,t,rfl,e⟩
 |.inr x,v,h=>by
   obtain⟨t,e⟩:=Value.isStrOf_shape (x:=x) (v:=v) h;exact .inr ⟨x,t,rfl,e⟩
theorem zD(i:Int)(t:Tok):sY (.inl i) (.int i t)=true:=by simp[sY,Value.isInt]
theorem zC(x:Str)(t:Tok):sY (.inr x) (.str x t)=true:=by simp[sY,Value.isStrOf]
theorem aFd(a b:Int):decide ((Sum.inl a:Key)=Sum.inl b)=(a==b):=by
 by_cases e:a=b
 . subst e;simp
 . have h:¬ (Sum.inl a:Key)=Sum.inl b:=fun q=>e (Sum.inl.inj q);rw[decide_eq_false h];exact(beq_eq_false_iff_ne.mpr e).symm
theorem aFa(a b:Str):decide ((Sum.inr a:Key)=Sum.inr b)=decide (a=b):=by
 by_cases e:a=b
 . subst e;simp
 . have h:¬ (Sum.inr a:Key)=Sum.inr b:=fun q=>e (Sum.inr.inj q);rw[decide_eq_false h,decide_eq_false e]
theorem aFc(a:Int)(b:Str):decide ((Sum.inl a:Key)=Sum.inr b)=false:=decide_eq_false (fun q=>nomatch q)
theorem aFb(a:Str)(b:Int):decide ((Sum.inr a:Key)=Sum.inl b)=false:=decide_eq_false (fun q=>nomatch q)
def cD(prog:Program)(w:World):PySem.KeyKind prog w Key where
 is:=sY
 hash:=aI4 w
 inj:=fun v a b ha hb=>by
   rcases bV ha with⟨i,t,rfl,rfl⟩|⟨x,t,rfl,rfl⟩
   . rcases bV hb with⟨j,u,rfl,e⟩|⟨y,u,rfl,e⟩
     . injection e with e1 _;rw[e1]
     . exact nomatch e
   . rcases bV hb with⟨j,u,rfl,e⟩|⟨y,u,rfl,e⟩
     . exact nomatch e
     . injection e with e1 _;rw[e1]
 byValue:=fun k v h=>by
   rcases bV h with⟨i,t,rfl,rfl⟩|⟨x,t,rfl,rfl⟩ <;> rfl
 pyHash:=fun hv h=>by
   rcases bV hv with⟨i,t,rfl,rfl⟩|⟨x,t,rfl,rfl⟩
   . exact wpAny_pyHash_int h
   . exact wpAny_pyHash_str h
 eqBool:=fun hu hv h=>by
   rcases bV hu with⟨i,t,rfl,rfl⟩|⟨x,t,rfl,rfl⟩
   . rcases bV hv with⟨j,u,rfl,rfl⟩|⟨y,u,rfl,rfl⟩
     . rw[aFd] at h;exact wpAny_eqBool_int h
     . rw[aFc] at h;exact SeqAt.EqAt.int_str i t y u _ _ _ _ h
   . rcases bV hv with⟨j,u,rfl,rfl⟩|⟨y,u,rfl,rfl⟩
     . rw[aFb] at h;exact SeqAt.EqAt.str_int x t j u _ _ _ _ h
     . rw[aFa] at h;exact wpAny_eqBool_str h
 «strs»:=fun k x t v h=>by
   rcases bV h with⟨i,u,rfl,e⟩|⟨y,u,rfl,e⟩
   . exact nomatch e
   . injection e with e1 _
     subst e1;cases v <;> rfl
theorem mG(prog:Program)(w:World)(i:Int)(t:Tok):(cD prog w).is (.inl i) (.int i t)=true:=zD i t
theorem sW(prog:Program)(w:World)(x:Str)(t:Tok):(cD prog w).is (.inr x) (.str x t)=true:=zC x t
inductive V where
 |non|bl (b:Bool)|int (i:Int)|str (x:Str)|byt (b:Array UInt8)|flt (b:UInt64)|ref (a:Addr)|ty (n:String)
 deriving DecidableEq
def bY:V->Value->Prop
 |.non,u=>u=Value.none
 |.bl b,u=>u=Value.bool b
 |.int i,u=>∃t,u=Value.int i t
 |.str x,u=>∃t,u=Value.str x t
 |.byt b,u=>∃t,u=Value.bytes b t
 |.flt b,u=>∃t,u=Value.float b t
 |.ref a,u=>u=Value.ref a
 |.ty n,u=>u=Value.type n
abbrev bO:List V->List Value->Prop:=Paired bY
theorem bO.length{xs:List V}{us:List Value}(r:bO xs us):xs.length=us.length:=Paired.length r
theorem bO.get:∀{xs:List V}{us:List Value}{i:Nat}{x:V},bO xs us->xs[i]?=some x->∃u,us[i]?=some u/\bY x u
 |_,_,_,_,.nil,e=>by simp at e
 |_,_,0,_,.cons r _,e=>by simp at e;subst e;exact⟨_,rfl,r⟩
 |_,_,i+1,x,.cons _ t,e=>by
   obtain⟨u,h1,h2⟩:=bO.get (i:=i) (x:=x) t (by simpa using e);exact⟨u,by simpa using h1,h2⟩
theorem bO.set{x:V}{u:Value}(r:bY x u):∀{xs:List V}{us:List Value}(i:Nat),bO xs us->bO (xs.set i x) (us.set i u)
 |_,_,_,.nil=>.nil
 |_,_,0,.cons _ t=>.cons r t
 |_,_,i+1,.cons q t=>.cons q (bO.set r i t)
theorem bO.append:∀{xs ys:List V}{us ws:List Value},bO xs us->bO ys ws->bO (xs++ys) (us++ws)
 |_,_,_,_,.nil,s=>s
 |_,_,_,_,.cons r t,s=>.cons r (bO.append t s)
theorem bO.take:∀{xs:List V}{us:List Value}(n:Nat),bO xs us->bO (xs.take n) (us.take n)
 |_,_,0,_=>.nil
 |_,_,_+1,.nil=>.nil
 |_,_,n+1,.cons r t=>.cons r (bO.take n t)
theorem bO.drop:∀{xs:List V}{us:List Value}(n:Nat),bO xs us->bO (xs.drop n) (us.drop n)
 |_,_,0,r=>r
 |_,_,_+1,.nil=>.nil
 |_,_,n+1,.cons _ t=>bO.drop n t
theorem bO.none_of:∀{xs:List V}{us:List Value}{i:Nat},bO xs us->xs[i]?=none->us[i]?=none:=fun {xs us i} r e=>by
 have h1:=r.length;have h2:xs.length <= i:=List.getElem?_eq_none_iff.mp e;exact List.getElem?_eq_none_iff.mpr (by omega)
def pY:Option V->Option Value->Prop
 |some v,some u=>bY v u
 |none,none=>True
 |_,_=>False
def KV{κ:Type}:List (κ×V)->List (κ×Value)->Prop:=Paired fun(p:κ×V) (q:κ×Value)=>p.1=q.1/\bY p.2 q.2
def kV:Key->V
 |.inl i=>.int i
 |.inr x=>.str x
inductive HO where
 |lst (xs:List V)
 |tup (xs:List V)
 |dK (kvs:List (Key×V))|dT (kvs:List (List Key×V))
 |set (S:Int->Bool) (n:Nat)
 |ins (C dx:Addr) (fs:List (Str×V))
 |own (x:Addr)
 |xd (fs:List (Str×V))
 |met (f x:Addr)
 |rng (lo hi:Int)
 |frz (o:Obj) (u:HO)
 |tbl (ps:Array Value)
 |ext (φ:Heap->Prop)
abbrev Hp:=Addr->Option HO
def upd(H:Hp)(a:Addr)(o:HO):Hp:=fun b=>if b=a then some o else H b
theorem aB{H:Hp}{a:Addr}{o:HO}:upd H a o a=some o:=by unfold upd;rw[if_pos rfl]
theorem aE{H:Hp}{a b:Addr}{o:HO}(h:b≠a):upd H a o b=H b:=by unfold upd;rw[if_neg h]
theorem bS{H:Hp}{a b:Addr}{o u:HO}(h:H a=some o)(h':H b=some u)(d:o≠u):a≠b:=by
 intro e;subst e;rw[h] at h';exact d (Option.some.inj h')
theorem aH{H:Hp}{a b:Addr}{o:HO}(h:H a=some o)(h':H b=none):a≠b:=by
 intro e;subst e;rw[h] at h';cases h'
section
variable(P:Program)(w:World)
def bZ(H:Hp)(h:Heap)(a:Addr):HO->Prop
 |.lst xs=>xs.length <= sizeLine/\∃(its:List Value)(n:Nat),bO xs its/\h.get? a=some {cls:=.type "list", data:=.seq its.toArray n}
 |.tup xs=>xs.length <= sizeLine/\∃its:List Value,bO xs its/\IsTup h a its.toArray
 |.dK kvs=>kvs.length <= sizeLine/\(a==sysModules)=false/\∃vs,KV kvs vs/\h.DictOf (cD P w) a vs
 |.dT kvs=>kvs.length <= sizeLine/\(a==sysModules)=false/\∃xs:List (List Key×Addr×Value),
     Paired (fun(p:List Key×V) (q:List Key×Addr×Value)=>p.1=q.1/\H q.2.1=some (.tup (p.1.map kV))/\bY p.2 q.2.2) kvs xs /\
     ∃o es ep,h.get? a=some o/\o.ExactDict/\o.data=.dict es ep/\es.toList=xs.map (entryOfKey (tupleKind (cD P w)))/\(xs.map (·.1)).Nodup
 |.set S n=>h.SetOf (intKind P w) a S n
 |.ins C dx fs=>H dx=some (.own a)/\fs.length <= 1000/\dx≠a/\h.get? a=some (W.instObj C dx) /\
     ∃mA,h.Ns1 dx mA/\(∀f,pY (fs.lookup f) (mA f))/\PySem.Within mA (fs.map (·.1))
 |.own _=>∃o,h.get? a=some o
 |.xd fs=>∃mA,h.Ns1 a mA/\∀f,pY (fs.lookup f) (mA f)
 |.rng lo hi=>∃t u v,h.get? a=some {cls:=.type "range", data:=.fields #[.int lo t,.int hi u,.int 1 v]}
 |.frz o u=>h.get? a=some o/\bZ H h a u
 |.tbl ps=>h.get? a=some {cls:=.none,data:=.fields ps}
 |.met f x=>h.get? a=some (W.methodObj (.ref f) (.ref x))
 |.ext φ=>φ h/\(∃o,h.get? a=some o)/\∀h1 h2:Heap,φ h1->(∀o,h1.get? a=some o->h2.get? a=some o)->φ h2
def HOk(H:Hp)(h:Heap):Prop:=∀a o,H a=some o->bZ P w H h a o
end
section
variable{P:Program}{w:World}{H H':Hp}{h h':Heap}{a:Addr}{o:HO}
theorem bZ.lt(x:bZ P w H h a o):a<h.objs.size:=by
 cases o with
 |lst xs=>obtain⟨_,_,_,_,e⟩:=x;exact Heap.lt_size e
 |tup xs=>obtain⟨_,_,_,p⟩:=x;exact p.lt
 |dK kvs=>obtain⟨_,_,_,_,o,_,_,e,_⟩:=x;exact Heap.lt_size e
 |dT kvs=>obtain⟨_,_,_,_,o,_,_,e,_⟩:=x;exact Heap.lt_size e
 |set S n=>obtain⟨o,_,_,_,e,_⟩:=x;exact Heap.lt_size e
 |ins C dx fs=>obtain⟨_,_,_,e,_⟩:=x;exact Heap.lt_size e
 |own y=>obtain⟨_,e⟩:=x;exact Heap.lt_size e
 |xd fs=>obtain⟨_,⟨_,_,_,e,_⟩,_⟩:=x;exact Heap.lt_size e
 |rng lo hi=>obtain⟨_,_,_,e⟩:=x;exact Heap.lt_size e
 |frz ob u=>obtain⟨e,_⟩:=x;exact Heap.lt_size e
 |tbl ps=>exact Heap.lt_size (show h.get? a=some _ from x)
 |met f y=>exact Heap.lt_size (show h.get? a=some _ from x)
 |ext φ=>obtain⟨_,⟨_,e⟩,_⟩:=x;exact Heap.lt_size e
theorem Paired.mapP{α β:Type}{F G:α->β->Prop}:∀{l₁:List α}{l₂:List β},Paired F l₁ l₂->(∀a b,F a b->G a b)->Paired G l₁ l₂
 |_,_,.nil,_=>.nil
 |_,_,.cons r t,f=>.cons (f _ _ r) (Paired.mapP t f)
theorem bZ.stay(x:bZ P w H h a o)(k:∀b u,(b=a\/H b=some (.own a))->h.get? b=some u->h'.get? b=some u)(ho:∀b,H b=some (.own a)->H' b=some (.own a))(ht:∀b xs,H b=some (.tup xs)->H' b=some (.tup xs)):bZ P w H' h' a o:=by
 induction o with
 |lst xs=>obtain⟨z,its,n,r,e⟩:=x;exact⟨z,its,n,r,k _ _ (.inl rfl) e⟩
 |tup xs=>obtain⟨z,its,r,ob,e,c⟩:=x;exact⟨z,its,r,ob,k _ _ (.inl rfl) e,c⟩
 |dK kvs=>obtain⟨z,y,vs,r,ob,es,ep,e,c⟩:=x;exact⟨z,y,vs,r,ob,es,ep,k _ _ (.inl rfl) e,c⟩
 |dT kvs=>
   obtain⟨z,y,xs,r,ob,es,ep,e,c⟩:=x;exact⟨z,y,xs,Paired.mapP r fun p q z=>⟨z.1,ht _ _ z.2.1,z.2.2⟩,ob,es,ep,k _ _ (.inl rfl) e,c⟩
 |set S n=>obtain⟨ob,es,ep,t,e,c⟩:=x;exact⟨ob,es,ep,t,k _ _ (.inl rfl) e,c⟩
 |ins C dx fs=>
   obtain⟨d,z,ne,e,mA,⟨od,es,ep,e2,c⟩,r⟩:=x;exact⟨ho _ d,z,ne,k _ _ (.inl rfl) e,mA,⟨od,es,ep,k _ _ (.inr d) e2,c⟩,r⟩
 |own y=>obtain⟨ob,e⟩:=x;exact⟨ob,k _ _ (.inl rfl) e⟩
 |xd fs=>obtain⟨mA,⟨od,es,ep,e,c⟩,r⟩:=x;exact⟨mA,⟨od,es,ep,k _ _ (.inl rfl) e,c⟩,r⟩
 |rng lo hi=>obtain⟨t,u,v,e⟩:=x;exact⟨t,u,v,k _ _ (.inl rfl) e⟩
 |frz ob u ih=>obtain⟨e,q⟩:=x;exact⟨k _ _ (.inl rfl) e,ih q⟩
 |tbl ps=>
   have e:h.get? a=some {cls:=.none,data:=.fields ps}:=x;show h'.get? a=some {cls:=.none,data:=.fields ps};exact k a _ (.inl rfl) e
 |met f y=>
   have e:h.get? a=some (W.methodObj (.ref f) (.ref y)):=x;show h'.get? a=some (W.methodObj (.ref f) (.ref y));exact k a _ (.inl rfl) e
 |ext φ=>obtain⟨p,⟨o,e⟩,st⟩:=x;exact⟨st _ _ p fun o q=>k _ _ (.inl rfl) q,⟨o,k _ _ (.inl rfl) e⟩,st⟩
theorem HOk.lt(x:HOk P w H h)(e:H a=some o):a<h.objs.size:=(x a o e).lt
theorem HOk.fresh(x:HOk P w H h)(e:h.objs.size <= a):H a=none:=by
 cases q:H a with
 |none=>rfl
 |some u=>exact absurd (Nat.lt_of_lt_of_le (x.lt q) e) (Nat.lt_irrefl _)
theorem HOk.kept(x:HOk P w H h)(k:∀b u,h.get? b=some u->h'.get? b=some u):HOk P w H h':=fun a o e=>
 (x a o e).stay (fun b u _ q=>k b u q) (fun _ q=>q) fun _ _ q=>q
theorem HOk.laid(x:HOk P w H h)(k:∀b u,h.get? b=some u->h'.get? b=some u)(hp:h.objs.size <= a)(new:bZ P w (upd H a o) h' a o):HOk P w (upd H a o) h':=fun b u e=>by
 have hn:=x.fresh hp;by_cases hb:b=a
 . subst hb;rw[aB] at e;cases e;exact new
 . rw[aE hb] at e;exact(x b u e).stay (fun c v _ q=>k c v q) (fun c q=>by rw[aE (aH q hn)];exact q) fun c xs q=>by rw[aE (aH q hn)];exact q
end
def Rd(H:Hp)(a:Addr)(u:HO):Prop:=H a=some u\/∃o,H a=some (.frz o u)
theorem Rd.of{H:Hp}{a:Addr}{u:HO}(h:H a=some u):Rd H a u:=.inl h
theorem Rd.ok{P:Program}{w:World}{H:Hp}{h:Heap}{a:Addr}{u:HO}(r:Rd H a u)(x:HOk P w H h):bZ P w H h a u:=by
 rcases r with r|⟨o,r⟩
 . exact x a u r
 . obtain⟨_,q⟩:=x a _ r;exact q
def Mut:Option HO->Prop
 |some (.lst _)=>True
 |some (.dK _)=>True
 |some (.dT _)=>True
 |some (.set _ _)=>True
 |some (.ins _ _ _)=>True
 |some (.ext _)=>True
 |_=>False
section
variable{P:Program}{w:World}{H:Hp}{h h':Heap}{x e:Addr}{o':HO}
theorem HOk.write(ok:HOk P w H h)(mu:Mut (H x))(he:e=x\/H e=some (.own x))(k:∀b u,b≠e->h.get? b=some u->h'.get? b=some u)(heo:∃u,h'.get? e=some u)(new:bZ P w (upd H x o') h' x o'):HOk P w (upd H x o') h':=fun b u q=>by
 have nown:∀c y,H c=some (.own y)->c≠x:=fun c y r z=>by subst z;rw[r] at mu;exact mu
 have ntup:∀c xs,H c=some (.tup xs)->c≠x:=fun c xs r z=>by subst z;rw[r] at mu;exact mu
 by_cases hb:b=x
 . subst hb;rw[aB] at q;cases q;exact new
 . rw[aE hb] at q;by_cases hbe:b=e
   . have q':H b=some (.own x):=by
       rcases he with z|z
       . exact absurd (hbe.trans z) hb
       . rw[hbe];exact z
     rw[q] at q';cases q';obtain⟨v,hv⟩:=heo;exact⟨v,by rw[hbe];exact hv⟩
   . refine(ok b u q).stay (fun c v hc r=>k c v ?_ r) (fun c r=>by rw[aE (nown c b r)];exact r) fun c xs r=>by rw[aE (ntup c xs r)];exact r
     rcases hc with rfl|hc
     . exact hbe
     . rintro rfl;rcases he with z|z
       . exact nown c b hc z
       . rw[hc] at z;cases z;exact hb rfl
end
structure Un (fs ex:List Addr) (H H':Hp) (h h':Heap):Prop where
 keep:∀b o,h.get? b=some o->H b=none->b∉fs->b∉ex->h'.get? b=some o
 slot:∀b o,h.get? b=some o->H b=none->b∈fs->b∉ex->∃sl,h'.get? b=some {o with slots:=sl}
 free:∀b o,h.get? b=some o->H b=none->b∉ex->H' b=none
 there:∀b o,h.get? b=some o->b∉ex->∃o',h'.get? b=some o'
 tups:∀b xs,H b=some (.tup xs)->H' b=some (.tup xs)
 frzs:∀b o u,H b=some (.frz o u)->H' b=some (.frz o u)
 tbls:∀b ps,H b=some (.tbl ps)->∃more,H' b=some (.tbl (ps++more))
section
variable{fs fs' ex ex':List Addr}{H H1 H2:Hp}{h h1 h2 h':Heap}{a x e:Addr}{o:HO}
theorem Un.any(u:Un fs ex H H1 h h1){b:Addr}{ob:Obj}(q:h.get? b=some ob)(n:H b=none)(hx:b∉ex):∃sl,h1.get? b=some {ob with slots:=sl}:=by
 by_cases hb:b∈fs
 . exact u.slot b ob q n hb hx
 . exact⟨ob.slots,u.keep b ob q n hb hx⟩
theorem Un.trans(a:Un fs ex H H1 h h1)(b:Un fs ex H1 H2 h1 h2):Un fs ex H H2 h h2 where
 keep:=fun c ob q n hc hx=>b.keep c ob (a.keep c ob q n hc hx) (a.free c ob q n hx) hc hx
 slot:=fun c ob q n hc hx=>by
   obtain⟨sl,e1⟩:=a.slot c ob q n hc hx;obtain⟨sl',e2⟩:=b.slot c _ e1 (a.free c ob q n hx) hc hx;exact⟨sl',e2⟩
 free:=fun c ob q n hx=>by
   obtain⟨o',e1⟩:=a.there c ob q hx;exact b.free c o' e1 (a.free c ob q n hx) hx
 there:=fun c ob q hx=>by
   obtain⟨o',e1⟩:=a.there c ob q hx;exact b.there c o' e1 hx
 tups:=fun c xs q=>b.tups c xs (a.tups c xs q)
 frzs:=fun c ob xs q=>b.frzs c ob xs (a.frzs c ob xs q)
 tbls:=fun c ps q=>by
   obtain⟨m1,e1⟩:=a.tbls c ps q;obtain⟨m2,e2⟩:=b.tbls c _ e1;exact⟨m1++m2,by rw[e2,Array.append_assoc]⟩
theorem Un.kept(k:∀b u,h.get? b=some u->h'.get? b=some u):Un fs ex H H h h':=⟨fun b ob q _ _ _=>k b ob q,fun b ob q _ _ _=>⟨ob.slots,k b ob q⟩,fun _ _ _ n _=>n,fun b ob q _=>⟨ob,k b ob q⟩,fun _ _ q=>q,fun _ _ _ q=>q,fun _ ps q=>⟨#[],by rw[q];simp⟩⟩
theorem Un.refl:Un fs ex H H h h:=Un.kept fun _ _ q=>q
theorem Un.laid(k:∀b u,h.get? b=some u->h'.get? b=some u)(hp:h.objs.size <= a)(hn:H a=none):Un fs ex H (upd H a o) h h' where
 keep:=fun b u q _ _ _=>k b u q
 slot:=fun b u q _ _ _=>⟨u.slots,k b u q⟩
 free:=fun b u q n _=>by rw[aE (Nat.ne_of_lt (Nat.lt_of_lt_of_le (Heap.lt_size q) hp))];exact n
 there:=fun b u q _=>⟨u,k b u q⟩
 tups:=fun b xs q=>by rw[aE (aH q hn)];exact q
 frzs:=fun b u xs q=>by rw[aE (aH q hn)];exact q
 tbls:=fun b ps q=>⟨#[],by rw[aE (aH q hn),q];simp⟩
theorem Un.write(mu:Mut (H x))(he:e=x\/H e=some (.own x))(k:∀b u,b≠e->h.get? b=some u->h'.get? b=some u)(heo:∃u,h'.get? e=some u):Un fs ex H (upd H x o) h h':=by
 have hx:∀b,H b=none->b≠x:=fun b n z=>by subst z;rw[n] at mu;exact mu
 have hb:∀b,H b=none->b≠e:=fun b n z=>by
   subst z;rcases he with r|r
   . exact hx b n r
   . rw[n] at r;cases r
 have hm:∀b u,H b=some u->¬ Mut (some u)->b≠x:=fun b u q nm z=>by subst z;rw[q] at mu;exact nm mu
 refine⟨fun b u q n _ _=>k b u (hb b n) q,fun b u q n _ _=>⟨u.slots,k b u (hb b n) q⟩,fun b u q n _=>by rw[aE (hx b n)];exact n,fun b u q _=>?_,
   fun b xs q=>by rw[aE (hm b _ q fun z=>z)];exact q,fun b u xs q=>by rw[aE (hm b _ q fun z=>z)];exact q,fun b ps q=>⟨#[],by rw[aE (hm b _ q fun z=>z),q];simp⟩⟩
 by_cases hbe:b=e
 . subst hbe;exact heo
 . exact⟨u,k b u hbe q⟩
theorem Un.mono(u:Un fs ex H H1 h h1)(hs:∀b∈fs,b∈fs')(hx:∀b∈ex,b∈ex'):Un fs' ex' H H1 h h1:=⟨fun b ob q n hb he=>u.keep b ob q n (fun z=>hb (hs b z)) fun z=>he (hx b z),fun _ _ q n _ he=>u.any q n fun z=>he (hx _ z),fun b ob q n he=>u.free b ob q n fun z=>he (hx b z),fun b ob q he=>u.there b ob q fun z=>he (hx b z),u.tups,u.frzs,u.tbls⟩
end
def trk(h:Heap)(H:Hp):List Addr:=(List.range h.objs.size).filter fun a=>(H a).isSome
def zM(h:Heap)(H:Hp):Heap:=W.hideAll h (trk h H)
theorem zL(h:Heap)(H:Hp):(zM h H).objs.size=h.objs.size:=W.hideAll_size _ _
theorem aBl{h:Heap}{H:Hp}{b:Addr}{o:Obj}(e:h.get? b=some o)(n:H b=none):(zM h H).get? b=some o:=W.hideAll_get _ e fun hm=>by
   have q:(H b).isSome=true:=(List.mem_filter.mp hm).2;rw[n] at q;simp at q
theorem aDq{h:Heap}{H:Hp}{b:Addr}{o:Obj}(e:(zM h H).get? b=some o):h.get? b=some o/\H b=none:=by
 have e':h.get? b=some o:=W.of_hideAll (trk h H) e;refine⟨e',?_⟩;cases q:H b with
 |none=>rfl
 |some x=>
   have hm:b∈trk h H:=List.mem_filter.mpr ⟨List.mem_range.mpr (Heap.lt_size e'),by simp[q]⟩;have z:(zM h H).get? b=none:=W.hideAll_none (trk h H) hm;rw[z] at e;cases e
def aE9(g h:Heap)(L:Addr):List (Addr×Obj):=(List.range h.objs.size).filterMap fun a=>if a=L\/(g.get? a).isSome=true then none else(h.get? a).map fun o=>(a,o)
def dZ(g h:Heap)(L d:Addr):List (Addr×Obj):=(aE9 g h L).filter fun p=>decide (p.1≠d)
structure Mod (K:W.Frag) (mg:Str->Option Value) (base:Heap):Prop where
 kin:K.In base
 glob:base.Ns mainGlobals mg
 blt:∃mb,base.Ns builtinsNs mb/\∀x:Str,x≠"__name__"->mb x=bootBuiltins x
 nolimit:base.NoLimit
structure Cx where
 prog:Program
 w:World
 K:W.Frag
 mg:Str->Option Value
 base:Heap
 A:Around
 N:List Str
 s₀:Shared
 H₀:Hp
 env:Env
 outer:List Env
 stack:List Env
 ex:List Addr
 fn:Str->Bool
 calm:Bool
 pn:List (Addr×Obj)
 xe:Value->Shared->Prop
def frs(l:List Env):List Addr:=l.filterMap (·.frame)
abbrev Cx.fs(X:Cx):List Addr:=frs X.outer
def Vis(sc:Scope)(x:Str):Prop:=sc.names.lookup x=some .local\/sc.names.lookup x=some .cell\/sc.names.lookup x=some .free
def Loc(sc:Scope)(x:Str):Prop:=sc.names.lookup x=some .local\/sc.names.lookup x=some .cell
def aIb(env:Env)(h:Heap)(m:Str->Option Value)(x:Str)(u:Value):Prop:=(env.kindOf x=some .local/\m x=some u)\/((env.kindOf x=some .cell\/env.kindOf x=some .free)/\∃c,env.cells.lookup x=some c/\h.IsCell c (some u))
structure Cx.Ok (X:Cx):Prop where
 mod:Mod X.K X.mg X.base
 kind:X.env.scope.kind=.function
 glob:X.env.globals=mainGlobals
 blt:X.env.builtins=builtinsNs
 above:X.s₀.heap.objs.size <= X.env.locals
 inj:∀x y c,X.env.cells.lookup x=some c->X.env.cells.lookup y=some c->x=y
 has:∀x,(X.env.kindOf x=some .cell\/X.env.kindOf x=some .free)->∃c,X.env.cells.lookup x=some c
 cab:∀x c,X.fn x=true->X.env.cells.lookup x=some c->X.s₀.heap.objs.size <= c
 hd:X.calm=true->X.A.handled=none
 frames:X.A.frames=some X.stack
 stk:X.stack=X.outer\/(X.stack=X.env::X.outer/\X.env.frame=some X.env.locals)
 exf:∀b∈X.ex,b≠X.env.locals/\∀x c,X.env.cells.lookup x=some c->c≠b
 bs:∀b o,X.base.get? b=some o->X.s₀.heap.get? b=some o/\X.H₀ b=none
 bsz:X.base.objs.size <= X.s₀.heap.objs.size
 noex:∀b o,X.base.get? b=some o->b∉X.ex
 exfs:∀b∈X.ex,b∉X.fs
 funs:X.s₀.heap.FunFrames X.base X.outer
 frf:∀b∈X.fs,X.H₀ b=none
structure Inv (X:Cx) (pins:List (Addr×Obj)) (σ:List (Option V)) (H:Hp) (s:Shared):Prop where
 ok:X.Ok
 os:s.os=X.s₀.os
 bare:AllBare s.gens
 base:Un X.fs X.ex X.H₀ H X.s₀.heap s.heap
 loc:∃m,s.heap.Ns X.env.locals m/\∀(i:Nat)(x:Str)(v:V),X.N[i]?=some x->σ[i]?=some (some v)->Vis X.env.scope x->∃u,bY v u/\aIb X.env s.heap m x u
 cell:∀x c,X.env.cells.lookup x=some c->∃v,s.heap.IsCell c v
 free:H X.env.locals=none
 freeC:∀x c,X.env.cells.lookup x=some c->H c=none
 pin:∀p∈X.pn++pins,s.heap.get? p.1=some p.2/\H p.1=none/\p.1≠X.env.locals/\p.1∉X.fs/\∀v,p.2.data≠.cell v
 hok:HOk X.prog X.w H s.heap
 len:σ.length=X.N.length
section
variable{X:Cx}{pins:List (Addr×Obj)}{σ:List (Option V)}{H H':Hp}{s:Shared}{h':Heap}
theorem Cx.Ok.nofr(ok:X.Ok){b:Addr}{o:Obj}(e:X.base.get? b=some o):b∉X.fs:=fun hb=>by
 have:=(ok.funs.mem hb).1;rw[e] at this;cases this
theorem Inv.bs(I:Inv X pins σ H s):∀b o,X.base.get? b=some o->s.heap.get? b=some o/\H b=none:=fun b o e=>
 ⟨I.base.keep b o (I.ok.bs b o e).1 (I.ok.bs b o e).2 (I.ok.nofr e) (I.ok.noex b o e),I.base.free b o (I.ok.bs b o e).1 (I.ok.bs b o e).2 (I.ok.noex b o e)⟩
theorem Inv.bk(I:Inv X pins σ H s):∀b o,X.base.get? b=some o->s.heap.get? b=some o:=fun b o e=>(I.bs b o e).1
theorem Inv.mod(I:Inv X pins σ H s):Mod X.K X.mg X.base:=I.ok.mod
theorem Inv.kIn(I:Inv X pins σ H s):X.K.In s.heap:=I.ok.mod.kin.keeps I.bk
theorem Inv.nolimit(I:Inv X pins σ H s):s.heap.NoLimit:=I.ok.mod.nolimit.keeps I.bk
theorem Inv.fr(I:Inv X pins σ H s):∃m,Fr X.base X.env.locals s.heap m:=let ⟨m,hn,_⟩:=I.loc
 ⟨m,hn,I.bk,Nat.le_trans I.ok.bsz I.ok.above⟩
theorem Inv.lt(I:Inv X pins σ H s):X.env.locals<s.heap.objs.size:=let ⟨_,hn,_⟩:=I.loc;hn.lt
theorem Inv.sz(I:Inv X pins σ H s):X.s₀.heap.objs.size <= s.heap.objs.size:=Nat.le_trans I.ok.above (Nat.le_of_lt I.lt)
theorem Inv.nofs(I:Inv X pins σ H s){a:Addr}(h:s.heap.objs.size <= a):a∉X.fs:=fun hb=>by
 obtain⟨_,o,ho,_⟩:=I.ok.funs.mem hb;exact absurd (Nat.lt_of_lt_of_le (Heap.lt_size ho) (Nat.le_trans I.sz h)) (Nat.lt_irrefl _)
theorem Inv.cne(I:Inv X pins σ H s):∀x c,X.env.cells.lookup x=some c->c≠X.env.locals:=fun x c e z=>by
 obtain⟨v,o,ho,hd⟩:=I.cell x c e;obtain⟨m,⟨o',es,ep,ho',hd',_⟩,_⟩:=I.loc;rw[z,ho'] at ho;cases ho;rw[hd'] at hd;cases hd
theorem Inv.funs(I:Inv X pins σ H s):s.heap.FunFrames X.base X.outer:=by
 have all:∀(l:List Env),(∀b∈frs l,b∈X.fs)->X.s₀.heap.FunFrames X.base l->s.heap.FunFrames X.base l:=by
   intro l;induction l with
   |nil=>intro _ _;trivial
   |cons env r ih=>
     intro hs hl;obtain⟨hk,⟨L,o,hf,hn,ho,hd⟩,hr⟩:=hl;have hL:L∈X.fs:=hs L (by unfold frs;rw[List.filterMap_cons,hf];exact List.mem_cons_self);obtain⟨sl,e⟩:=I.base.slot L o ho (I.ok.frf L hL) hL fun z=>I.ok.exfs L z hL;exact⟨hk,⟨L,_,hf,hn,e,hd⟩,ih (fun b hb=>hs b (by unfold frs;rw[List.filterMap_cons,hf];exact List.mem_cons_of_mem _ hb)) hr⟩
 exact all X.outer (fun _ hb=>hb) I.ok.funs
theorem Inv.stack(I:Inv X pins σ H s):s.heap.FunFrames X.base X.stack:=by
 rcases I.ok.stk with e|⟨e,hf⟩
 . rw[e];exact I.funs
 . rw[e];obtain⟨m,hn,_⟩:=I.loc;refine .cons (by rw[I.ok.kind];decide) hf hn ?_ I.funs;exact Heap.get?_none_of_le (Nat.le_trans I.ok.bsz I.ok.above)
theorem Inv.stkSub(I:Inv X pins σ H s):∀b∈frs X.stack,b∈X.env.locals::X.fs:=fun b hb=>by
 rcases I.ok.stk with e|⟨e,hf⟩
 . rw[e] at hb;exact List.mem_cons_of_mem _ hb
 . rw[e] at hb;unfold frs at hb;rw[List.filterMap_cons,hf] at hb;exact hb
theorem Inv.stkFree(I:Inv X pins σ H s):∀b∈frs X.stack,H b=none:=fun b hb=>by
 rcases List.mem_cons.mp (I.stkSub b hb) with e|hb
 . rw[e];exact I.free
 . obtain⟨_,o,ho,_⟩:=I.ok.funs.mem hb;exact I.base.free b o ho (I.ok.frf b hb) fun z=>I.ok.exfs b z hb
theorem Inv.step{g':Array GenState}{t':Nat}{d':Drawn}{ch:List Addr}(I:Inv X pins σ H s)(hch:∀b∈ch,(b∈X.ex\/X.s₀.heap.objs.size <= b)/\b≠X.env.locals/\(∀x c,X.env.cells.lookup x=some c->c≠b)/\∀p∈X.pn++pins,p.1≠b)(keep:∀b o,b≠X.env.locals->b∉X.fs->b∉ch->s.heap.get? b=some o->H b=none->h'.get? b=some o)(slot:∀b o,b≠X.env.locals->b∈X.fs->b∉ch->s.heap.get? b=some o->H b=none->∃sl,h'.get? b=some {o with slots:=sl})(free:∀b o,b∉ch->s.heap.get? b=some o->H b=none->H' b=none)(there:∀b o,b∉ch->s.heap.get? b=some o->∃o',h'.get? b=some o')(tups:∀b xs,H b=some (.tup xs)->H' b=some (.tup xs))(frzs:∀b o u,H b=some (.frz o u)->H' b=some (.frz o u))(tbls:∀b ps,H b=some (.tbl ps)->∃more,H' b=some (.tbl (ps++more)))(ns:∀m,s.heap.Ns X.env.locals m->h'.Ns X.env.locals m)(hok:HOk X.prog X.w H' h')(hg:AllBare g'): Inv X pins σ H' {s with heap:=h',gens:=g',drawn:=d',toks:=t'}:=by
 have neL:∀b o,X.s₀.heap.get? b=some o->b≠X.env.locals:=fun b o e=>Nat.ne_of_lt (Nat.lt_of_lt_of_le (Heap.lt_size e) I.ok.above);have neC:∀b o,X.s₀.heap.get? b=some o->b∉X.ex->b∉ch:=fun b o e hx hb=>by
   rcases(hch b hb).1 with z|z
   . exact hx z
   . exact absurd (Nat.lt_of_lt_of_le (Heap.lt_size e) z) (Nat.lt_irrefl _)
 have cellK:∀x c,X.env.cells.lookup x=some c->∀v,s.heap.IsCell c v->h'.IsCell c v:=fun x c e v ⟨o,ho,hd⟩=>by
   have nch:c∉ch:=fun z=>(hch c z).2.2.1 x c e rfl;by_cases hc:c∈X.fs
   . obtain⟨sl,q⟩:=slot c o (I.cne x c e) hc nch ho (I.freeC x c e);exact⟨_,q,hd⟩
   . exact⟨o,keep c o (I.cne x c e) hc nch ho (I.freeC x c e),hd⟩
 refine⟨I.ok,I.os,hg,⟨fun b o e n hb hx=>?_,fun b o e n hb hx=>?_,fun b o e n hx=>?_,fun b o e hx=>?_,fun b xs e=>tups b xs (I.base.tups b xs e),fun b o xs e=>frzs b o xs (I.base.frzs b o xs e),fun b ps e=>?_⟩,?_,fun x c e=>?_,?_,fun x c e=>?_,fun p hp=>?_,hok,I.len⟩
 . exact keep b o (neL b o e) hb (neC b o e hx) (I.base.keep b o e n hb hx) (I.base.free b o e n hx)
 . obtain⟨sl,e1⟩:=I.base.slot b o e n hb hx;obtain⟨sl',e2⟩:=slot b _ (neL b o e) hb (neC b o e hx) e1 (I.base.free b o e n hx);exact⟨sl',e2⟩
 . obtain⟨o',e1⟩:=I.base.there b o e hx;exact free b o' (neC b o e hx) e1 (I.base.free b o e n hx)
 . obtain⟨o',e1⟩:=I.base.there b o e hx;exact there b o' (neC b o e hx) e1
 . obtain⟨m1,e1⟩:=I.base.tbls b ps e;obtain⟨m2,e2⟩:=tbls b _ e1;exact⟨m1++m2,by rw[e2,Array.append_assoc]⟩
 . obtain⟨m,hn,hl⟩:=I.loc;refine⟨m,ns m hn,fun i x v e1 e2 e3=>?_⟩;obtain⟨u,r,l⟩:=hl i x v e1 e2 e3;refine⟨u,r,?_⟩;rcases l with l|⟨k,c,e,z⟩
   . exact .inl l
   . exact .inr ⟨k,c,e,cellK x c e _ z⟩
 . obtain⟨v,z⟩:=I.cell x c e;exact⟨v,cellK x c e v z⟩
 . obtain⟨m,⟨o,_,_,ho,_⟩,_⟩:=I.loc;exact free _ o (fun z=>(hch _ z).2.1 rfl) ho I.free
 . obtain⟨v,o,ho,hd⟩:=I.cell x c e;exact free c o (fun z=>(hch c z).2.2.1 x c e rfl) ho (I.freeC x c e)
 . obtain⟨e,n,ne,nf,d⟩:=I.pin p hp;have nch:p.1∉ch:=fun z=>(hch p.1 z).2.2.2 p hp rfl;exact⟨keep p.1 p.2 ne nf nch e n,free p.1 p.2 nch e n,ne,nf,d⟩
theorem Inv.un{t':Nat}(I:Inv X pins σ H s)(u:Un X.fs [] H H' s.heap h')(hok:HOk X.prog X.w H' h'):Inv X pins σ H' {s with heap:=h',toks:=t'}:=by
 obtain⟨m,⟨o,es,ep,ho,r⟩,_⟩:=id I.loc;obtain⟨sl,hL⟩:=u.any ho I.free (by simp);exact I.step (g':=s.gens) (d':=s.drawn) (ch:=[]) (fun _ z=>nomatch z) (fun b o _ hb _ e n=>u.keep b o e n hb (by simp)) (fun b o _ hb _ e n=>u.slot b o e n hb (by simp)) (fun b o _ e n=>u.free b o e n (by simp)) (fun b o _ e=>u.there b o e (by simp)) u.tups u.frzs u.tbls (fun m' hm=>by
   obtain⟨o',es',ep',ho',r'⟩:=hm;rw[ho] at ho';cases ho';exact⟨_,es',ep',hL,r'⟩) hok I.bare
theorem Inv.call{g':Array GenState}{t':Nat}{d':Drawn}{ch:List Addr}(I:Inv X pins σ H s)(u:Un (frs X.stack) ch H H' s.heap h')(hok:HOk X.prog X.w H' h')(hg:AllBare g')(hch:∀b∈ch,(b∈X.ex\/X.s₀.heap.objs.size <= b)/\b≠X.env.locals/\(∀x c,X.env.cells.lookup x=some c->c≠b)/\∀p∈X.pn++pins,p.1≠b): Inv X pins σ H' {s with heap:=h',gens:=g',drawn:=d',toks:=t'}:=by
 obtain⟨m,⟨o,es,ep,ho,r⟩,_⟩:=id I.loc;obtain⟨sl,hL⟩:=u.any ho I.free fun z=>(hch _ z).2.1 rfl;exact I.step (ch:=ch) hch (fun b o hL hb hc e n=>u.keep b o e n (fun z=>(List.mem_cons.mp (I.stkSub b z)).elim hL hb) hc) (fun b o _ _ hc e n=>u.any e n hc) (fun b o hc e n=>u.free b o e n hc) (fun b o hc e=>u.there b o e hc) u.tups u.frzs u.tbls (fun m' hm=>by
   obtain⟨o',es',ep',ho',r'⟩:=hm;rw[ho] at ho';cases ho';exact⟨_,es',ep',hL,r'⟩) hok hg
theorem Inv.turned{t':Nat}{it:Addr}(I:Inv X pins σ H s)(k:∀b o,b≠it->s.heap.get? b=some o->h'.get? b=some o)(hn:H it=none)(hL:it≠X.env.locals)(h1:it∈X.ex\/X.s₀.heap.objs.size <= it)(h2:∀x c,X.env.cells.lookup x=some c->c≠it)(h3:∀p∈X.pn++pins,p.1≠it):Inv X pins σ H {s with heap:=h',toks:=t'}:=by
 have nit:∀b u,H b=some u->b≠it:=fun b u e z=>by rw[z,hn] at e;cases e
 refine I.step (g':=s.gens) (d':=s.drawn) (ch:=[it]) (fun b hb=>?_) (fun b o _ _ hc e _=>k b o (fun z=>hc (by simp[z])) e) (fun b o _ _ hc e _=>⟨o.slots,k b o (fun z=>hc (by simp[z])) e⟩) (fun _ _ _ _ n=>n) (fun b o hc e=>⟨o,k b o (fun z=>hc (by simp[z])) e⟩) (fun _ _ e=>e) (fun _ _ _ e=>e) (fun b ps e=>⟨#[],by rw[e];simp⟩) (fun m hm=>?_) (fun b u e=>?_) I.bare
 . have e:b=it:=by simpa using hb
   subst e;exact⟨h1,hL,h2,h3⟩
 . obtain⟨o,es,ep,ho,r⟩:=hm;exact⟨o,es,ep,k _ o (Ne.symm hL) ho,r⟩
 . refine(I.hok b u e).stay (fun c v hc q=>k c v ?_ q) (fun _ q=>q) fun _ _ q=>q;rcases hc with z|z
   . rw[z];exact nit b u e
   . exact nit c _ z
theorem Inv.tok(I:Inv X pins σ H s)(t:Nat):Inv X pins σ H {s with toks:=t}:=I.un (h':=s.heap) (t':=t) Un.refl I.hok
theorem Inv.kept{t':Nat}(I:Inv X pins σ H s)(k:∀b u,s.heap.get? b=some u->h'.get? b=some u):Inv X pins σ H {s with heap:=h',toks:=t'}:=I.un (Un.kept k) (I.hok.kept k)
theorem Inv.laid{a:Addr}{o:HO}{t':Nat}(I:Inv X pins σ H s)(k:∀b u,s.heap.get? b=some u->h'.get? b=some u)(hp:s.heap.objs.size <= a)(new:bZ X.prog X.w (upd H a o) h' a o): Inv X pins σ (upd H a o) {s with heap:=h',toks:=t'}:=I.un (Un.laid k hp (I.hok.fresh hp)) (I.hok.laid k hp new)
theorem Inv.write{x e:Addr}{o:HO}{t':Nat}(I:Inv X pins σ H s)(mu:Mut (H x))(he:e=x\/H e=some (.own x))(k:∀b u,b≠e->s.heap.get? b=some u->h'.get? b=some u)(heo:∃u,h'.get? e=some u)(new:bZ X.prog X.w (upd H x o) h' x o):Inv X pins σ (upd H x o) {s with heap:=h',toks:=t'}:=I.un (Un.write mu he k heo) (I.hok.write mu he k heo new)
theorem Inv.pins_of{pins':List (Addr×Obj)}(I:Inv X pins σ H s)(h:∀p∈pins',s.heap.get? p.1=some p.2/\H p.1=none/\p.1≠X.env.locals/\p.1∉X.fs/\∀v,p.2.data≠.cell v):Inv X pins' σ H s:=⟨I.ok,I.os,I.bare,I.base,I.loc,I.cell,I.free,I.freeC,fun p hp=>(List.mem_append.mp hp).elim (fun z=>I.pin p (List.mem_append_left _ z)) (h p),I.hok,I.len⟩
theorem uX{N:List Str}(hN:N.Nodup){i j:Nat}{x:Str}(a:N[i]?=some x)(b:N[j]?=some x):i=j:=by
 obtain⟨h1,e1⟩:=List.getElem?_eq_some_iff.mp a;obtain⟨h2,e2⟩:=List.getElem?_eq_some_iff.mp b;exact(List.getElem_inj hN).mp (e1.trans e2.symm)
theorem qC{M:Model}{A:Around}{E:Value->Shared->Prop}{i:Nat}{x:Str}{v:V}{u:Value}{Q:Unit->Shared->Prop}(I:Inv X pins σ H s)(hN:X.N.Nodup)(hi:X.N[i]?=some x)(hx:Loc X.env.scope x)(r:bY v u)(h:∀s',Inv X pins (σ.set i (some v)) H s'->(∃a,Heap.SameBut a s.heap s'.heap/\(a=X.env.locals\/X.env.cells.lookup x=some a))->Q () s')(hf:X.fn x=true\/X.env.scope.names.lookup x=some .local:=by first|exact .inl rfl|exact .inr rfl|assumption):wpAny M A (storeName X.env x u) Q E s:=by
 obtain⟨m,hn,hl⟩:=id I.loc;have hcls:(X.env.scope.kind==.class || (X.env.scope.kind==.module && X.env.locals != X.env.globals))=false:=by rw[I.ok.kind];rfl
 have hiσ:i<σ.length:=by rw[I.len];exact(List.getElem?_eq_some_iff.mp hi).1
 have cne:=I.cne;have tracked:∀{a:Addr}{h':Heap},(∃o,s.heap.get? a=some o/\H a=none)->Heap.SameBut a s.heap h'->HOk X.prog X.w H h':=fun {a h'} ha hs b ob e=>by
   obtain⟨_,_,hfree⟩:=ha;refine(I.hok b ob e).stay (fun c w' hc q=>(hs.2 c ?_).trans q) (fun _ q=>q) fun _ _ q=>q;rintro rfl;rcases hc with rfl|hc
   . rw[hfree] at e;cases e
   . rw[hfree] at hc;cases hc
 rcases hx with hk|hk
 . refine wpAny_storeName_local hk hn (fun h' hn' hs=>?_) hcls;obtain⟨oL,_,_,hoL,_⟩:=id hn;refine h _ ⟨I.ok,I.os,I.bare,⟨fun b o e n hb hx=>?_,fun b o e n hb hx=>?_,I.base.free,fun b o e hx=>?_,I.base.tups,I.base.frzs,I.base.tbls⟩,⟨_,hn',fun j y v' e1 e2 e3=>?_⟩,fun y c e=>?_,I.free,I.freeC,fun p hp=>?_,tracked ⟨oL,hoL,I.free⟩ hs,by simpa using I.len⟩ ⟨_,hs,.inl rfl⟩
   . exact(hs.2 b (Nat.ne_of_lt (Nat.lt_of_lt_of_le (Heap.lt_size e) I.ok.above))).trans (I.base.keep b o e n hb hx)
   . obtain⟨sl,e1⟩:=I.base.slot b o e n hb hx;exact⟨sl,(hs.2 b (Nat.ne_of_lt (Nat.lt_of_lt_of_le (Heap.lt_size e) I.ok.above))).trans e1⟩
   . obtain⟨o',e1⟩:=I.base.there b o e hx;exact⟨o',(hs.2 b (Nat.ne_of_lt (Nat.lt_of_lt_of_le (Heap.lt_size e) I.ok.above))).trans e1⟩
   . by_cases hj:j=i
     . subst hj;rw[hi] at e1;cases e1;rw[List.getElem?_set_self hiσ] at e2;cases e2;exact⟨u,r,.inl ⟨hk,by simp⟩⟩
     . rw[List.getElem?_set_ne (Ne.symm hj)] at e2;obtain⟨u',r',q⟩:=hl j y v' e1 e2 e3;refine⟨u',r',?_⟩;rcases q with⟨k,e⟩|⟨k,c,e,z⟩
       . refine .inl ⟨k,?_⟩;have:y≠x:=fun e=>hj (uX hN e1 (e▸hi));simp[this,e]
       . exact .inr ⟨k,c,e,z.sameBut hs (cne y c e)⟩
   . obtain⟨w',z⟩:=I.cell y c e;exact⟨w',z.sameBut hs (cne y c e)⟩
   . obtain⟨e,n,ne,nf,d⟩:=I.pin p hp;exact⟨(hs.2 p.1 ne).trans e,n,ne,nf,d⟩
 . have hfn:X.fn x=true:=by
     rcases hf with z|z
     . exact z
     . rw[z] at hk;cases hk
   obtain⟨c,hc⟩:=I.ok.has x (.inl hk);obtain⟨w',z⟩:=I.cell x c hc;refine wpAny_storeName_cell I.ok.kind hk hc z (fun h' hc' hs=>?_);obtain⟨oc,hoc,hocd⟩:=id z;refine h {s with heap:=h'} ⟨I.ok,I.os,I.bare,⟨fun b o e n hb hx=>?_,fun b o e n hb hx=>?_,I.base.free,fun b o e hx=>?_,I.base.tups,I.base.frzs,I.base.tbls⟩,⟨m,hn.sameBut hs (Ne.symm (cne x c hc)),fun j y v' e1 e2 e3=>?_⟩,fun y c' e=>?_,I.free,I.freeC,fun p hp=>?_,tracked ⟨oc,hoc,I.freeC x c hc⟩ hs,by simpa using I.len⟩ ⟨c,hs,.inr hc⟩
   . exact(hs.2 b (Nat.ne_of_lt (Nat.lt_of_lt_of_le (Heap.lt_size e) (I.ok.cab x c hfn hc)))).trans (I.base.keep b o e n hb hx)
   . obtain⟨sl,e1⟩:=I.base.slot b o e n hb hx;exact⟨sl,(hs.2 b (Nat.ne_of_lt (Nat.lt_of_lt_of_le (Heap.lt_size e) (I.ok.cab x c hfn hc)))).trans e1⟩
   . obtain⟨o',e1⟩:=I.base.there b o e hx;exact⟨o',(hs.2 b (Nat.ne_of_lt (Nat.lt_of_lt_of_le (Heap.lt_size e) (I.ok.cab x c hfn hc)))).trans e1⟩
   . by_cases hj:j=i
     . subst hj;rw[hi] at e1;cases e1;rw[List.getElem?_set_self hiσ] at e2;cases e2;exact⟨u,r,.inr ⟨.inl hk,c,hc,hc'⟩⟩
     . rw[List.getElem?_set_ne (Ne.symm hj)] at e2;obtain⟨u',r',q⟩:=hl j y v' e1 e2 e3;refine⟨u',r',?_⟩;rcases q with q|⟨k,c',e,z'⟩
       . exact .inl q
       . refine .inr ⟨k,c',e,z'.sameBut hs ?_⟩;rintro rfl;exact hj (uX hN e1 (I.ok.inj _ _ _ e hc▸hi))
   . by_cases hcc:c'=c
     . subst hcc;exact⟨_,hc'⟩
     . obtain⟨w2,z2⟩:=I.cell y c' e;exact⟨w2,z2.sameBut hs hcc⟩
   . obtain⟨e,n,ne,nf,d⟩:=I.pin p hp;refine⟨(hs.2 p.1 ?_).trans e,n,ne,nf,d⟩;intro q;rw[q,hoc] at e;have q':oc=p.2:=Option.some.inj e;exact d w' (by rw[<- q'];exact hocd)
theorem uB{M:Model}{A:Around}{E:Value->Shared->Prop}{i:Nat}{x:Str}{v:V}{u:Value}{Q:Unit->Shared->Prop}(I:Inv X pins σ H s)(hN:X.N.Nodup)(hi:X.N[i]?=some x)(hx:Loc X.env.scope x)(r:bY v u)(h:∀s',Inv X pins (σ.set i (some v)) H s'->Q () s')(hf:X.fn x=true\/X.env.scope.names.lookup x=some .local:=by first|exact .inl rfl|exact .inr rfl|assumption):wpAny M A (storeName X.env x u) Q E s:=qC I hN hi hx r (fun s' I' _=>h s' I') hf
theorem Inv.call'{s':Shared}{ch:List Addr}(I:Inv X pins σ H s)(ho:s'.os=s.os)(u:Un (frs X.stack) ch H H' s.heap s'.heap)(hok:HOk X.prog X.w H' s'.heap)(hg:AllBare s'.gens)(hch:∀b∈ch,(b∈X.ex\/X.s₀.heap.objs.size <= b)/\b≠X.env.locals/\(∀x c,X.env.cells.lookup x=some c->c≠b)/\∀p∈X.pn++pins,p.1≠b):Inv X pins σ H' s':=by
 obtain⟨h',g',d',t',o'⟩:=s';have e:o'=s.os:=ho;subst e;exact I.call (g':=g') (t':=t') (d':=d') u hok hg hch
end
abbrev XK:=Value->Option Addr->Hp->Prop
abbrev St:=List (Option V)
abbrev VK:=V->Hp->Prop
abbrev TE:=St->Hp->VK->Prop
abbrev TT:=St->Hp->(Bool->Hp->Prop)->Prop
abbrev TA:=St->Hp->(List V->Hp->Prop)->Prop
structure wU where
 nx:St->Hp->Prop
 rt:VK
 bk:St->Hp->Prop:=fun _ _=>False
 ct:St->Hp->Prop:=fun _ _=>False
abbrev TS:=wU->St->Hp->Prop
def EP(X:Cx)(pins:List (Addr×Obj))(σ:St)(Q:VK)(u:Value)(s':Shared):Prop:=∃v H',Inv X pins σ H' s'/\bY v u/\Q v H'
def TP(X:Cx)(pins:List (Addr×Obj))(σ:St)(Q:Bool->Hp->Prop)(b:Bool)(s':Shared):Prop:=∃H',Inv X pins σ H' s'/\Q b H'
def AP(X:Cx)(pins:List (Addr×Obj))(σ:St)(Q:List V->Hp->Prop)(us:List Value)(s':Shared):Prop:=∃vs H',Inv X pins σ H' s'/\bO vs us/\Q vs H'
def SP(X:Cx)(pins:List (Addr×Obj))(D:wU)(f:Flow)(s':Shared):Prop:=match f with
 |.next=>∃σ' H',Inv X pins σ' H' s'/\D.nx σ' H'
 |.brk=>∃σ' H',Inv X pins σ' H' s'/\D.bk σ' H'
 |.cont=>∃σ' H',Inv X pins σ' H' s'/\D.ct σ' H'
 |.ret u=>∃v σ' H',Inv X pins σ' H' s'/\bY v u/\D.rt v H'
def PE(X:Cx)(e:Expr)(t:TE):Prop:=∀(pins:List (Addr×Obj))(s:Shared)(σ:St)(H:Hp)(Q:VK),Inv X pins σ H s->t σ H Q->wpAny (model X.prog X.w) X.A (eval e X.env) (EP X pins σ Q) X.xe s
def PT(X:Cx)(e:Expr)(t:TT):Prop:=∀(pins:List (Addr×Obj))(s:Shared)(σ:St)(H:Hp)(Q:Bool->Hp->Prop),Inv X pins σ H s->t σ H Q->wpAny (model X.prog X.w) X.A (isTrue e X.env (eval e X.env)) (TP X pins σ Q) X.xe s
def PW(X:Cx)(e:Expr)(t:TT):Prop:=∀(whole:Sem Value)(pins:List (Addr×Obj))(s:Shared)(σ:St)(H:Hp)(Q:Bool->Hp->Prop),Inv X pins σ H s->t σ H Q->wpAny (model X.prog X.w) X.A (isTrue e X.env whole) (TP X pins σ Q) X.xe s
theorem PW.pt{X:Cx}{e:Expr}{t:TT}(h:PW X e t):PT X e t:=h _
def PA(X:Cx)(es:List Expr)(t:TA):Prop:=∀(pos:Pos)(pins:List (Addr×Obj))(s:Shared)(σ:St)(H:Hp)(Q:List V->Hp->Prop),Inv X pins σ H s->t σ H Q->wpAny (model X.prog X.w) X.A (spliced (backTo pos (starEach es X.env))) (AP X pins σ Q) X.xe s
def PS(X:Cx)(st:Stmt)(t:TS):Prop:=∀(pins:List (Addr×Obj))(s:Shared)(σ:St)(H:Hp)(D:wU),Inv X pins σ H s->t D σ H->wpAny (model X.prog X.w) X.A (exec st X.env) (SP X pins D) X.xe s
def PSs(X:Cx)(st:List Stmt)(t:TS):Prop:=∀(pins:List (Addr×Obj))(s:Shared)(σ:St)(H:Hp)(D:wU),Inv X pins σ H s->t D σ H->wpAny (model X.prog X.w) X.A (execs st X.env) (SP X pins D) X.xe s
theorem thn{α:Type}{t:Sem α}{Q Q':α->Shared->Prop}{M:Model}{A:Around}{E:Value->Shared->Prop}{s:Shared}(h:wpAny M A t Q E s)(hQ:∀a s,Q a s->Q' a s):wpAny M A t Q' E s:=wpAny_mono h hQ fun _ _ x=>x
section
variable{X:Cx}
def aEm(i:Nat):TE:=fun σ H Q=>∃v,σ[i]?=some (some v)/\Q v H
def tC(v:V):TE:=fun _ H Q=>Q v H
theorem aF0{i:Nat}{x:Str}{pos:Pos}(hN:X.N[i]?=some x)(hv:Vis X.env.scope x)(hd:(x==("__debug__":Str))=false:=by decide)(hcd:(x==("__classdict__":Str))=false:=by decide):PE X (.Name x pos) (aEm i):=by
 intro pins s σ H Q I h;obtain⟨v,e,h⟩:=h;obtain⟨m,hn,hl⟩:=I.loc;obtain⟨u,r,l⟩:=hl i x v hN e hv;have fin:EP X pins σ Q u s:=⟨v,H,I,r,h⟩;rcases l with⟨hk,hm⟩|⟨hk,c,hc,hcell⟩
 . exact wpAny_Name (wpAny_loadName_local I.ok.kind hk hn hm fin) hd
 . rcases hk with hk|hk
   . exact wpAny_Name (wpAny_loadName_cell I.ok.kind hk hc hcell fin) hd
   . exact wpAny_Name (wpAny_loadName_free I.ok.kind hk hc hcell fin hcd) hd
theorem aJ{i j pos}:PE X (.Constant (.int i) j pos) (tC (.int i)):=fun _ _ _ H _ I h=>wpAny_Constant_int ⟨.int i,H,I.tok _,⟨_,rfl⟩,h⟩
theorem cP{b j pos}:PE X (.Constant (.bool b) j pos) (tC (.bl b)):=fun _ _ _ H _ I h=>Constant_bool ⟨.bl b,H,I,rfl,h⟩
theorem bW{j pos}:PE X (.Constant .none j pos) (tC .non):=fun _ _ _ H _ I h=>Constant_none ⟨.non,H,I,rfl,h⟩
theorem bG{x j pos}:PE X (.Constant (.str x) j pos) (tC (.str x)):=fun _ _ _ H _ I h=>Calls.Constant_str ⟨.str x,H,I.tok _,⟨_,rfl⟩,h⟩
def Gl(X:Cx)(x:Str):Prop:=X.env.kindOf x=some .globalImplicit
theorem mJ{E:Value->Shared->Prop}{pins:List (Addr×Obj)}{s:Shared}{σ:St}{H:Hp}{x:Str}{u:Value}{pos:Pos}{Q:Value->Shared->Prop}(I:Inv X pins σ H s)(hg:Gl X x)(hm:X.mg x=some u)(h:Q u s)(hd:(x==("__debug__":Str))=false:=by decide):wpAny (model X.prog X.w) X.A (eval (.Name x pos) X.env) Q E s:=Calls.Name_function_global I.ok.kind hg (Calls.loadGlobal_global (by rw[I.ok.glob];exact I.mod.glob.keeps I.bk) hm h) hd
theorem fT{E:Value->Shared->Prop}{pins:List (Addr×Obj)}{s:Shared}{σ:St}{H:Hp}{x:Str}{u:Value}{pos:Pos}{Q:Value->Shared->Prop}(I:Inv X pins σ H s)(hg:Gl X x)(hm:X.mg x=none)(hv:bootBuiltins x=some u)(h:Q u s)(hn:x≠"__name__":=by decide)(hd:(x==("__debug__":Str))=false:=by decide):wpAny (model X.prog X.w) X.A (eval (.Name x pos) X.env) Q E s:=by
 obtain⟨mb,h1,h2⟩:=I.mod.blt;exact Calls.Name_function_global I.ok.kind hg (Calls.loadGlobal_builtin (by rw[I.ok.glob];exact I.mod.glob.keeps I.bk) hm (by rw[I.ok.blt];exact h1.keeps I.bk) ((h2 x hn).trans hv) h) hd
theorem aDh{x:Str}{v:V}{u:Value}{pos:Pos}(hg:Gl X x)(hm:X.mg x=none)(hv:bootBuiltins x=some u)(r:bY v u)(hn:x≠"__name__":=by decide)(hd:(x==("__debug__":Str))=false:=by decide):PE X (.Name x pos) (tC v):=fun _ _ _ H _ I h=>fT I hg hm hv ⟨v,H,I,r,h⟩ hn hd
variable{a b:Expr}{ta tb:TE}{pos:Pos}
def PC(X:Cx)(op:CmpOp)(a b:Expr)(t:TE):Prop:=
 ∀(pins:List (Addr×Obj))(s:Shared)(σ:St)(H:Hp)(Q:VK),Inv X pins σ H s->t σ H Q ->
   wpAny (model X.prog X.w) X.A (eval a X.env) (fun v s₁=>wpAny (model X.prog X.w) X.A (eval b X.env) (fun u s₂=>wpAny (model X.prog X.w) X.A (compareOp op v u) (EP X pins σ Q) X.xe s₂) X.xe s₁) X.xe s
theorem aBc(b:Expr){op:CmpOp}(h:op≠.In)(h2:op≠.NotIn):behindInMarks op b=false:=by
 have e1:(op==CmpOp.In)=false:=by cases op <;> first|rfl|exact absurd rfl h
 have e2:(op==CmpOp.NotIn)=false:=by cases op <;> first|rfl|exact absurd rfl h2
 cases b <;> simp[behindInMarks,e1,e2]
def tB(t:TE):TT:=fun σ H Q=>t σ H fun x H1=>∃c,x=.bl c/\Q c H1
theorem aC9{op:CmpOp}{t:TE}(h:PC X op a b t)(h1:behindInMarks op b=false:=by first|exact aBc _ (by decide) (by decide)|rfl):PT X (.Compare a [op] [b] pos) (tB t):=by
 intro pins s σ H Q I hw;refine wpAny_isTrue_Compare1 (thn (h pins s σ H _ I hw) fun v s1 h1=>thn h1 fun u s2 h2=>thn h2 fun c s3 ⟨x,H1,I1,r1,q1⟩=>?_) h1;obtain⟨d,rfl,q⟩:=q1;cases r1;exact wpAny_truthy_bool ⟨H1,I1,q⟩
theorem bP{e:Expr}{t:TE}(h:PE X e t)(he:∀whole,isTrue e X.env whole=(do let v <- whole;standAt e.pos;holding [v] (truthy v)):=by intro _;rfl):PT X e (tB t):=by
 intro pins s σ H Q I hw;refine isTrue_plain (thn (h pins s σ H _ I hw) fun v s1 ⟨x,H1,I1,r1,q1⟩=>?_) (he _);obtain⟨d,rfl,q⟩:=q1;cases r1;exact wpAny_truthy_bool ⟨H1,I1,q⟩
variable{tA tB':TT}{dZ:List Expr}
def aH8(t u:TT):TT:=fun σ H Q=>t σ H fun c H1=>if c=true then u σ H1 Q else Q false H1
def tOr(t u:TT):TT:=fun σ H Q=>t σ H fun c H1=>if c=true then Q true H1 else u σ H1 Q
def aHo(t:TT):TT:=fun σ H Q=>t σ H fun c H1=>Q (!c) H1
theorem lW(ha:PT X a tA):PW X (.BoolOp .And [a] pos) tA:=by
 intro wh pins s σ H Q I h;refine isTrue_and (thn (ha pins s σ H Q I h) fun c s1 e=>?_);cases c with
 |true=>exact isTrue_and_nil e
 |false=>exact e
theorem dI(ha:PT X a tA):PW X (.BoolOp .Or [a] pos) tA:=by
 intro wh pins s σ H Q I h;refine isTrue_or (thn (ha pins s σ H Q I h) fun c s1 e=>?_);cases c with
 |false=>exact isTrue_or_nil e
 |true=>exact e
theorem nG(ha:PT X a tA)(hb:PW X (.BoolOp .And (b::dZ) pos) tB'):PW X (.BoolOp .And (a::b::dZ) pos) (aH8 tA tB'):=by
 intro wh pins s σ H Q I h;refine isTrue_and (thn (ha pins s σ H _ I h) fun c s1 ⟨H1,I1,q1⟩=>?_);cases c with
 |true=>exact hb wh pins s1 σ H1 Q I1 q1
 |false=>exact⟨H1,I1,q1⟩
theorem dW(ha:PT X a tA)(hb:PW X (.BoolOp .Or (b::dZ) pos) tB'):PW X (.BoolOp .Or (a::b::dZ) pos) (tOr tA tB'):=by
 intro wh pins s σ H Q I h;refine isTrue_or (thn (ha pins s σ H _ I h) fun c s1 ⟨H1,I1,q1⟩=>?_);cases c with
 |true=>exact⟨H1,I1,q1⟩
 |false=>exact hb wh pins s1 σ H1 Q I1 q1
theorem cA(ha:PT X a tA):PT X (.UnaryOp .Not a pos) (aHo tA):=by
 intro pins s σ H Q I h;exact isTrue_not (ha pins s σ H (fun c H1=>Q (!c) H1) I h)
def aGe(ta tb:TE):TE:=fun σ H Q=>ta σ H fun x H1=>∃c,x=.bl c/\if c=true then tb σ H1 Q else Q (.bl false) H1
def aG7(ta:TE):TE:=fun σ H Q=>ta σ H fun x H1=>∃c,x=.bl c/\Q (.bl (!c)) H1
theorem uQ{op}{t:TE}(h:PE X a t):PE X (.BoolOp op [a] pos) t:=fun pins s σ H Q I hw=>BoolOp_one (h pins s σ H Q I hw)
theorem uS(ha:PE X a ta)(hb:PE X (.BoolOp .And (b::dZ) pos) tb):PE X (.BoolOp .And (a::b::dZ) pos) (aGe ta tb):=by
 intro pins s σ H Q I h;refine BoolOp_and (thn (ha pins s σ H _ I h) fun v s1 ⟨x,H1,I1,r1,q1⟩=>?_);obtain⟨c,rfl,q1⟩:=q1;cases r1;refine wpAny_truthy_bool ?_;cases c with
 |true=>exact hb pins s1 σ H1 Q I1 q1
 |false=>exact⟨.bl false,H1,I1,rfl,q1⟩
theorem aF2(ha:PE X a ta):PE X (.UnaryOp .Not a pos) (aG7 ta):=by
 intro pins s σ H Q I h;refine UnaryOp_ (thn (ha pins s σ H _ I h) fun v s1 ⟨x,H1,I1,r1,q1⟩=>?_);obtain⟨c,rfl,q1⟩:=q1;cases r1;exact not_of (wpAny_truthy_bool ⟨.bl (!c),H1,I1,rfl,q1⟩)
end
def SqL(K:W.Frag)(H:Hp)(a:Addr)(xs:List V):Prop:=
 Rd H a (.lst xs) \/
   ∃(o:Obj)(its:Array Value)(n:Nat),K.lookup a=some o/\o.cls=.type "list"/\o.dict=none/\o.data=.seq its n/\its.size <= sizeLine/\bO xs its.toList
def SqT(K:W.Frag)(H:Hp)(a:Addr)(xs:List V):Prop:=
 Rd H a (.tup xs) \/
   ∃(o:Obj)(its:Array Value)(n:Nat),K.lookup a=some o/\o.cls=.type "tuple"/\o.data=.seq its n/\its.size <= sizeLine/\bO xs its.toList
def aI8:Value->Option V
 |.none=>some .non
 |.bool b=>some (.bl b)
 |.int i _=>some (.int i)
 |.str x _=>some (.str x)
 |.bytes b _=>some (.byt b)
 |.float b _=>some (.flt b)
 |.ref a=>some (.ref a)
 |.type n=>some (.ty n)
 |_=>none
theorem bY.abs{x:V}{u:Value}(r:bY x u):aI8 u=some x:=by
 cases x with
 |non=>cases r;rfl
 |bl _=>cases r;rfl
 |int _=>obtain⟨t,rfl⟩:=r;rfl
 |str _=>obtain⟨t,rfl⟩:=r;rfl
 |byt _=>obtain⟨t,rfl⟩:=r;rfl
 |flt _=>obtain⟨t,rfl⟩:=r;rfl
 |ref _=>cases r;rfl
 |ty _=>cases r;rfl
theorem bY.inj{x y:V}{u:Value}(r:bY x u)(q:bY y u):x=y:=Option.some.inj (r.abs.symm.trans q.abs)
theorem bO.inj:∀{xs ys:List V}{us:List Value},bO xs us->bO ys us->xs=ys
 |_,_,_,.nil,.nil=>rfl
 |_,_,_,.cons r t,.cons r' t'=>by rw[r.inj r',bO.inj t t']
section
variable{X:Cx}{pins:List (Addr×Obj)}{σ:St}{H:Hp}{s:Shared}{a:Addr}{xs ys:List V}
theorem SqL.of{K:W.Frag}(h:H a=some (.lst xs)):SqL K H a xs:=.inl (.inl h)
theorem SqT.of{K:W.Frag}(h:H a=some (.tup xs)):SqT K H a xs:=.inl (.inl h)
theorem Inv.list(I:Inv X pins σ H s)(h:SqL X.K H a xs):∃its:List Value,bO xs its/\PlainL s.heap a its.toArray/\xs.length <= sizeLine:=by
 rcases h with h|⟨o,its,n,hk,hc,hd,hs,hz,r⟩
 . obtain⟨z,its,n,r,e⟩:=h.ok I.hok;exact⟨its,r,⟨_,n,e,rfl,rfl,rfl⟩,z⟩
 . refine⟨its.toList,r,⟨o,n,I.kIn a o hk,hc,hd,by simpa using hs⟩,?_⟩;have e:=r.length;simp only[Array.length_toList] at e;omega
theorem Inv.tuple(I:Inv X pins σ H s)(h:SqT X.K H a xs):∃its:List Value,bO xs its/\IsTup s.heap a its.toArray/\xs.length <= sizeLine:=by
 rcases h with h|⟨o,its,n,hk,hc,hs,hz,r⟩
 . obtain⟨z,its,r,p⟩:=h.ok I.hok;exact⟨its,r,p,z⟩
 . refine⟨its.toList,r,⟨o,I.kIn a o hk,hc,n,by simpa using hs⟩,?_⟩;have e:=r.length;simp only[Array.length_toList] at e;omega
theorem Inv.list_inj(I:Inv X pins σ H s)(h:SqL X.K H a xs)(h':SqL X.K H a ys):xs=ys:=by
 obtain⟨its,r,⟨o,n,e,_,_,d⟩,_⟩:=I.list h;obtain⟨its',r',⟨o',n',e',_,_,d'⟩,_⟩:=I.list h';rw[e] at e';cases e';rw[d] at d';injection d' with d1 _;have:its=its':=by simpa using congrArg Array.toList d1
 subst this;exact r.inj r'
end
abbrev Cx.wish(X:Cx)(E:Value->Shared->Prop):Cx:={X with xe:=E}
abbrev Cx.nox(X:Cx):Cx:=X.wish fun _ _=>False
theorem Cx.Ok.wish{X:Cx}(ok:X.Ok)(E:Value->Shared->Prop):(X.wish E).Ok:=⟨ok.mod,ok.kind,ok.glob,ok.blt,ok.above,ok.inj,ok.has,ok.cab,ok.hd,ok.frames,ok.stk,ok.exf,ok.bs,ok.bsz,ok.noex,ok.exfs,ok.funs,ok.frf⟩
theorem Cx.Ok.unwish{X:Cx}{E:Value->Shared->Prop}(ok:(X.wish E).Ok):X.Ok:=⟨ok.mod,ok.kind,ok.glob,ok.blt,ok.above,ok.inj,ok.has,ok.cab,ok.hd,ok.frames,ok.stk,ok.exf,ok.bs,ok.bsz,ok.noex,ok.exfs,ok.funs,ok.frf⟩
section
variable{X:Cx}{pins:List (Addr×Obj)}{σ:St}{H:Hp}{s:Shared}{E:Value->Shared->Prop}
theorem Inv.wish(I:Inv X pins σ H s)(E:Value->Shared->Prop):Inv (X.wish E) pins σ H s:=⟨I.ok.wish E,I.os,I.bare,I.base,I.loc,I.cell,I.free,I.freeC,I.pin,I.hok,I.len⟩
theorem Inv.unwish(I:Inv (X.wish E) pins σ H s):Inv X pins σ H s:=⟨I.ok.unwish,I.os,I.bare,I.base,I.loc,I.cell,I.free,I.freeC,I.pin,I.hok,I.len⟩
theorem SP.unwish{D:wU}{f:Flow}{s':Shared}(h:SP (X.wish E) pins D f s'):SP X pins D f s':=by
 cases f with
 |next=>obtain⟨σ',H',I,q⟩:=h;exact⟨σ',H',I.unwish,q⟩
 |brk=>obtain⟨σ',H',I,q⟩:=h;exact⟨σ',H',I.unwish,q⟩
 |cont=>obtain⟨σ',H',I,q⟩:=h;exact⟨σ',H',I.unwish,q⟩
 |ret u=>obtain⟨v,σ',H',I,r,q⟩:=h;exact⟨v,σ',H',I.unwish,r,q⟩
theorem PE.nox{e:Expr}{t:TE}(h:PE X.nox e t):PE X e t:=fun pins s σ H Q I hw=>
 wpAny_mono (h pins s σ H Q (I.wish _) hw) (fun _ _ ⟨v,H',I',r,q⟩=>⟨v,H',I'.unwish,r,q⟩) fun _ _ z=>False.elim z
theorem PT.nox{e:Expr}{t:TT}(h:PT X.nox e t):PT X e t:=fun pins s σ H Q I hw=>
 wpAny_mono (h pins s σ H Q (I.wish _) hw) (fun _ _ ⟨H',I',q⟩=>⟨H',I'.unwish,q⟩) fun _ _ z=>False.elim z
theorem PSs.nox{st:List Stmt}{t:TS}(h:PSs X.nox st t):PSs X st t:=fun pins s σ H D I hw=>
 wpAny_mono (h pins s σ H D (I.wish _) hw) (fun _ _ q=>q.unwish) fun _ _ z=>False.elim z
end
section
variable{X:Cx}{st:Stmt}{dZ:List Stmt}{t u:TS}{e:Expr}{te:TE}{pos:Pos}
def aEo:TS:=fun D σ H=>D.nx σ H
def aH4(t u:TS):TS:=fun D σ H=>t {D with nx:=u D} σ H
theorem aT:PSs X [] aEo:=fun _ _ σ H _ I h=>wpAny_execs_nil ⟨σ,H,I,h⟩
theorem aC(h1:PS X st t)(h2:PSs X dZ u):PSs X (st::dZ) (aH4 t u):=by
 intro pins s σ H D I h;refine wpAny_execs_cons (thn (h1 pins s σ H {D with nx:=u D} I h) fun f s1 q=>?_);cases f with
 |next=>
   obtain⟨σ',H',I',q⟩:=q;exact h2 pins s1 σ' H' D I' q
 |ret v=>exact q
 |brk=>exact q
 |cont=>exact q
theorem aG(h1:PS X st t):PSs X [st] t:=by
 intro pins s σ H D I h;refine wpAny_execs_cons (thn (h1 pins s σ H D I h) fun f s1 q=>?_);cases f with
 |next=>exact wpAny_execs_nil q
 |ret v=>exact q
 |brk=>exact q
 |cont=>exact q
theorem Inv.quiet{pins:List (Addr×Obj)}{σ:St}{H:Hp}{s:Shared}(I:Inv X pins σ H s):interactive X.env=false:=by simp[interactive,I.ok.kind]
def aG8(te:TE):TS:=fun D σ H=>te σ H fun _ H1=>D.nx σ H1
theorem bE(he:PE X e te)(hs:swapsWith e none pos.line X.env=pure false:=by rfl):PS X (.Expr e pos) (aG8 te):=by
 intro pins s σ H D I h;exact wpAny_Expr_any (thn (he pins s σ H _ I h) fun v s1 ⟨x,H1,I1,r1,q1⟩=>⟨σ,H1,I1,q1⟩) I.quiet hs
def aHn(te:TE):TS:=fun D σ H=>te σ H D.rt
theorem aS(he:PE X e te):PS X (.Return (some e) pos) (aHn te):=by
 intro pins s σ H D I h;exact wpAny_Return_some (thn (he pins s σ H _ I h) fun v s1 ⟨x,H1,I1,r1,q1⟩=>⟨x,σ,H1,I1,r1,q1⟩)
def aH6(c:TT)(t u:TS):TS:=fun D σ H=>c σ H fun b H1=>if b=true then t D σ H1 else u D σ H1
theorem bC{c:Expr}{a b:List Stmt}{tc:TT}(hc:PT X c tc)(ha:PSs X a t)(hb:PSs X b u):PS X (.If c a b pos) (aH6 tc t u):=by
 intro pins s σ H D I h;refine wpAny_If (thn (hc pins s σ H _ I h) fun d s1 ⟨H1,I1,q1⟩=>?_);cases d with
 |true=>exact ha pins s1 σ H1 D I1 q1
 |false=>exact hb pins s1 σ H1 D I1 q1
end
abbrev TG:=V->St->Hp->(St->Hp->Prop)->Prop
abbrev TGs:=List V->St->Hp->(St->Hp->Prop)->Prop
def PG(X:Cx)(target:Expr)(t:TG):Prop:=
 ∀(pins:List (Addr×Obj))(s:Shared)(σ:St)(H:Hp)(v:V)(u:Value)(Q:St->Hp->Prop),Inv X pins σ H s->bY v u->t v σ H Q ->
   wpAny (model X.prog X.w) X.A (assign target X.env u) (fun _ s'=>∃σ' H',Inv X pins σ' H' s'/\Q σ' H') X.xe s
def PGs(X:Cx)(ts:List Expr)(t:TGs):Prop:=
 ∀(pins:List (Addr×Obj))(s:Shared)(σ:St)(H:Hp)(vs:List V)(us:List Value)(Q:St->Hp->Prop),Inv X pins σ H s->bO vs us->t vs σ H Q ->
   wpAny (model X.prog X.w) X.A (assignInOrder ((assignEach ts X.env).map (·.2)) us) (fun _ s'=>∃σ' H',Inv X pins σ' H' s'/\Q σ' H') X.xe s
abbrev aFr:=V->V->V->Hp->(Hp->Prop)->Prop
def aH0(X:Cx)(t:aFr):Prop:=
 ∀(pins:List (Addr×Obj))(s:Shared)(σ:St)(H:Hp)(o i v:V)(ov iv u:Value)(Q:Hp->Prop),Inv X pins σ H s->bY o ov->bY i iv->bY v u->t o i v H Q ->
   wpAny (model X.prog X.w) X.A (setItem ov iv u) (fun _ s'=>∃H',Inv X pins σ H' s'/\Q H') X.xe s
abbrev TIp:=V->V->Hp->VK->Prop
def PIp(X:Cx)(op:Operator)(t:TIp):Prop:=
 ∀(pins:List (Addr×Obj))(s:Shared)(σ:St)(H:Hp)(x y:V)(v u:Value)(Q:VK),Inv X pins σ H s->bY x v->bY y u->t x y H Q ->
   wpAny (model X.prog X.w) X.A (inplaceOp op v u) (EP X pins σ Q) X.xe s
section
variable{X:Cx}{pos:Pos}
def aDz(i:Nat):TG:=fun v σ H Q=>Q (σ.set i (some v)) H
theorem bB{i:Nat}{x:Str}(hN:X.N.Nodup)(hi:X.N[i]?=some x)(hx:Loc X.env.scope x)(hf:X.fn x=true\/X.env.scope.names.lookup x=some .local:=by first|exact .inl rfl|exact .inr rfl|assumption):PG X (.Name x pos) (aDz i):=by
 intro pins s σ H v u Q I r h;exact wpAny_assign_Name (uB I hN hi hx r (fun s' I'=>⟨_,H,I',h⟩) hf)
def aI7:TGs:=fun vs σ H Q=>vs=[]/\Q σ H
def aGs(t:TG)(u:TGs):TGs:=fun vs σ H Q=>∃v r,vs=v::r/\t v σ H fun σ' H'=>u r σ' H' Q
theorem yI:PGs X [] aI7:=by
 intro pins s σ H vs us Q I r h;obtain⟨e,h⟩:=h;subst e;cases r;exact assignInOrder_nil ⟨σ,H,I,h⟩
theorem lC{e:Expr}{es:List Expr}{t:TG}{u:TGs}(h1:PG X e t)(h2:PGs X es u)(hs:(assignEach (e::es) X.env).map (·.2)=assign e X.env::(assignEach es X.env).map (·.2):=by rfl):PGs X (e::es) (aGs t u):=by
 intro pins s σ H vs us Q I r h;obtain⟨v,vr,e1,h⟩:=h;subst e1;cases r with
 |cons r rr=>
   rw[hs];refine assignInOrder_cons (thn (h1 pins s σ H _ _ _ I r h) fun _ s1 ⟨σ1,H1,I1,q1⟩=>?_);exact h2 pins s1 σ1 H1 _ _ Q I1 rr q1
def aHc(K:W.Frag)(n:Nat)(t:TGs):TG:=fun v σ H Q=>∃a xs,v=.ref a/\SqT K H a xs/\xs.length=n/\t xs σ H Q
theorem aCc{es:List Expr}{k:Nat}{t:TGs}{n:Nat}(hc:X.calm=true)(h:PGs X es t)(hn:(assignEach es X.env).length=n:=by rfl)(hst:(assignEach es X.env).findIdx? (·.1)=none:=by rfl):PG X (.Tuple es k pos) (aHc X.K n t):=by
 intro pins s σ H v u Q I r hw;obtain⟨a,xs,e1,hq,hl,hw⟩:=hw;subst e1;cases r;obtain⟨its,rv,ht,hz⟩:=I.tuple hq;refine assign_Tuple_tuple (I.ok.hd hc) ht (by simp[hn,<- hl,rv.length]) hst fun h' hx=>?_;have I1:Inv X pins σ H {s with heap:=h'}:=I.kept (t':=s.toks) fun b o e=>hx b o (Nat.ne_of_lt (Heap.lt_size e)) e;exact h pins _ σ H xs _ Q I1 (by simpa using rv) hw
def aI6(to ti:TE)(t:aFr):TG:=fun v σ H Q=>to σ H fun o H1=>ti σ H1 fun i H2=>t o i v H2 fun H3=>Q σ H3
theorem lZ{o i:Expr}{to ti:TE}{t:aFr}(ho:PE X o to)(hi:PE X i ti)(hs:aH0 X t)(ha:∀v,assign (.Subscript o i pos) X.env v=(do
     let ov <- holding [v] (eval o X.env)
     let iv <- holding [v,ov] (eval i X.env)
     standAt pos
     holding [v,ov,iv] (setItem ov iv v)
     release [v,ov,iv] []):=by intro _;rfl):PG X (.Subscript o i pos) (aI6 to ti t):=by
 intro pins s σ H v u Q I r h;rw[ha];refine wpAny_bind (wpAny_holding (thn (ho pins s σ H _ I h) fun ov s1 ⟨x,H1,I1,r1,q1⟩=>?_));refine wpAny_bind (wpAny_holding (thn (hi pins s1 σ H1 _ I1 q1) fun iv s2 ⟨y,H2,I2,r2,q2⟩=>?_));refine wpAny_bind (wpAny_standAt (wpAny_bind (wpAny_holding (thn (hs pins s2 σ H2 x y v ov iv u _ I2 r1 r2 r q2) fun _ s3 ⟨H3,I3,q3⟩=>?_))));exact wpAny_release ⟨σ,H3,I3,q3⟩
def aGd(te:TE)(g:TG):TS:=fun D σ H=>te σ H fun x H1=>g x σ H1 D.nx
theorem lX{tg e:Expr}{te:TE}{g:TG}(he:PE X e te)(hg:PG X tg g)(hs:swapsWithSole [tg] e pos.line X.env=pure false:=by rfl)(hw:swappedStores [tg] e X.env=pure none:=by rfl)(h1:(assignEach [tg] X.env).map (·.2)=[assign tg X.env]:=by rfl):PS X (.Assign [tg] e pos) (aGd te g):=by
 intro pins s σ H D I h;refine wpAny_Assign_stores (thn (he pins s σ H _ I h) fun v s1 ⟨x,H1,I1,r1,q1⟩=>?_) hs hw;rw[h1];exact thn (hg pins s1 σ H1 x v _ I1 r1 q1) fun _ s2 q=>q
theorem aX{i:Nat}{x:Str}{e:Expr}{te:TE}{pos':Pos}(hN:X.N.Nodup)(hi:X.N[i]?=some x)(hx:Loc X.env.scope x)(he:PE X e te)(hs:swapsWith e (some (.Name x pos')) pos.line X.env=pure false:=by rfl)(hf:X.fn x=true\/X.env.scope.names.lookup x=some .local:=by first|exact .inl rfl|exact .inr rfl|assumption): PS X (.Assign [.Name x pos'] e pos) (aGd te (aDz i)):=by
 intro pins s σ H D I h;refine wpAny_Assign_Name (thn (he pins s σ H _ I h) fun v s1 ⟨y,H1,I1,r1,q1⟩=>?_) hs;exact uB I1 hN hi hx r1 (fun s2 I2=>⟨_,H1,I2,q1⟩) hf
def aGc(to ti te:TE)(tget:V->V->Hp->VK->Prop)(tip:TIp)(tset:aFr):TS:=fun D σ H=>to σ H fun o H1=>ti σ H1 fun i H2=>tget o i H2 fun x H3=>te σ H3 fun y H4=>tip x y H4 fun z H5=>tset o i z H5 fun H6=>D.nx σ H6
def aHg(X:Cx)(t:V->V->Hp->VK->Prop):Prop:=
 ∀(pins:List (Addr×Obj))(s:Shared)(σ:St)(H:Hp)(o i:V)(ov iv:Value)(Q:VK),Inv X pins σ H s->bY o ov->bY i iv->t o i H Q ->
   wpAny (model X.prog X.w) X.A (getItem ov iv) (EP X pins σ Q) X.xe s
theorem aD9{o i e:Expr}{to ti te:TE}{tget:V->V->Hp->VK->Prop}{tip:TIp}{tset:aFr}{op:Operator}{tpos:Pos}(ho:PE X o to)(hi:PE X i ti)(hg:aHg X tget)(he:PE X e te)(hp:PIp X op tip)(hs:aH0 X tset)(ha:∀ov iv new,augStore i ov iv new=(do holding [new,ov,iv] (setItem ov iv new);release [new,ov,iv] [];pure .next):=by intros;rfl):PS X (.AugAssign (.Subscript o i tpos) op e pos) (aGc to ti te tget tip tset):=by
 intro pins s σ H D I h;refine wpAny_AugAssign_SubscriptAny (thn (ho pins s σ H _ I h) fun ov s1 ⟨x1,H1,I1,r1,q1⟩=>?_) ha;refine thn (hi pins s1 σ H1 _ I1 q1) fun iv s2 ⟨x2,H2,I2,r2,q2⟩=>?_;refine thn (hg pins s2 σ H2 x1 x2 ov iv _ I2 r1 r2 q2) fun old s3 ⟨x3,H3,I3,r3,q3⟩=>?_;refine thn (he pins s3 σ H3 _ I3 q3) fun v s4 ⟨x4,H4,I4,r4,q4⟩=>?_;refine thn (hp pins s4 σ H4 x3 x4 old v _ I4 r3 r4 q4) fun new s5 ⟨x5,H5,I5,r5,q5⟩=>?_;exact thn (hs pins s5 σ H5 x1 x2 x5 ov iv new _ I5 r1 r2 r5 q5) fun _ s6 ⟨H6,I6,q6⟩=>⟨σ,H6,I6,q6⟩
def ipI(f:Int->Int->Int):TIp:=fun x y H Q=>∃i j,x=.int i/\y=.int j/\Q (.int (f i j)) H
theorem aFf:PIp X .Add (ipI fun i j=>i+j):=by
 intro pins s σ H x y v u Q I r1 r2 h;obtain⟨i,j,e1,e2,q⟩:=h;subst e1;subst e2;obtain⟨t,rfl⟩:=r1;obtain⟨t',rfl⟩:=r2;exact iadd_int ⟨.int _,H,I.tok _,⟨_,rfl⟩,q⟩
end
section
variable{X:Cx}{pos:Pos}
def aEl(c:TT)(tb:TS):TS:=fun D σ H=>∃W:Nat->St->Hp->Prop,(∃m,W m σ H)/\∀m σ H,W m σ H ->c σ H fun b H1=>if b=true then ∃N:St->Hp->Prop,(∀σ' H',N σ' H'->∃m',m'<m/\W m' σ' H')/\tb {D with nx:=N,ct:=N,bk:=D.nx} σ H1 else D.nx σ H1
theorem oO{c:Expr}{body:List Stmt}{tc:TT}{tb:TS}(hp:PassesOwn (model X.prog X.w) X.A X.env X.xe)(hc:PT X c tc)(hb:PSs X body tb):PS X (.While c body [] pos) (aEl tc tb):=by
 intro pins s σ H D I h;obtain⟨W,⟨m0,w0⟩,turn⟩:=h;refine wpAny_While (codeAny_whileLoop (fun n s'=>∃σ' H',Inv X pins σ' H' s'/\W n σ' H') ?_ m0 ⟨σ,H,I,w0⟩);rintro n s1 ⟨σ1,H1,I1,w1⟩;refine wpAny_passesOwn hp (thn (hc pins s1 σ1 H1 _ I1 (turn n σ1 H1 w1)) fun b s2 ⟨H2,I2,q2⟩=>?_);cases b with
 |true=>
   obtain⟨N,hN,q2⟩:=q2;rw[if_pos rfl];refine wpAny_passesOwn hp (thn (hb pins s2 σ1 H2 _ I2 q2) fun f s3 q3=>?_);cases f with
   |next=>
     obtain⟨σ3,H3,I3,n3⟩:=q3;obtain⟨m',hm,w3⟩:=hN σ3 H3 n3;exact⟨m',hm,σ3,H3,I3,w3⟩
   |cont=>
     obtain⟨σ3,H3,I3,n3⟩:=q3;obtain⟨m',hm,w3⟩:=hN σ3 H3 n3;exact⟨m',hm,σ3,H3,I3,w3⟩
   |brk=>exact q3
   |ret v=>exact q3
 |false=>
   rw[if_neg Bool.false_ne_true];exact wpAny_execs_nil ⟨σ1,H2,I2,q2⟩
end
structure It where
 go:Nat->Hp->Prop
 yld:Nat->Hp->V->Hp->Prop
 stop:Nat->Hp->Prop
def mY(X:Cx)(pins:List (Addr×Obj))(H:Hp)(b:Addr):Prop:=H b=none/\b≠X.env.locals/\b∉X.fs/\(b∈X.ex\/X.s₀.heap.objs.size <= b)/\(∀x c,X.env.cells.lookup x=some c->c≠b)/\∀p∈X.pn++pins,p.1≠b
theorem Inv.fpOk{X:Cx}{pins:List (Addr×Obj)}{σ:St}{H H':Hp}{s:Shared}{b:Addr}(I:Inv X pins σ H s)(hb:s.heap.objs.size <= b)(hn:H' b=none):mY X pins H' b:=by
 refine⟨hn,Nat.ne_of_gt (Nat.lt_of_lt_of_le I.lt hb),I.nofs hb,.inr (Nat.le_trans I.sz hb),fun x c e z=>?_,fun p hp z=>?_⟩
 . obtain⟨v,q⟩:=I.cell x c e;exact absurd (Nat.lt_of_lt_of_le q.lt (by rw[z];exact hb)) (Nat.lt_irrefl _)
 . exact absurd (Nat.lt_of_lt_of_le (Heap.lt_size (I.pin p hp).1) (by rw[z];exact hb)) (Nat.lt_irrefl _)
structure aEa (P:Program) (w:World) (K:W.Frag) (tg:Expr) (J:It) (fp:List Addr) (it:Addr) (tn:Nat->Heap->Prop):Prop where
 mem:it∈fp
 obj:∀i h,tn i h->∀b∈fp,∃o,h.get? b=some o/\∀v,o.data≠.cell v
 keep:∀i h h',tn i h->(∀b∈fp,∀o,h.get? b=some o->h'.get? b=some o)->tn i h'
 item:∀(X:Cx),X.prog=P->X.w=w->X.K=K->X.calm=true->∀(i:Nat)(pins:List (Addr×Obj))(s:Shared)(σ:St)(H:Hp)(E:Value->Shared->Prop),Inv X pins σ H s->(∀b∈fp,mY X pins H b)->tn i s.heap->J.go i H ->
   wpAny (model P w) X.A (pyNext (.ref it)) (fun r s1=>∃u,r=some u /\
     wpAny (model P w) X.A (letOwnedTupleGo tg (.ref it) u) (fun _ s2=>∃x H',Inv X pins σ H' s2/\bY x u/\J.yld i H x H'/\tn (i+1) s2.heap/\∀b∈fp,H' b=none) E s1) E s
 done:∀(X:Cx),X.prog=P->X.w=w->X.K=K->X.calm=true->∀(i:Nat)(pins:List (Addr×Obj))(s:Shared)(σ:St)(H:Hp)(E:Value->Shared->Prop),Inv X pins σ H s->(∀b∈fp,mY X pins H b)->tn i s.heap->J.stop i H ->
   wpAny (model P w) X.A (pyNext (.ref it)) (fun r s1=>r=none/\Inv X pins σ H s1) E s
 self:∀(A:Around)(i:Nat)(s:Shared)(Q:Value->Shared->Prop)(E:Value->Shared->Prop),tn i s.heap->Q (.ref it) s->wpAny (model P w) A (pyIter (.ref it)) Q E s
abbrev TI:=St->Hp->(It->Hp->Prop)->Prop
def PIE(X:Cx)(pins:List (Addr×Obj))(σ:St)(tg:Expr)(R:It->Hp->Prop)(itv:Value)(s2:Shared):Prop:=∃(it:Addr)(fp:List Addr)(tn:Nat->Heap->Prop)(J:It)(H':Hp),itv=.ref it/\Inv X pins σ H' s2/\aEa X.prog X.w X.K tg J fp it tn/\tn 0 s2.heap/\(∀b∈fp,mY X pins H' b)/\R J H'
def PI(X:Cx)(tg iter:Expr)(wi:TI):Prop:=
 ∀(pins:List (Addr×Obj))(s:Shared)(σ:St)(H:Hp)(R:It->Hp->Prop),Inv X pins σ H s->wi σ H R ->
   wpAny (model X.prog X.w) X.A (eval iter X.env) (fun v s1=>wpAny (model X.prog X.w) X.A (pyIter v) (PIE X pins σ tg R) X.xe s1) X.xe s
theorem aFg{M:Model}{A:Around}{E:Value->Shared->Prop}{s:Shared}{tg:Expr}{it:Addr}{u:Value}{o:Obj}{n:String}{vs:Array Value}{Q:Unit->Shared->Prop}(ho:s.heap.get? it=some o)(hc:o.cls=.type n)(hd:o.data=.fields vs)(hn:["enumerate","zip","dict_itemiterator","dict_reverseitemiterator","odict_iterator","itertools.zip_longest","itertools.pairwise"].contains n=false)(hQ:Q () s):wpAny M A (letOwnedTupleGo tg (.ref it) u) Q E s:=by
 unfold letOwnedTupleGo
 cases tg <;> first
   |exact wpAny_pure hQ
   | (cases u <;> first
       |exact wpAny_pure hQ
       | (refine wpAny_bind (wpAny_load ho ?_)
          rw[hc,hd];show wpAny M A (if(["enumerate","zip","dict_itemiterator","dict_reverseitemiterator","odict_iterator","itertools.zip_longest","itertools.pairwise"].contains n && vs[0]?==some (rawInt _))=true then _ else _) Q E s;rw[if_neg (by intro h;rw[hn,Bool.false_and] at h;cases h)];exact wpAny_pure hQ))
def Itl(K:W.Frag)(a:Addr):It:=⟨fun i H=>∃xs x,SqL K H a xs/\xs[i]?=some x,fun i H x H'=>H'=H/\∀xs,SqL K H a xs->xs[i]?=some x,fun i H=>∃xs,SqL K H a xs/\xs.length <= i⟩
def Itr(lo:Int)(n:Nat):It:=⟨fun i _=>i<n,fun i H x H'=>H'=H/\x=.int (lo+i),fun i _=>n <= i⟩
theorem wY{P:Program}{w:World}{K:W.Frag}{tg:Expr}(a it:Addr):aEa P w K tg (Itl K a) [it] it (fun i h=>h.IsListIter it a i) where
 mem:=by simp
 obj:=fun i h st b hb=>by
   have e:b=it:=by simpa using hb
   subst e;obtain⟨o,e,c,d⟩:=st;exact⟨o,e,fun v z=>by rw[d] at z;cases z⟩
 keep:=fun i h h' st k=>st.at fun o e=>k it (by simp) o e
 item:=by
   intro X hP hw hK hc i pins s σ H E I hf st hg;subst hP hw hK;obtain⟨xs,x,hq,hx⟩:=hg;obtain⟨its,rv,p,hz⟩:=I.list hq;obtain⟨u,hu,ru⟩:=rv.get hx;obtain⟨f0,f1,f2,f3,f4,f5⟩:=hf it (by simp);refine wpAny_pyNext_list_item st p.isList (x:=u) (by simpa using hu) fun h' st' sb=>?_;have I1:Inv X pins σ H {s with heap:=h'}:=I.turned (t':=s.toks) (fun b o hb e=>(sb.2 b hb).trans e) f0 f1 f3 f4 f5;obtain⟨o,e,c,d⟩:=id st';exact⟨u,rfl,aFg (s:={s with heap:=h'}) e c d (by decide) ⟨x,H,I1,ru,⟨rfl,fun ys hy=>by rw[I.list_inj hy hq];exact hx⟩,st',fun b hb=>(hf b hb).1⟩⟩
 done:=by
   intro X hP hw hK hc i pins s σ H E I hf st hg;subst hP hw hK;obtain⟨xs,hq,hx⟩:=hg;obtain⟨its,rv,p,hz⟩:=I.list hq;obtain⟨f0,f1,f2,f3,f4,f5⟩:=hf it (by simp);have hl:=rv.length;exact wpAny_pyNext_list_end (I.ok.hd hc) st p.isList (by simp;omega) fun h' eb=>⟨rfl,I.turned (t':=s.toks) (fun b o hb e=>eb b o hb e) f0 f1 f3 f4 f5⟩
 self:=fun _ _ _ _ _ st h=>wpAny_pyIter_listiter st h
theorem vN{P:Program}{w:World}{K:W.Frag}{tg:Expr}(it:Addr)(lo:Int)(n:Nat):aEa P w K tg (Itr lo n) [it] it (fun i h=>IsRangeIter h it (lo+(i:Nat)*1) ((n:Int) - (i:Nat)) 1) where
 mem:=by simp
 obj:=fun i h st b hb=>by
   have e:b=it:=by simpa using hb
   subst e;exact⟨_,st,fun v z=>by
     have z':Data.fields _=Data.cell v:=z;cases z'⟩
 keep:=fun i h h' st k=>k it (by simp) _ st
 item:=by
   intro X hP hw hK hc i pins s σ H E I hf st hg;subst hP hw hK;obtain⟨f0,f1,f2,f3,f4,f5⟩:=hf it (by simp);have W:=Walks.range (prog:=X.prog) (w:=X.w) (I.ok.hd hc) it lo 1 n;refine W.item i s _ _ hg st fun v h' tk hv st' kk=>?_;obtain⟨t,rfl⟩:=hv;have I1:Inv X pins σ H {s with heap:=h',toks:=tk}:=I.turned (fun b o hb e=>kk b o (by simpa using hb) e) f0 f1 f3 f4 f5;refine⟨_,rfl,aFg (s:={s with heap:=h',toks:=tk}) (n := "range_iterator") st' rfl rfl (by decide) ⟨.int (lo+i),H,I1,⟨t,?_⟩,⟨rfl,rfl⟩,st',fun b hb=>(hf b hb).1⟩⟩;rw[Int.mul_one]
 done:=by
   intro X hP hw hK hc i pins s σ H E I hf st hg;subst hP hw hK;obtain⟨f0,f1,f2,f3,f4,f5⟩:=hf it (by simp);exact wpAny_pyNext_range_end (I.ok.hd hc) st (by have:n <= i:=hg;omega) fun h' eb=>⟨rfl,I.turned (t':=s.toks) (fun b o hb e=>eb b o hb e) f0 f1 f3 f4 f5⟩
 self:=fun _ _ _ _ _ st h=>wpAny_pyIter_rangeiter st h
section
variable{X:Cx}{tg:Expr}
def aGq(K:W.Frag)(tl:TE):TI:=fun σ H R=>tl σ H fun x H1=>∃a,x=.ref a/\(∃xs,SqL K H1 a xs)/\R (Itl K a) H1
theorem cC{l:Expr}{tl:TE}(hl:PE X l tl):PI X tg l (aGq X.K tl):=by
 intro pins s σ H R I h;refine thn (hl pins s σ H _ I h) fun v s1 ⟨x,H1,I1,r1,q1⟩=>?_;obtain⟨a,e,⟨xs,hq⟩,q⟩:=q1;subst e;cases r1;obtain⟨its,rv,p,hz⟩:=I1.list hq;refine wpAny_pyIter_list p.isList ?_;refine⟨s1.heap.objs.size,[s1.heap.objs.size],_,_,H1,rfl,I1.kept (t':=s1.toks) fun b o e=>Heap.get?_push_of_some _ e,wY a _,⟨_,Heap.get?_push_size _ rfl,rfl,rfl⟩,fun b hb=>?_,q⟩;have e:b=s1.heap.objs.size:=by simpa using hb
 subst e;exact I1.fpOk (Nat.le_refl _) (I1.hok.fresh (Nat.le_refl _))
theorem uO{pins:List (Addr×Obj)}{σ:St}{H:Hp}{s:Shared}{R:It->Hp->Prop}{E:Value->Shared->Prop}{lo hi:Int}{t u v:Tok}{tk:Nat}(I:Inv X pins σ H s)(h1:-(2 ^ 62) <= lo)(h2:lo<2 ^ 62)(h3:-(2 ^ 62) <= hi)(h4:hi<2 ^ 62)(q:R (Itr lo (hi - lo).toNat) H):wpAny (model X.prog X.w) X.A (pyIter (.ref s.heap.objs.size)) (PIE X pins σ tg R) E {s with heap:=s.heap.push {cls:=.type "range", data:=.fields #[.int lo t,.int hi u,.int 1 v]},toks:=tk}:=by
 refine wpAny_pyIter_range (IsRange.new ..) (small_one h1 h2 h3 h4) ?_;have I1:Inv X pins σ H {s with heap:=s.heap.push {cls:=.type "range", data:=.fields #[.int lo t,.int hi u,.int 1 v]},toks:=tk}:=I.kept fun b o e=>Heap.get?_push_of_some _ e;refine⟨(s.heap.push {cls:=.type "range", data:=.fields #[.int lo t,.int hi u,.int 1 v]}).objs.size,[(s.heap.push {cls:=.type "range", data:=.fields #[.int lo t,.int hi u,.int 1 v]}).objs.size],_,_,H,rfl,I1.kept (t':=tk) fun b o e=>Heap.get?_push_of_some _ e,vN _ lo (hi - lo).toNat,?_,fun b hb=>?_,q⟩
 . have e1:lo+((0:Nat):Int)*1=lo:=by simp
   have e2:(((hi - lo).toNat:Nat):Int) - ((0:Nat):Int)=Builtin.Range.rangeSize lo hi 1:=by rw[rangeSize_one];split <;> omega
   show IsRangeIter _ _ (lo+((0:Nat):Int)*1) ((((hi - lo).toNat:Nat):Int) - ((0:Nat):Int)) 1;rw[e1,e2];exact Heap.get?_push_size _ rfl
 . have e:b=(s.heap.push {cls:=.type "range", data:=.fields #[.int lo t,.int hi u,.int 1 v]}).objs.size:=by simpa using hb
   subst e;exact I1.fpOk (Nat.le_refl _) (I1.hok.fresh (Nat.le_refl _))
def aGp(ta:TA):TI:=fun σ H R=>ta σ H fun vs H1=>∃j:Int,vs=[.int j]/\-(2 ^ 62) <= j/\j<2 ^ 62/\R (Itr 0 j.toNat) H1
def aGo(ta:TA):TI:=fun σ H R=>ta σ H fun vs H1=>∃i j:Int,vs=[.int i,.int j]/\(-(2 ^ 62) <= i/\i<2 ^ 62/\-(2 ^ 62) <= j/\j<2 ^ 62)/\R (Itr i (j - i).toNat) H1
theorem dE{a:Expr}{ta:TA}{p pos:Pos}(hg:Gl X "range")(hm:X.mg "range"=none)(ha:PA X [a] ta)(hs:starEach [a] X.env=[(false,eval a X.env)]:=by rfl):PI X tg (.Call (.Name "range" p) [a] [] pos) (aGp ta):=by
 intro pins s σ H R I h;refine Call_ (fT I hg hm boot_range (PyProof.Rows.callWith_type1 (thn (ha pos pins s σ H _ I h) fun us s1 ⟨vs,H1,I1,r1,q1⟩=>?_) hs rfl));obtain⟨j,e,q1,q2,q⟩:=q1;subst e;cases r1 with
 |cons r rr=>
   cases rr;obtain⟨t,rfl⟩:=r;exact call_range_1 (uO I1 (by omega) (by omega) q1 q2 (by simpa using q))
theorem yH{a b:Expr}{ta:TA}{p pos:Pos}(hg:Gl X "range")(hm:X.mg "range"=none)(ha:PA X [a,b] ta)(hs:starEach [a,b] X.env=[(false,eval a X.env),(false,eval b X.env)]:=by rfl)(hs2:starEach [b] X.env=[(false,eval b X.env)]:=by rfl): PI X tg (.Call (.Name "range" p) [a,b] [] pos) (aGo ta):=by
 intro pins s σ H R I h;refine Call_ (fT I hg hm boot_range (PyProof.Rows.callWith_type1 (thn (ha pos pins s σ H _ I h) fun us s1 ⟨vs,H1,I1,r1,q1⟩=>?_) (by rw[hs,hs2]) (by rw[hs2];rfl)));obtain⟨i,j,e,⟨q1,q2,q3,q4⟩,q⟩:=q1;subst e;cases r1 with
 |cons r rr=>
   cases rr with
   |cons r' rr=>
     cases rr;obtain⟨t,rfl⟩:=r;obtain⟨t',rfl⟩:=r';exact call_range_2 (uO I1 q1 q2 q3 q4 q)
def aHq(wi:TI)(g:TG)(tb:TS):TS:=fun D σ H=>wi σ H fun J H1=>∃W:Nat->Nat->St->Hp->Prop,(∃m,W 0 m σ H1)/\∀i m σ H,W i m σ H ->(J.stop i H/\D.nx σ H)\/(J.go i H/\∃N:St->Hp->Prop,(∀σ' H',N σ' H'->∃m',m'<m/\W (i+1) m' σ' H')/\∀x H',J.yld i H x H'->g x σ H' fun σ2 H2=>tb {D with nx:=N,ct:=N,bk:=D.nx} σ2 H2)
def qM(fp:List Addr)(h:Heap):List (Addr×Obj):=fp.filterMap fun b=>(h.get? b).map fun o=>(b,o)
theorem iG{fp:List Addr}{h:Heap}{b:Addr}{o:Obj}(hb:b∈fp)(e:h.get? b=some o):(b,o)∈qM fp h:=List.mem_filterMap.mpr ⟨b,hb,by rw[e];rfl⟩
theorem yQ{fp:List Addr}{h:Heap}{p:Addr×Obj}(hp:p∈qM fp h):p.1∈fp/\h.get? p.1=some p.2:=by
 obtain⟨b,hb,e⟩:=List.mem_filterMap.mp hp;cases q:h.get? b with
 |none=>rw[q] at e;cases e
 |some o=>
   rw[q] at e;have e':(b,o)=p:=Option.some.inj e;subst e';exact⟨hb,q⟩
theorem Inv.pinned{pins:List (Addr×Obj)}{σ:St}{H:Hp}{s:Shared}{fp:List Addr}(I:Inv X pins σ H s)(hf:∀b∈fp,mY X pins H b)(ho:∀b∈fp,∃o,s.heap.get? b=some o/\∀v,o.data≠.cell v):Inv X (pins++qM fp s.heap) σ H s:=I.pins_of fun p hp=>(List.mem_append.mp hp).elim (fun z=>I.pin p (List.mem_append_right _ z)) fun z=>by
   obtain⟨hb,e⟩:=yQ z;obtain⟨f0,f1,f2,_⟩:=hf p.1 hb;obtain⟨o,e',d⟩:=ho p.1 hb;rw[e] at e';cases e';exact⟨e,f0,f1,f2,d⟩
theorem Inv.unpinned{pins pl:List (Addr×Obj)}{σ:St}{H:Hp}{s:Shared}(I:Inv X (pins++pl) σ H s):Inv X pins σ H s:=I.pins_of fun p hp=>I.pin p (List.mem_append_right _ (List.mem_append_left _ hp))
theorem dM{iter:Expr}{body:List Stmt}{wi:TI}{g:TG}{tb:TS}{pos:Pos}(hp:PassesOwn (model X.prog X.w) X.A X.env X.xe)(hc:X.calm=true)(hi:PI X tg iter wi)(hg:PG X tg g)(hb:PSs X body tb)(hs:∀x,foldedSetIterable iter X.env x=pure x:=by intro _;rfl):PS X (.For tg iter body [] pos) (aHq wi g tb):=by
 intro pins s σ H D I h;refine wpAny_For (thn (hi pins s σ H _ I h) fun v s1 h1=>thn h1 fun itv s2 h2=>?_) hs;obtain⟨it,fp,tn,J,H2,e,I2,T,st2,f2,W,⟨m0,w0⟩,turn⟩:=h2;subst e;have stat:∀{H':Hp},(∀b∈fp,H' b=none)->∀b∈fp,mY X pins H' b:=fun hn b hb=>⟨hn b hb,(f2 b hb).2⟩;refine codeAny_forLoop_any (fun n s'=>∃i σ' H',Inv X pins σ' H' s'/\tn i s'.heap/\(∀b∈fp,H' b=none)/\W i n σ' H') ?_ m0 ⟨0,σ,H2,I2,st2,fun b hb=>(f2 b hb).1,w0⟩;rintro n s3 ⟨i,σ3,H3,I3,st3,fr3,w3⟩;rcases turn i n σ3 H3 w3 with⟨stop,qn⟩|⟨go,N,hN,step⟩
 . refine wpAny_passesOwn hp (thn (T.done X rfl rfl rfl hc i pins s3 σ3 H3 X.xe I3 (stat fr3) st3 stop) fun r s4 ⟨hr,I4⟩=>?_);subst hr;exact wpAny_execs_nil ⟨σ3,H3,I4,qn⟩
 . refine wpAny_passesOwn hp (thn (T.item X rfl rfl rfl hc i pins s3 σ3 H3 X.xe I3 (stat fr3) st3 go) fun r s4 ⟨u,hr,h4⟩=>?_);subst hr;refine wpAny_passesOwn hp (thn h4 fun _ s5 ⟨x,H5,I5,r5,y5,st5,fr5⟩=>?_);have I5':=I5.pinned (stat fr5) (T.obj _ _ st5);refine wpAny_passesOwn hp (thn (hg _ s5 σ3 H5 x u _ I5' r5 (step x H5 y5)) fun _ s6 ⟨σ6,H6,I6,q6⟩=>?_);refine wpAny_passesOwn hp (thn (hb _ s6 σ6 H6 _ I6 q6) fun f s7 q7=>?_);have again:∀{σ7:St}{H7:Hp},Inv X (pins++qM fp s5.heap) σ7 H7 s7->N σ7 H7->∃m,m<n/\∃i σ' H',Inv X pins σ' H' s7/\tn i s7.heap/\(∀b∈fp,H' b=none)/\W i m σ' H':=fun {σ7 H7} I7 n7=>by
     obtain⟨m',hm,w7⟩:=hN σ7 H7 n7;refine⟨m',hm,i+1,σ7,H7,I7.unpinned,T.keep _ _ _ st5 fun b hb o e=>(I7.pin (b,o) (List.mem_append_right _ (List.mem_append_right _ (iG hb e)))).1,fun b hb=>?_,w7⟩;obtain⟨o,e,d⟩:=T.obj _ _ st5 b hb;exact(I7.pin (b,o) (List.mem_append_right _ (List.mem_append_right _ (iG hb e)))).2.1
   cases f with
   |next=>obtain⟨σ7,H7,I7,n7⟩:=q7;exact again I7 n7
   |cont=>obtain⟨σ7,H7,I7,n7⟩:=q7;exact again I7 n7
   |brk=>obtain⟨σ7,H7,I7,q7⟩:=q7;exact⟨σ7,H7,I7.unpinned,q7⟩
   |ret v=>obtain⟨x7,σ7,H7,I7,r7,q7⟩:=q7;exact⟨x7,σ7,H7,I7.unpinned,r7,q7⟩
end
theorem fA{K:W.Frag}{a:Addr}{xs:List V}{g:TG}{tb:TS}{D:wU}{σ:St}{H:Hp}(Pv:Nat->St->Hp->Prop)(h0:Pv 0 σ H)(hl:∀i σ H,i <= xs.length->Pv i σ H->SqL K H a xs)(hs:∀i x σ H,xs[i]?=some x->Pv i σ H->g x σ H fun σ2 H2=>tb {D with nx:=Pv (i+1),ct:=Pv (i+1),bk:=D.nx} σ2 H2)(hd:∀σ H,Pv xs.length σ H->D.nx σ H):
   ∃W:Nat->Nat->St->Hp->Prop,(∃m,W 0 m σ H)/\∀i m σ H,W i m σ H ->
     ((Itl K a).stop i H/\D.nx σ H)\/((Itl K a).go i H/\∃N:St->Hp->Prop,(∀σ' H',N σ' H'->∃m',m'<m/\W (i+1) m' σ' H')/\∀x H',(Itl K a).yld i H x H'->g x σ H' fun σ2 H2=>tb {D with nx:=N,ct:=N,bk:=D.nx} σ2 H2):=by
 refine⟨fun i m σ H=>m=xs.length - i/\i <= xs.length/\Pv i σ H,⟨xs.length,by simp,Nat.zero_le _,h0⟩,?_⟩;rintro i m σ H ⟨rfl,hi,p⟩;have q:=hl i σ H hi p;by_cases hlt:i<xs.length
 . refine .inr ⟨⟨xs,xs[i],q,by simp[hlt]⟩,Pv (i+1),fun σ' H' p'=>⟨xs.length - (i+1),by omega,rfl,hlt,p'⟩,fun x H' y=>?_⟩;obtain⟨e,y⟩:=y;subst e;exact hs i x σ _ (y xs q) p
 . have e:i=xs.length:=by omega
   subst e;exact .inl ⟨⟨xs,q,Nat.le_refl _⟩,hd σ H p⟩
theorem dF{lo:Int}{n:Nat}{g:TG}{tb:TS}{D:wU}{σ:St}{H:Hp}(Pv:Nat->St->Hp->Prop)(h0:Pv 0 σ H)(hs:∀i σ H,i<n->Pv i σ H->g (.int (lo+i)) σ H fun σ2 H2=>tb {D with nx:=Pv (i+1),ct:=Pv (i+1),bk:=D.nx} σ2 H2)(hd:∀σ H,Pv n σ H->D.nx σ H):
   ∃W:Nat->Nat->St->Hp->Prop,(∃m,W 0 m σ H)/\∀i m σ H,W i m σ H ->
     ((Itr lo n).stop i H/\D.nx σ H)\/((Itr lo n).go i H/\∃N:St->Hp->Prop,(∀σ' H',N σ' H'->∃m',m'<m/\W (i+1) m' σ' H')/\∀x H',(Itr lo n).yld i H x H'->g x σ H' fun σ2 H2=>tb {D with nx:=N,ct:=N,bk:=D.nx} σ2 H2):=by
 refine⟨fun i m σ H=>m=n - i/\i <= n/\Pv i σ H,⟨n,by simp,Nat.zero_le _,h0⟩,?_⟩;rintro i m σ H ⟨rfl,hi,p⟩;by_cases hlt:i<n
 . refine .inr ⟨hlt,Pv (i+1),fun σ' H' p'=>⟨n - (i+1),by omega,rfl,hlt,p'⟩,fun x H' y=>?_⟩;obtain⟨e,y⟩:=y;subst e y;exact hs i σ _ hlt p
 . have e:i=n:=by omega
   subst e;exact .inl ⟨Nat.le_refl _,hd σ H p⟩
abbrev R2:=V->V->Hp->VK->Prop
def OpR(X:Cx)(f:Value->Value->Sem Value)(r:R2):Prop:=
 ∀(pins:List (Addr×Obj))(s:Shared)(σ:St)(H:Hp)(x y:V)(v u:Value)(Q:VK),Inv X pins σ H s->bY x v->bY y u->r x y H Q ->
   wpAny (model X.prog X.w) X.A (f v u) (EP X pins σ Q) X.xe s
def UnR(X:Cx)(f:Value->Sem Value)(r:V->Hp->VK->Prop):Prop:=
 ∀(pins:List (Addr×Obj))(s:Shared)(σ:St)(H:Hp)(x:V)(v:Value)(Q:VK),Inv X pins σ H s->bY x v->r x H Q ->
   wpAny (model X.prog X.w) X.A (f v) (EP X pins σ Q) X.xe s
def iA(X:Cx)(f:Value)(r:List V->Hp->VK->Prop):Prop:=
 ∀(pins:List (Addr×Obj))(s:Shared)(σ:St)(H:Hp)(xs:List V)(us:List Value)(Q:VK),Inv X pins σ H s->bO xs us->r xs H Q ->
   wpAny (model X.prog X.w) X.A (call f us) (EP X pins σ Q) X.xe s
def tOp(r:R2)(ta tb:TE):TE:=fun σ H Q=>ta σ H fun x H1=>tb σ H1 fun y H2=>r x y H2 Q
def tUn(r:V->Hp->VK->Prop)(ta:TE):TE:=fun σ H Q=>ta σ H fun x H1=>r x H1 Q
def rI(C:Int->Int->Prop)(g:Int->Int->V):R2:=fun x y H Q=>∃i j,x=.int i/\y=.int j/\C i j/\Q (g i j) H
def rI0(g:Int->Int->V):R2:=fun x y H Q=>∃i j,x=.int i/\y=.int j/\Q (g i j) H
def rU(g:Int->V):V->Hp->VK->Prop:=fun x H Q=>∃i,x=.int i/\Q (g i) H
section
variable{X:Cx}{a b c:Expr}{ta tb tc:TE}{pos:Pos}
theorem aGw(ha:PE X a ta)(hb:PE X b tb){pins:List (Addr×Obj)}{s:Shared}{σ:St}{H:Hp}{R:V->V->Hp->Prop}(I:Inv X pins σ H s)(h:ta σ H fun x H1=>tb σ H1 fun y H2=>R x y H2){Q:Value->Shared->Prop}{f:Value->Value->Sem Value}(hf:∀v u s2 x y H2,Inv X pins σ H2 s2->bY x v->bY y u->R x y H2->wpAny (model X.prog X.w) X.A (f v u) Q X.xe s2): wpAny (model X.prog X.w) X.A (eval a X.env) (fun v s₁=>wpAny (model X.prog X.w) X.A (eval b X.env) (fun u s₂=>wpAny (model X.prog X.w) X.A (f v u) Q X.xe s₂) X.xe s₁) X.xe s:=by
 refine thn (ha pins s σ H _ I h) fun v s1 ⟨x,H1,I1,r1,q1⟩=>?_;refine thn (hb pins s1 σ H1 _ I1 q1) fun u s2 ⟨y,H2,I2,r2,q2⟩=>?_;exact hf v u s2 x y H2 I2 r1 r2 q2
theorem bF{op:Operator}{r:R2}(ho:OpR X (binaryOp op) r)(ha:PE X a ta)(hb:PE X b tb):PE X (.BinOp a op b pos) (tOp r ta tb):=by
 intro pins s σ H Q I h;exact wpAny_BinOp (aGw ha hb I h fun v u s2 x y H2 I2 rx ry q=>ho pins s2 σ H2 x y v u Q I2 rx ry q)
theorem vT{op:UnaryOp}{r:V->Hp->VK->Prop}(ho:UnR X (unaryOp op) r)(ha:PE X a ta):PE X (.UnaryOp op a pos) (tUn r ta):=by
 intro pins s σ H Q I h;exact UnaryOp_ (thn (ha pins s σ H _ I h) fun v s1 ⟨x,H1,I1,r1,q1⟩=>ho pins s1 σ H1 x v Q I1 r1 q1)
theorem opI{f:Value->Value->Sem Value}{C:Int->Int->Prop}{g:Int->Int->Int}(rule:∀(i j:Int)(t u:Tok)(s:Shared)(Q:Value->Shared->Prop)(E:Value->Shared->Prop),C i j->Q (.int (g i j) s.toks) {s with toks:=s.toks+1}->wpAny (model X.prog X.w) X.A (f (.int i t) (.int j u)) Q E s): OpR X f (rI C fun i j=>.int (g i j)):=by
 intro pins s σ H x y v u Q I rx ry h;obtain⟨i,j,rfl,rfl,hc,q⟩:=h;obtain⟨t,rfl⟩:=rx;obtain⟨t',rfl⟩:=ry;exact rule i j t t' s _ _ hc ⟨.int (g i j),H,I.tok _,⟨_,rfl⟩,q⟩
theorem aHb{f:Value->Value->Sem Value}{g:Int->Int->Int}(rule:∀(i j:Int)(t u:Tok)(s:Shared)(Q:Value->Shared->Prop)(E:Value->Shared->Prop),Q (.int (g i j) s.toks) {s with toks:=s.toks+1}->wpAny (model X.prog X.w) X.A (f (.int i t) (.int j u)) Q E s): OpR X f (rI0 fun i j=>.int (g i j)):=by
 intro pins s σ H x y v u Q I rx ry h;obtain⟨i,j,rfl,rfl,q⟩:=h;obtain⟨t,rfl⟩:=rx;obtain⟨t',rfl⟩:=ry;exact rule i j t t' s _ _ ⟨.int (g i j),H,I.tok _,⟨_,rfl⟩,q⟩
theorem aFy{f:Value->Value->Sem Value}{g:Int->Int->Bool}(rule:∀(i j:Int)(t u:Tok)(s:Shared)(Q:Value->Shared->Prop)(E:Value->Shared->Prop),Q (.bool (g i j)) s->wpAny (model X.prog X.w) X.A (f (.int i t) (.int j u)) Q E s): OpR X f (rI0 fun i j=>.bl (g i j)):=by
 intro pins s σ H x y v u Q I rx ry h;obtain⟨i,j,rfl,rfl,q⟩:=h;obtain⟨t,rfl⟩:=rx;obtain⟨t',rfl⟩:=ry;exact rule i j t t' s _ _ ⟨.bl (g i j),H,I,rfl,q⟩
def aIe(i j:Int):Prop:=0<j/\j<1073741824
def aId(i j:Int):Prop:=0 <= j/\j <= 1000000/\i.natAbs<2 ^ 64
def aH3(i j:Int):Prop:=(-(2 ^ 64)<i/\i<2 ^ 64)\/(-(2 ^ 64)<j/\j<2 ^ 64)
theorem aH3.ok{i j:Int}(h:aH3 i j):IntMulOk i j:=by
 rcases h with⟨h1,h2⟩|⟨h1,h2⟩
 . exact .of_left (intBits_le_64 h1 h2)
 . exact .of_right (intBits_le_64 h1 h2)
theorem eN:OpR X (binaryOp .Add) (rI0 fun i j=>.int (i+j)):=aHb fun _ _ _ _ _ _ _ q=>add_int q
theorem iL:OpR X (binaryOp .Sub) (rI0 fun i j=>.int (i - j)):=aHb fun _ _ _ _ _ _ _ q=>sub_int q
theorem uT:OpR X (binaryOp .Mult) (rI aH3 fun i j=>.int (i*j)):=opI fun _ _ _ _ _ _ _ hc q=>mul_int q hc.ok
theorem iR:OpR X (binaryOp .FloorDiv) (rI aIe fun i j=>.int (i / j)):=opI fun i j _ _ _ _ _ hc q=>by
 have h1:(0:Int)<j:=hc.1;have h2:j<1073741824:=hc.2;exact floordiv_int (by omega) (by rw[Int.fdiv_eq_ediv_of_nonneg i (by omega)];exact q) (.inl (PyProof.noPylong_small (by omega)))
theorem dX:OpR X (binaryOp .Mod) (rI (fun _ j=>0<j) fun i j=>.int (i % j)):=opI fun i j _ _ _ _ _ hc q=>by
 have h1:(0:Int)<j:=hc;exact mod_int' (by omega) (by rw[Int.fmod_eq_emod_of_nonneg i (by omega)];exact q)
theorem aCf:OpR X (binaryOp .Pow) (rI aId fun i j=>.int (i ^ j.toNat)):=opI fun _ _ _ _ _ _ _ hc q=>pow_int_small hc.1 hc.2.1 hc.2.2 q
theorem unI{f:Value->Sem Value}{g:Int->Int}(rule:∀(i:Int)(t:Tok)(s:Shared)(Q:Value->Shared->Prop)(E:Value->Shared->Prop),Q (.int (g i) s.toks) {s with toks:=s.toks+1}->wpAny (model X.prog X.w) X.A (f (.int i t)) Q E s): UnR X f (rU fun i=>.int (g i)):=by
 intro pins s σ H x v Q I rx h;obtain⟨i,rfl,q⟩:=h;obtain⟨t,rfl⟩:=rx;exact rule i t s _ _ ⟨.int (g i),H,I.tok _,⟨_,rfl⟩,q⟩
theorem nA:UnR X (unaryOp .USub) (rU fun i=>.int (-i)):=unI fun _ _ _ _ _ q=>neg_int q
end
def aH9:V->V->Bool
 |.non,.non=>true|.non,.int _=>true|.int _,.non=>true|.non,.bl _=>true|.bl _,.non=>true|.non,.str _=>true|.str _,.non=>true
 |.int _,.int _=>true|.bl _,.bl _=>true|.str _,.str _=>true|.byt _,.byt _=>true
 |.int _,.str _=>true|.str _,.int _=>true|.bl _,.str _=>true|.str _,.bl _=>true
 |_,_=>false
def rEq:R2:=fun x y H Q=>aH9 x y=true/\Q (.bl (decide (x=y))) H
def rNe:R2:=fun x y H Q=>aH9 x y=true/\Q (.bl (!decide (x=y))) H
theorem aA1{i j:Int}:decide (V.int i=V.int j)=(i==j):=by
 rw[Bool.eq_iff_iff];simp
theorem aCm{i j:Bool}:decide (V.bl i=V.bl j)=(i==j):=by
 rw[Bool.eq_iff_iff];simp
theorem aA0{i j:Str}:decide (V.str i=V.str j)=(i==j):=by
 rw[Bool.eq_iff_iff];simp
theorem aA2{i j:Array UInt8}:decide (V.byt i=V.byt j)=(i.toList==j.toList):=by
 rw[Bool.eq_iff_iff];cases i;cases j;simp
section
variable{X:Cx}{a b c:Expr}{ta tb tc:TE}{pos:Pos}
theorem bQ{pins:List (Addr×Obj)}{σ:St}{H:Hp}{s:Shared}{Q:VK}{k k':Bool}(I:Inv X pins σ H s)(q:Q (.bl k) H)(e:k=k'):EP X pins σ Q (.bool k') s:=by
 subst e;exact⟨.bl k,H,I,rfl,q⟩
theorem fL:OpR X (compareOp .Eq) rEq:=by
 intro pins s σ H x y v u Q I rx ry h;obtain⟨hs,q⟩:=h;cases x with
 |non=>
   cases rx;cases y with
   |non=>cases ry;exact PySem.EqNone.eq_none_none (bQ I q (by simp))
   |bl j=>cases ry;exact PySem.EqNone.eq_none_bool (bQ I q (by simp))
   |int j=>obtain⟨t',rfl⟩:=ry;exact PySem.EqNone.eq_none_int (bQ I q (by simp))
   |str j=>obtain⟨t',rfl⟩:=ry;exact PySem.EqNone.eq_none_str (bQ I q (by simp))
   |_=>exact absurd (show false=true from hs) Bool.false_ne_true
 |bl i=>
   cases rx;cases y with
   |non=>cases ry;exact PySem.EqNone.eq_bool_none (bQ I q (by simp))
   |bl j=>cases ry;exact eq_bool (bQ I q aCm)
   |str j=>obtain⟨t',rfl⟩:=ry;exact PySem.EqMixed.eq_bool_str (bQ I q (by simp))
   |_=>exact absurd (show false=true from hs) Bool.false_ne_true
 |int i=>
   obtain⟨t,rfl⟩:=rx;cases y with
   |non=>cases ry;exact PySem.EqNone.eq_int_none (bQ I q (by simp))
   |int j=>obtain⟨t',rfl⟩:=ry;exact eq_int (bQ I q aA1)
   |str j=>obtain⟨t',rfl⟩:=ry;exact PySem.EqMixed.eq_int_str (bQ I q (by simp))
   |_=>exact absurd (show false=true from hs) Bool.false_ne_true
 |str i=>
   obtain⟨t,rfl⟩:=rx;cases y with
   |non=>cases ry;exact PySem.EqNone.eq_str_none (bQ I q (by simp))
   |bl j=>cases ry;exact PySem.EqMixed.eq_str_bool (bQ I q (by simp))
   |int j=>obtain⟨t',rfl⟩:=ry;exact PySem.EqMixed.eq_str_int (bQ I q (by simp))
   |str j=>obtain⟨t',rfl⟩:=ry;exact eq_str (bQ I q aA0)
   |_=>exact absurd (show false=true from hs) Bool.false_ne_true
 |byt i=>
   obtain⟨t,rfl⟩:=rx;cases y with
   |byt j=>obtain⟨t',rfl⟩:=ry;exact W.eq_bytes (bQ I q aA2)
   |_=>exact absurd (show false=true from hs) Bool.false_ne_true
 |_=>cases y <;> exact absurd (show false=true from hs) Bool.false_ne_true
theorem gZ:OpR X (compareOp .NotEq) rNe:=by
 intro pins s σ H x y v u Q I rx ry h;obtain⟨hs,q⟩:=h;cases x with
 |non=>
   cases rx;cases y with
   |non=>cases ry;exact PySem.EqNone.ne_none_none (bQ I q (by simp))
   |bl j=>cases ry;exact PySem.EqNone.ne_none_bool (bQ I q (by simp))
   |int j=>obtain⟨t',rfl⟩:=ry;exact PySem.EqNone.ne_none_int (bQ I q (by simp))
   |str j=>obtain⟨t',rfl⟩:=ry;exact PySem.EqNone.ne_none_str (bQ I q (by simp))
   |_=>exact absurd (show false=true from hs) Bool.false_ne_true
 |bl i=>
   cases rx;cases y with
   |non=>cases ry;exact PySem.EqNone.ne_bool_none (bQ I q (by simp))
   |bl j=>cases ry;exact ne_bool (bQ I q (congrArg not aCm))
   |str j=>obtain⟨t',rfl⟩:=ry;exact PySem.EqMixed.ne_bool_str (bQ I q (by simp))
   |_=>exact absurd (show false=true from hs) Bool.false_ne_true
 |int i=>
   obtain⟨t,rfl⟩:=rx;cases y with
   |non=>cases ry;exact PySem.EqNone.ne_int_none (bQ I q (by simp))
   |int j=>obtain⟨t',rfl⟩:=ry;exact ne_int (bQ I q (congrArg not aA1))
   |str j=>obtain⟨t',rfl⟩:=ry;exact PySem.EqMixed.ne_int_str (bQ I q (by simp))
   |_=>exact absurd (show false=true from hs) Bool.false_ne_true
 |str i=>
   obtain⟨t,rfl⟩:=rx;cases y with
   |non=>cases ry;exact PySem.EqNone.ne_str_none (bQ I q (by simp))
   |bl j=>cases ry;exact PySem.EqMixed.ne_str_bool (bQ I q (by simp))
   |int j=>obtain⟨t',rfl⟩:=ry;exact PySem.EqMixed.ne_str_int (bQ I q (by simp))
   |str j=>obtain⟨t',rfl⟩:=ry;exact ne_str (bQ I q (congrArg not aA0))
   |_=>exact absurd (show false=true from hs) Bool.false_ne_true
 |byt i=>
   obtain⟨t,rfl⟩:=rx;cases y with
   |byt j=>obtain⟨t',rfl⟩:=ry;exact W.ne_bytes (bQ I q (congrArg not aA2))
   |_=>exact absurd (show false=true from hs) Bool.false_ne_true
 |_=>cases y <;> exact absurd (show false=true from hs) Bool.false_ne_true
theorem mT:OpR X (compareOp .Lt) (rI0 fun i j=>.bl (decide (i<j))):=aFy fun _ _ _ _ _ _ _ q=>lt_int q
theorem aDi:OpR X (compareOp .LtE) (rI0 fun i j=>.bl (decide (i <= j))):=aFy fun _ _ _ _ _ _ _ q=>le_int q
theorem yL:OpR X (compareOp .Gt) (rI0 fun i j=>.bl (decide (j<i))):=aFy fun _ _ _ _ _ _ _ q=>gt_int q
theorem aB4:OpR X (compareOp .GtE) (rI0 fun i j=>.bl (decide (j <= i))):=aFy fun _ _ _ _ _ _ _ q=>ge_int q
theorem nH:OpR X (compareOp .Is) (fun x y H Q=>y=.non/\Q (.bl (decide (x=.non))) H):=by
 intro pins s σ H x y v u Q I rx ry h;obtain⟨rfl,q⟩:=h;cases ry;refine is_none_gen (bQ I q ?_)
 cases x <;> first
   |(cases rx;rfl)
   |(obtain⟨t,rfl⟩:=rx;rfl)
theorem eA:OpR X (compareOp .IsNot) (fun x y H Q=>y=.non/\Q (.bl (!decide (x=.non))) H):=by
 intro pins s σ H x y v u Q I rx ry h;obtain⟨rfl,q⟩:=h;cases ry;refine isnot_none_gen (bQ I q ?_)
 cases x <;> first
   |(cases rx;rfl)
   |(obtain⟨t,rfl⟩:=rx;rfl)
theorem OpR.or{f:Value->Value->Sem Value}{r r':R2}(h:OpR X f r)(h':OpR X f r'):OpR X f (fun x y H Q=>r x y H Q\/r' x y H Q):=by
 intro pins s σ H x y v u Q I rx ry q;rcases q with q|q
 . exact h pins s σ H x y v u Q I rx ry q
 . exact h' pins s σ H x y v u Q I rx ry q
theorem aU(b:Expr){op:CmpOp}(h:op≠.In:=by decide)(h2:op≠.NotIn:=by decide):behindInMarks op b=false:=by
 have e1:(op==CmpOp.In)=false:=by cases op <;> first|rfl|exact absurd rfl h
 have e2:(op==CmpOp.NotIn)=false:=by cases op <;> first|rfl|exact absurd rfl h2
 cases b <;> simp[behindInMarks,e1,e2]
theorem gW{op:CmpOp}{r:R2}(ho:OpR X (compareOp op) r)(ha:PE X a ta)(hb:PE X b tb)(hm:behindInMarks op b=false):PE X (.Compare a [op] [b] pos) (tOp r ta tb):=by
 intro pins s σ H Q I h;exact wpAny_Compare1 (aGw ha hb I h fun v u s2 x y H2 I2 rx ry q=>ho pins s2 σ H2 x y v u Q I2 rx ry q) hm
def aAr(t:TE):TT:=fun σ H Q=>t σ H fun x H'=>∃k,x=.bl k/\Q k H'
theorem aP{op:CmpOp}{r:R2}(ho:OpR X (compareOp op) r)(ha:PE X a ta)(hb:PE X b tb)(hm:behindInMarks op b=false):PT X (.Compare a [op] [b] pos) (aAr (tOp r ta tb)):=by
 intro pins s σ H Q I h;refine wpAny_isTrue_Compare1 (thn (ha pins s σ H _ I h) fun v s1 ⟨x,H1,I1,r1,q1⟩=>thn (hb pins s1 σ H1 _ I1 q1) fun u s2 ⟨y,H2,I2,r2,q2⟩=>
   thn (ho pins s2 σ H2 x y v u _ I2 r1 r2 q2) fun c s3 ⟨z,H3,I3,r3,k,e,q3⟩=>?_) hm
 subst e;cases r3;exact wpAny_truthy_bool ⟨H3,I3,q3⟩
def aC5(r r':R2)(ta tb tc:TE):TE:=fun σ H Q=>ta σ H fun x H1=>tb σ H1 fun y H2=>r x y H2 fun z H3=>∃k,z=.bl k /\ (if k=true then tc σ H3 fun w' H4=>r' y w' H4 Q else Q (.bl false) H3)
theorem aB1{op op':CmpOp}{r r':R2}(ho:OpR X (compareOp op) r)(ho':OpR X (compareOp op') r')(ha:PE X a ta)(hb:PE X b tb)(hc:PE X c tc)(hm:lastMarks [op,op'] [b,c]=false:=by with_unfolding_all rfl):PE X (.Compare a [op,op'] [b,c] pos) (aC5 r r' ta tb tc):=by
 intro pins s σ H Q I h;refine Compare_chain (thn (ha pins s σ H _ I h) fun v s1 ⟨x,H1,I1,r1,q1⟩=>chain_link (thn (hb pins s1 σ H1 _ I1 q1) fun u s2 ⟨y,H2,I2,r2,q2⟩=>
   thn (ho pins s2 σ H2 x y v u _ I2 r1 r2 q2) fun d s3 ⟨z,H3,I3,r3,k,e,q3⟩=>?_)) hm
 subst e;cases r3;refine wpAny_truthy_bool ?_;cases k with
 |false=>exact ite_ff ⟨.bl false,H3,I3,rfl,q3⟩
 |true=>exact ite_tt (chain_last (thn (hc pins s3 σ H3 _ I3 q3) fun w' s4 ⟨z',H4,I4,r4,q4⟩=>ho' pins s4 σ H4 y z' u w' Q I4 r2 r4 q4))
theorem aAy{op op':CmpOp}{r r':R2}(ho:OpR X (compareOp op) r)(ho':OpR X (compareOp op') r')(ha:PE X a ta)(hb:PE X b tb)(hc:PE X c tc)(hm:lastMarks [op,op'] [b,c]=false:=by with_unfolding_all rfl):PT X (.Compare a [op,op'] [b,c] pos) (aAr (aC5 r r' ta tb tc)):=by
 intro pins s σ H Q I h;refine isTrue_chain (thn (ha pins s σ H _ I h) fun v s1 ⟨x,H1,I1,r1,q1⟩=>test_link (thn (hb pins s1 σ H1 _ I1 q1) fun u s2 ⟨y,H2,I2,r2,q2⟩=>
   thn (ho pins s2 σ H2 x y v u _ I2 r1 r2 q2) fun d s3 ⟨z,H3,I3,r3,k,e,q3⟩=>?_)) hm
 subst e;cases r3;refine wpAny_truthy_bool ?_;cases k with
 |false=>
   obtain⟨k',e',q'⟩:=q3;cases e';exact ite_ff ⟨H3,I3,q'⟩
 |true=>
   refine ite_tt (test_last (thn (hc pins s3 σ H3 _ I3 q3) fun w' s4 ⟨z',H4,I4,r4,q4⟩=>thn (ho' pins s4 σ H4 y z' u w' _ I4 r2 r4 q4) fun d' s5 ⟨z2,H5,I5,r5,k2,e2,q5⟩=>?_));subst e2;cases r5;exact wpAny_truthy_bool ⟨H5,I5,q5⟩
theorem nL:(sizeLine:Nat)<2 ^ 63:=by rw[sizeLine_eq];decide
theorem nW{x:V}{us:List Value}(r:bO [x] us):∃u,us=[u]/\bY x u:=by
 cases r with
 |cons r1 r2=>cases r2;exact⟨_,rfl,r1⟩
theorem aG3{x y:V}{us:List Value}(r:bO [x,y] us):∃u w',us=[u,w']/\bY x u/\bY y w':=by
 cases r with
 |cons r1 r2=>
   cases r2 with
   |cons r3 r4=>cases r4;exact⟨_,_,rfl,r1,r3⟩
theorem rQ(hc:X.calm=true):iA X (.builtin "max") (fun xs H Q=>∃i j,xs=[.int i,.int j]/\Q (.int (if j > i then j else i)) H):=by
 intro pins s σ H xs us Q I r h;obtain⟨i,j,rfl,q⟩:=h;obtain⟨u,w',rfl,⟨t,rfl⟩,⟨t',rfl⟩⟩:=aG3 r;refine max_two_ints (I.ok.hd hc) fun h' tk k=>⟨_,H,I.kept k,?_,q⟩;by_cases hj:j > i
 . rw[if_pos hj,if_pos hj];exact⟨_,rfl⟩
 . rw[if_neg hj,if_neg hj];exact⟨_,rfl⟩
theorem aAa:iA X (.type "int") (fun xs H Q=>(∃i,xs=[.int i]/\Q (.int i) H)\/∃k,xs=[.bl k]/\Q (.int (if k then 1 else 0)) H):=by
 intro pins s σ H xs us Q I r h;rcases h with⟨i,rfl,q⟩|⟨k,rfl,q⟩
 . obtain⟨u,rfl,t,rfl⟩:=nW r;exact call_int_int ⟨.int i,H,I,⟨_,rfl⟩,q⟩
 . obtain⟨u,rfl,r1⟩:=nW r;cases r1;exact call_int_bool ⟨.int (if k then 1 else 0),H,I.tok _,⟨_,rfl⟩,q⟩
end
structure aEe (h:Heap) (x dx C:Addr) (mA:Str->Option Value):Prop where
 obj:h.get? x=some (W.instObj C dx)
 ns:h.Ns1 dx mA
 ne:dx≠x
theorem yX{h:Heap}{dx:Addr}{mA:Str->Option Value}(n:h.Ns1 dx mA):∃od,h.get? dx=some od/\∀name,W.lookIn name od=some (mA name):=by
 obtain⟨o,es,ep,ho,hd,hk,_,hm⟩:=n;refine⟨o,ho,fun name=>?_⟩;have e:=hm name;unfold nsFind findBy at e;rw[<- Array.find?_toList] at e;unfold W.lookIn;rw[hd];dsimp only;split
 . rename_i y q;rw[q] at e;exact congrArg some e
 . rename_i q;rw[q] at e;have a:es.toList.any (·.refKey)=false:=by
     rw[List.any_eq_false];intro y hy;obtain⟨z,t,hkey⟩:=hk y (Array.mem_toList_iff.mp hy);simp[DictEntry.refKey,hkey]
   have a':¬ es.toList.any (·.refKey)=true:=by rw[a];exact Bool.false_ne_true
   rw[if_neg a'];exact congrArg some e
theorem aEe.look{h:Heap}{x dx C:Addr}{mA:Str->Option Value}(I:aEe h x dx C mA):∃od,W.InstAt h x (W.instObj C dx) C (some od)/\∀name,W.lookIn name od=some (mA name):=let ⟨od,ho,hl⟩:=yX I.ns
 ⟨od,⟨I.obj,rfl,rfl,ho⟩,hl⟩
section
variable{prog:Program}{w:World}{A:Around}{E:Value->Shared->Prop}{s:Shared}{K:W.Frag}{x dx C f:Addr}{mA:Str->Option Value}{name:Str}{v:Value}
theorem aDy{expr:Bool}{Q:Value->Shared->Prop}(X:K.In s.heap)(I:aEe s.heap x dx C mA)(hg:W.plainGet K C name=true)(hh:W.hasDictIn K C=true)(ha:W.findIn K (.ref C) name=some none)(hv:mA name=some v)(hv':W.handedIn v=true)(h:Q v {s with toks:=s.toks+1}): wpAny (model prog w) A (getAttr (.ref x) name expr) Q E s:=by
 obtain⟨od,J,hl⟩:=I.look;exact W.get_value X J (W.plainGet_of hg).1 (W.findObj_own hh ha rfl (by rw[hl,hv])) hv' h
theorem aBn{pl:Sem Bool}{Q:Value×List Value->Shared->Prop}(X:K.In s.heap)(I:aEe s.heap x dx C mA)(hg:W.plainGet K C name=true)(hf:W.findIn K (.ref C) name=some (some (.ref f)))(ht:W.isFn K (.ref f)=true)(hv:mA name=none)(h:Q (.ref f,[.ref x]) s): wpAny (model prog w) A (getMethod (.ref x) name pl) Q E s:=by
 obtain⟨od,J,hl⟩:=I.look;exact W.method_fn X J (W.plainGet_of hg).1 (W.plainGet_of hg).2 hf (beq_iff_eq.mp ht) (by show(W.lookIn name od).map (·.isSome)=some false;rw[hl,hv];rfl) h
theorem aD2{ns:List Str}{Q:Unit->Shared->Prop}(X:K.In s.heap)(I:aEe s.heap x dx C mA)(hs:W.findIn K (.ref C) "__setattr__"=some (some (.builtin "object.__setattr__")))(hp:W.plainOver K C=true)(ht:W.takerIn K C name=some none)(hh:W.hasDictIn K C=true)(hw:PySem.Within mA ns)(hsz:ns.length <= sizeLine)(h:∀h',aEe h' x dx C (fun y=>if y=name then some v else mA y)->Heap.SameBut dx s.heap h'->Q () {s with heap:=h',toks:=s.toks+2}): wpAny (model prog w) A (setAttr (.ref x) name v) Q E s:=by
 obtain⟨od,J,hl⟩:=I.look;refine W.set_plain X J hs (W.osa_open (s:={s with toks:=s.toks+1}) (r:=none) X J hp ht fun b=>?_);obtain⟨cd,hc,hd'⟩:=W.any_some hh;have hx:s.heap.get? x=some ⟨.ref C,some dx,.plain,#[]⟩:=I.obj;refine wpAny_bind (wpAny_pure (wpAny_bind (wpAny_bind (wpAny_loadPart hx (wpAny_bind (W.Looks.here (s:={s with toks:=s.toks+1}) (W.looks_clsIn X hc) ?_))))));rw[hd'];refine wpAny_pure (a:=some dx) (wpAny_bind (wpAny_pure (wpAny_bind ?_)));refine wpAny_nsSet1 (s:={s with toks:=s.toks+1}) I.ns fun h' hn2 hs2=>?_;obtain⟨oD,esD,epD,hoD,hdD,hcD⟩:=hn2.count (PySem.Within.cons name v hw);refine wpAny_bind (wpAny_lookBehind hoD (by rw[hdD];exact pastItsLine_dict (Nat.le_trans hcD (by rw[List.length_cons];omega))) ?_);exact wpAny_pure (h _ ⟨(hs2.2 _ (Ne.symm I.ne)).trans I.obj,hn2,I.ne⟩ hs2)
theorem aBf{R:Result->Shared->Prop}{vs:List Value}{kw:List (Str×Value)}(X:K.In s.heap)(hm:W.makesIn K C=true)(hi:W.findIn K (.ref C) "__init__"=some (some (.ref f)))(hf:W.typeIn K (.ref f)=some (.type "function"))(h:codeAny (model prog w) (A.under (.builtin "type.__call__" ⟨.ref C::vs,kw⟩)) (.call (.ref f) ⟨.ref (s.heap.objs.size+1)::vs,kw⟩) (W.InitBack (s.heap.objs.size+1) R) {s with heap:=(s.heap.push W.emptyDict).push (W.instObj C s.heap.objs.size)}): codeAny (model prog w) A (.call (.ref C) ⟨vs,kw⟩) R s:=by
 obtain⟨hh,g,d,t,os⟩:=s;exact W.make_core (W.makes_of X hm) (W.looks_findIn X hi) (fun self=>W.bind_fn X self hf) (.inl rfl) h
end
def bI(f:Str)(v:V):List (Str×V)->List (Str×V)
 |[]=>[(f,v)]
 |(g,x)::r=>if g=f then(g,v)::r else(g,x)::bI f v r
theorem aD(f g:Str)(v:V):∀fs:List (Str×V),(bI f v fs).lookup g=if g=f then some v else fs.lookup g
 |[]=>by
   show List.lookup g [(f,v)]=_;by_cases h:g=f
   . have hb:(g==f)=true:=beq_iff_eq.mpr h;simp only[List.lookup,hb,if_pos h]
   . have hb:(g==f)=false:=beq_eq_false_iff_ne.mpr h;simp only[List.lookup,hb,if_neg h]
 |(k,x)::r=>by
   have ih:=aD f g v r;rw[show bI f v ((k,x)::r)=(if k=f then(k,v)::r else(k,x)::bI f v r) from rfl];by_cases hk:k=f
   . rw[if_pos hk];by_cases h:g=k
     . have hb:(g==k)=true:=beq_iff_eq.mpr h;simp only[List.lookup,hb,if_pos (h.trans hk)]
     . have hb:(g==k)=false:=beq_eq_false_iff_ne.mpr h;simp only[List.lookup,hb,if_neg (fun e:g=f=>h (e.trans hk.symm))]
   . rw[if_neg hk];by_cases h:g=k
     . have hb:(g==k)=true:=beq_iff_eq.mpr h;simp only[List.lookup,hb,if_neg (fun e:g=f=>hk (h.symm.trans e))]
     . have hb:(g==k)=false:=beq_eq_false_iff_ne.mpr h;simp only[List.lookup,hb];exact ih
theorem mK(f:Str)(v:V):∀fs:List (Str×V),f∈(bI f v fs).map (·.1)/\∀g,g∈fs.map (·.1)->g∈(bI f v fs).map (·.1)
 |[]=>⟨by simp[bI],fun g h=>by simp at h⟩
 |(k,x)::r=>by
   obtain⟨i1,i2⟩:=mK f v r;rw[show bI f v ((k,x)::r)=(if k=f then(k,v)::r else(k,x)::bI f v r) from rfl];by_cases hk:k=f
   . rw[if_pos hk];subst hk;exact⟨by simp,fun g h=>by simpa using h⟩
   . rw[if_neg hk];refine⟨?_,fun g h=>?_⟩
     . rw[List.map_cons];exact List.mem_cons_of_mem _ i1
     . rw[List.map_cons] at h ⊢;rcases List.mem_cons.mp h with e|e
       . exact List.mem_cons.mpr (.inl e)
       . exact List.mem_cons_of_mem _ (i2 g e)
theorem aK(f:Str)(v:V):∀fs:List (Str×V),(bI f v fs).length <= fs.length+1
 |[]=>by simp[bI]
 |(k,x)::r=>by
   have ih:=aK f v r;rw[show bI f v ((k,x)::r)=(if k=f then(k,v)::r else(k,x)::bI f v r) from rfl];by_cases hk:k=f
   . rw[if_pos hk,List.length_cons,List.length_cons];omega
   . rw[if_neg hk,List.length_cons,List.length_cons];omega
theorem pY.some_of{v:V}{o:Option Value}(r:pY (some v) o):∃u,o=some u/\bY v u:=by
 cases o with
 |none=>exact(show False from r).elim
 |some u=>exact⟨u,rfl,r⟩
theorem pY.none_of{o:Option Value}(r:pY none o):o=none:=by
 cases o with
 |none=>rfl
 |some u=>exact(show False from r).elim
theorem zO{v:V}{u:Value}(r:bY v u):W.handedIn u=true:=by
 cases v with
 |non=>cases (show u=Value.none from r);rfl
 |bl b=>cases (show u=Value.bool b from r);rfl
 |int i=>obtain⟨t,e⟩:=(show ∃t,u=Value.int i t from r);cases e;rfl
 |str x=>obtain⟨t,e⟩:=(show ∃t,u=Value.str x t from r);cases e;rfl
 |byt b=>obtain⟨t,e⟩:=(show ∃t,u=Value.bytes b t from r);cases e;rfl
 |flt b=>obtain⟨t,e⟩:=(show ∃t,u=Value.float b t from r);cases e;rfl
 |ref a=>cases (show u=Value.ref a from r);rfl
 |ty n=>cases (show u=Value.type n from r);rfl
section
variable{P:Program}{w:World}{H H':Hp}{h h':Heap}{a C dx:Addr}{fs fs':List (Str×V)}
theorem pL(hok:HOk P w H h)(e:H a=some (.ins C dx fs)):∃mA,aEe h a dx C mA/\(∀f,pY (fs.lookup f) (mA f))/\PySem.Within mA (fs.map (·.1))/\fs.length <= 1000/\H dx=some (.own a):=by
 obtain⟨d,z,ne,ob,mA,n,r,q⟩:=(show bZ P w H h a (.ins C dx fs) from hok a _ e);exact⟨mA,⟨ob,n,ne⟩,r,q,z,d⟩
end
structure Cls (K:W.Frag) (C:Addr):Prop where
 pg:W.plainGet K C Str.empty=true
 hd:W.hasDictIn K C=true
 po:W.plainOver K C=true
 sa:W.findIn K (.ref C) "__setattr__"=some (some (.builtin "object.__setattr__"))
theorem Cls.get{K:W.Frag}{C:Addr}(c:Cls K C)(f:Str):W.plainGet K C f=true:=c.pg
def dG(K:W.Frag)(C:Addr)(f:Str):Prop:=W.findIn K (.ref C) f=some none
theorem dG.taker{K:W.Frag}{C:Addr}{f:Str}(n:dG K C f):W.takerIn K C f=some none:=by
 unfold W.takerIn;rw[show W.findIn K (.ref C) f=some none from n];rfl
structure aFs (K:W.Frag) (C:Addr) (m:Str) (f:Addr):Prop where
 at_:W.findIn K (.ref C) m=some (some (.ref f))
 fn:W.isFn K (.ref f)=true
 kp:W.keepIn K (.ref f)=true
section
variable{X:Cx}{pins:List (Addr×Obj)}{σ:St}{H:Hp}{s:Shared}{a C dx:Addr}{fs:List (Str×V)}{f:Str}{v:V}{A:Around}{E:Value->Shared->Prop}
theorem wI{b:Bool}{Q:Value->Shared->Prop}(I:Inv X pins σ H s)(e:H a=some (.ins C dx fs))(c:Cls X.K C)(n:dG X.K C f)(l:fs.lookup f=some v)(h:∀u s',Inv X pins σ H s'->bY v u->Q u s'):wpAny (model X.prog X.w) A (getAttr (.ref a) f b) Q E s:=by
 obtain⟨mA,O,r,_,_,_⟩:=pL I.hok e;obtain⟨u,hu,ru⟩:=pY.some_of (v:=v) (o:=mA f) (by rw[<- l];exact r f);exact aDy I.kIn O (c.get f) c.hd n hu (zO ru) (h u _ (I.tok _) ru)
theorem nN{m:Str}{g:Addr}{pl:Sem Bool}{Q:Value×List Value->Shared->Prop}(I:Inv X pins σ H s)(e:H a=some (.ins C dx fs))(c:Cls X.K C)(k:aFs X.K C m g)(l:fs.lookup m=none)(h:Q (.ref g,[.ref a]) s):wpAny (model X.prog X.w) A (getMethod (.ref a) m pl) Q E s:=by
 obtain⟨mA,O,r,_,_,_⟩:=pL I.hok e;have hn:mA m=none:=pY.none_of (by rw[<- l];exact r m);exact aBn I.kIn O (c.get m) k.at_ k.fn hn h
theorem vQ{y:V}{u:Value}{Q:Unit->Shared->Prop}(I:Inv X pins σ H s)(e:H a=some (.ins C dx fs))(c:Cls X.K C)(n:dG X.K C f)(hl:fs.length<1000)(ry:bY y u)(h:∀s',Inv X pins σ (upd H a (.ins C dx (bI f y fs))) s'->Q () s'):wpAny (model X.prog X.w) A (setAttr (.ref a) f u) Q E s:=by
 obtain⟨mA,O,r,wi,_,ho⟩:=pL I.hok e;have hz:(fs.map (·.1)).length <= sizeLine:=by rw[List.length_map,sizeLine_eq];omega
 refine aD2 I.kIn O c.sa c.po n.taker c.hd wi hz fun h' O' sb=>h _ ?_;have hd:∃o,h'.get? dx=some o:=let ⟨o,_,_,e',_⟩:=O'.ns;⟨o,e'⟩;refine I.write (x:=a) (e:=dx) (by rw[e];exact True.intro) (.inr ho) (fun b q hb z=>(sb.2 b hb).trans z) hd ?_;refine⟨by rw[aE O.ne];exact ho,?_,O.ne,O'.obj,_,O'.ns,fun g=>?_,fun g hg=>?_⟩
 . have:=aK f y fs;omega
 . show pY ((bI f y fs).lookup g) (if g=f then some u else mA g);rw[aD];by_cases q:g=f
   . rw[if_pos q,if_pos q];exact ry
   . rw[if_neg q,if_neg q];exact r g
 . by_cases q:g=f
   . rw[q];exact(mK f y fs).1
   . refine(mK f y fs).2 g (wi g fun z=>hg ?_);show(if g=f then some u else mA g)=none;rw[if_neg q];exact z
theorem Inv.made(I:Inv X pins σ H s):Inv X pins σ (upd (upd H s.heap.objs.size (.own (s.heap.objs.size+1))) (s.heap.objs.size+1) (.ins C s.heap.objs.size [])) {s with heap:=(s.heap.push W.emptyDict).push (W.instObj C s.heap.objs.size)}:=by
 have e1:(s.heap.push W.emptyDict).get? s.heap.objs.size=some W.emptyDict:=Heap.get?_push_size s.heap rfl;have e2:((s.heap.push W.emptyDict).push (W.instObj C s.heap.objs.size)).get? (s.heap.objs.size+1)=some (W.instObj C s.heap.objs.size):=by
   have:=Heap.get?_push_size (s.heap.push W.emptyDict) (o:=W.instObj C s.heap.objs.size) rfl;rwa [Heap.size_push] at this
 have e3:(s.heap.push W.emptyDict).Ns s.heap.objs.size (fun _=>none):=⟨W.emptyDict,#[],_,e1,rfl,(fun e he=>absurd he (by simp)),fun _=>rfl⟩;have I1:=I.laid (a:=s.heap.objs.size) (o:=.own (s.heap.objs.size+1)) (h':=s.heap.push W.emptyDict) (t':=s.toks) (fun b u q=>Heap.get?_push_of_some _ q) (Nat.le_refl _) ⟨_,e1⟩;refine I1.laid (a:=s.heap.objs.size+1) (o:=.ins C s.heap.objs.size []) (t':=s.toks) (fun b u q=>Heap.get?_push_of_some _ q) (Nat.le_of_eq (Heap.size_push _ _)) ?_;have ne:s.heap.objs.size≠s.heap.objs.size+1:=Nat.ne_of_lt (Nat.lt_succ_self _);refine⟨by rw[aE ne,aB],Nat.zero_le _,ne,e2,fun _=>none,(Heap.Ns1.of_empty e3).at fun o q=>Heap.get?_push_of_some _ q,fun _=>True.intro,fun y hy=>absurd rfl hy⟩
theorem aE7{prog:Program}{w:World}{env:Env}{e:Expr}{f:Str}{pos:Pos}{s:Shared}{Q:Value->Shared->Prop}(hb:attributeBase e f env (eval e env)=eval e env)(h:wpAny (model prog w) A (eval e env) (fun o s₁=>wpAny (model prog w) A (getAttr o f true) Q E s₁) E s):wpAny (model prog w) A (eval (.Attribute e f pos) env) Q E s:=Attribute_any_ h (by rw[arm_eval_Attribute,hb])
end
def aH7(K:W.Frag)(ta:TE)(f:Str):TE:=fun σ H Q=>ta σ H fun x H1=>∃a C dx fs v,x=.ref a/\H1 a=some (.ins C dx fs)/\Cls K C/\dG K C f/\fs.lookup f=some v/\Q v H1
def aHt(K:W.Frag)(ta tv:TE)(f:Str):TS:=fun D σ H=>tv σ H fun y H1=>ta σ H1 fun x H2=>∃a C dx fs,x=.ref a/\H2 a=some (.ins C dx fs)/\Cls K C/\dG K C f/\fs.length<1000 /\ D.nx σ (upd H2 a (.ins C dx (bI f y fs)))
section
variable{X:Cx}{o e value:Expr}{f:Str}{pos pos' tpos:Pos}{ta tv:TE}
theorem aY(he:PE X e ta)(hb:attributeBase e f X.env (eval e X.env)=eval e X.env):PE X (.Attribute e f pos) (aH7 X.K ta f):=by
 intro pins s σ H Q I h;refine aE7 hb (thn (he pins s σ H _ I h) fun u s1 ⟨x,H1,I1,rx,a,C,dx,fs,v,ex,ea,c,n,l,q⟩=>?_);subst ex;obtain rfl:u=Value.ref a:=rx;exact wI I1 ea c n l fun u' s2 I2 ru=>⟨v,H1,I2,ru,q⟩
theorem dO(ha:PE X o ta)(hv:PE X value tv)(hs:swapsWith value (some (.Attribute o f pos')) pos.line X.env=pure false):PS X (.Assign [.Attribute o f pos'] value pos) (aHt X.K ta tv f):=by
 intro pins s σ H D I h;refine plainObj_wpAny_Assign_Attribute (thn (hv pins s σ H _ I h) fun u s1 ⟨y,H1,I1,ry,q⟩=>thn (ha pins s1 σ H1 _ I1 q) fun ov s2 ⟨x,H2,I2,rx,a,C,dx,fs,ex,ea,c,n,l,q2⟩=>?_) hs;subst ex;obtain rfl:ov=Value.ref a:=rx;exact vQ I2 ea c n l ry fun s3 I3=>⟨σ,_,I3,q2⟩
end
section
variable{X:Cx}{pins:List (Addr×Obj)}{σ:St}{H:Hp}{s:Shared}{A:Around}{E:Value->Shared->Prop}{Q:Value->Shared->Prop}{c:Value}{b:Bool}
inductive wT (K:W.Frag) (H:Hp):V->Value->Prop where
 |non:wT K H .non (.type "NoneType")
 |bl (x:Bool):wT K H (.bl x) (.type "bool")
 |int (i:Int):wT K H (.int i) (.type "int")
 |str (x:Str):wT K H (.str x) (.type "str")
 |flt (x:UInt64):wT K H (.flt x) (.type "float")
 |lst {a:Addr} {xs:List V} (e:H a=some (.lst xs)):wT K H (.ref a) (.type "list")
 |frz {a:Addr} {o:Obj} {xs:List V} (e:H a=some (.frz o (.lst xs))):wT K H (.ref a) (.type "list")
 |tup {a:Addr} {xs:List V} (e:H a=some (.tup xs)):wT K H (.ref a) (.type "tuple")
 |dK {a:Addr} {kvs:List (Key×V)} (e:H a=some (.dK kvs)):wT K H (.ref a) (.type "dict")
 |dT {a:Addr} {kvs:List (List Key×V)} (e:H a=some (.dT kvs)):wT K H (.ref a) (.type "dict")
 |ins {a C dx:Addr} {fs:List (Str×V)} (e:H a=some (.ins C dx fs)) (cl:Cls K C) (ha:W.findIn K (.ref C) "__class__"=some (some (.builtin "object.__class__")))
     (hn:W.specialIn K (.builtin "object.__class__") "__get__"=some (some (.builtin "getset_descriptor.__get__"))) (htk:W.takesIn K (.builtin "object.__class__")=some true)
     (hm:W.mroIn K C (.type "object")=some true):wT K H (.ref a) (.ref C)
theorem zH{x:V}{u t:Value}(I:Inv X pins σ H s)(rx:bY x u)(ty:wT X.K H x t)(e:W.kitOne X.K t c=some b)(h:∀tk,Q (.bool b) {s with toks:=tk}): wpAny (model X.prog X.w) A (call (.builtin "isinstance") [u,c]) Q E s:=by
 cases ty with
 |non=>cases (show u=Value.none from rx);exact W.kia_one W.kitx_none I.kIn True.intro e (fun z=>nomatch z) h
 |bl y=>cases (show u=Value.bool y from rx);exact W.kia_one W.kitx_bool I.kIn True.intro e (fun z=>nomatch z) h
 |int i=>obtain⟨t,q⟩:=(show ∃t,u=Value.int i t from rx);cases q;exact W.kia_one W.kitx_int I.kIn True.intro e (fun z=>nomatch z) h
 |str y=>obtain⟨t,q⟩:=(show ∃t,u=Value.str y t from rx);cases q;exact W.kia_one W.kitx_str I.kIn True.intro e (fun z=>nomatch z) h
 |flt y=>obtain⟨t,q⟩:=(show ∃t,u=Value.float y t from rx);cases q;exact W.kia_one W.kitx_float I.kIn True.intro e (fun z=>nomatch z) h
 |@lst a xs ea=>
   cases (show u=Value.ref a from rx);obtain⟨_,_,n,_,h1⟩:=(show bZ X.prog X.w H s.heap a (.lst xs) from I.hok a _ ea);exact W.kia_one W.kitx_list I.kIn ⟨_,h1,rfl⟩ e (fun z=>nomatch z) h
 |@frz a ob xs ea=>
   cases (show u=Value.ref a from rx);obtain⟨_,_,_,n,_,h1⟩:=(show bZ X.prog X.w H s.heap a (.frz ob (.lst xs)) from I.hok a _ ea);exact W.kia_one W.kitx_list I.kIn ⟨_,h1,rfl⟩ e (fun z=>nomatch z) h
 |@tup a xs ea=>
   cases (show u=Value.ref a from rx);obtain⟨_,_,_,p⟩:=(show bZ X.prog X.w H s.heap a (.tup xs) from I.hok a _ ea);obtain⟨o,h1,h2,_⟩:=p;exact W.kia_one W.kitx_tuple I.kIn ⟨o,h1,h2⟩ e (fun z=>nomatch z) h
 |@dK a kvs ea=>
   cases (show u=Value.ref a from rx);obtain⟨_,_,vs,_,p⟩:=(show bZ X.prog X.w H s.heap a (.dK kvs) from I.hok a _ ea);obtain⟨o,es,ep,h1,h2,_⟩:=p;exact W.kia_one W.kitx_dict I.kIn ⟨o,h1,h2.1⟩ e (fun z=>nomatch z) h
 |@dT a kvs ea=>
   cases (show u=Value.ref a from rx);obtain⟨_,_,xs,_,o,es,ep,h1,h2,_⟩:=(show bZ X.prog X.w H s.heap a (.dT kvs) from I.hok a _ ea);exact W.kia_one W.kitx_dict I.kIn ⟨o,h1,h2.1⟩ e (fun z=>nomatch z) h
 |@ins a C dx fs ea cl ha hn htk hm=>
   cases (show u=Value.ref a from rx);obtain⟨mA,O,_⟩:=pL I.hok ea;obtain⟨od,J,_⟩:=O.look;exact W.kia_one (W.kitx_own (cl.get _) cl.hd ha hn htk hm) I.kIn J e (fun z=>nomatch z) h
end
structure eU (k:Nat) (A:Around):Prop where
 hd:A.handled=none
 dp:A.depth+3*k+5<recursionLimit
 un:A.units+16*k+200<cLine
theorem eU.mono{j k:Nat}{A:Around}(r:eU k A)(h:j <= k):eU j A:=⟨r.hd,by have:=r.dp;omega,by have:=r.un;omega⟩
theorem eU.deeper{k:Nat}{A:Around}(r:eU (k+1) A)(env:Env):eU k (A.deeper env):=⟨r.hd,by have:=r.dp;show A.depth+1+3*k+5<_;omega,by have:=r.un;show A.units+3+16*k+200<_;omega⟩
theorem eU.in1{k:Nat}{A:Around}(r:eU (k+1) A):eU k A.in1:=⟨r.hd,by have:=r.dp;show A.depth+3*k+5<_;omega,by have:=r.un;show A.units+1+16*k+200<_;omega⟩
theorem wD{A:Around}{C:Addr}{us:List Value}{kw:List (Str×Value)}:(A.under (.builtin "type.__call__" ⟨.ref C::us,kw⟩)).depth=A.depth+1:=by
 first|rfl|simp[Around.under,Code.weight,Code.isCreation,Code.isGuard,Code.isCaller,Code.frames,Code.isFrame,guardIds]
theorem wC{A:Around}{C:Addr}{us:List Value}{kw:List (Str×Value)}:(A.under (.builtin "type.__call__" ⟨.ref C::us,kw⟩)).units=A.units+1:=by
 first|rfl|simp[Around.under,Code.cUnits,Code.frames,Code.isFrame]
theorem eU.make{k:Nat}{A:Around}(r:eU (k+1) A)(C:Addr)(us:List Value)(kw:List (Str×Value)):eU k (A.under (.builtin "type.__call__" ⟨.ref C::us,kw⟩)):=⟨r.hd,by have:=r.dp;rw[wD];omega,by have:=r.un;rw[wC];omega⟩
theorem eU.depth{k:Nat}{A:Around}(r:eU k A):A.depth<recursionLimit:=by have:=r.dp;omega
theorem eU.units{k:Nat}{A:Around}(r:eU k A):A.units+64<cLine:=by have:=r.un;omega
theorem eU.units0{k:Nat}{A:Around}(r:eU k A):A.units<cLine:=by have:=r.un;omega
def aEg:TA:=fun _ H Q=>Q [] H
def kS(ta:TE)(tr:TA):TA:=fun σ H Q=>ta σ H fun x H1=>tr σ H1 fun xs H2=>Q (x::xs) H2
section
variable{X:Cx}{e:Expr}{es:List Expr}{te:TE}{t:TA}{pos:Pos}
theorem aF:PA X [] aEg:=fun _ _ _ _ H Q I h=>Calls.spliced_nil ⟨[],H,I,.nil,h⟩
theorem aA(ha:PE X e te)(hr:PA X es t)(hs:starEach (e::es) X.env=(false,eval e X.env)::starEach es X.env:=by rfl):PA X (e::es) (kS te t):=by
 intro pos pins s σ H Q I h;rw[hs];show wpAny _ _ (spliced ((false,eval e X.env)::backTo pos (starEach es X.env))) _ _ s;refine Calls.spliced_cons (thn (ha pins s σ H _ I h) fun u s1 ⟨x,H1,I1,r1,q1⟩=>?_);exact thn (hr pos pins s1 σ H1 _ I1 q1) fun us s2 ⟨xs,H2,I2,r2,q2⟩=>⟨x::xs,H2,I2,.cons r1 r2,q2⟩
def aHm(t:TA):TE:=fun σ H Q=>t σ H fun xs H1=>xs.length <= sizeLine/\∀p,H1 p=none->Q (.ref p) (upd H1 p (.tup xs))
def aH5(t:TA):TE:=fun σ H Q=>t σ H fun xs H1=>xs.length <= sizeLine/\∀p,H1 p=none->Q (.ref p) (upd H1 p (.lst xs))
theorem eY{x1}(h:PA X es t):PE X (.Tuple es x1 pos) (aHm t):=by
 intro pins s σ H Q I hq;refine wpAny_Tuple_spliced (thn (h pos pins s σ H _ I hq) fun us s1 ⟨xs,H1,I1,r,z,q⟩=>⟨by rw[<- r.length];exact z,?_⟩);have hf:H1 s1.heap.objs.size=none:=I1.hok.fresh (Nat.le_refl _);refine⟨.ref s1.heap.objs.size,upd H1 s1.heap.objs.size (.tup xs),I1.laid (t':=s1.toks) (fun b u e=>Heap.get?_push_of_some _ e) (Nat.le_refl _) ?_,rfl,q _ hf⟩;exact⟨z,us,r,⟨_,Heap.get?_push_size _ rfl,rfl,_,rfl⟩⟩
theorem cF(h:PA X es t):PE X (.List es pos) (aH5 t):=by
 intro pins s σ H Q I hq;refine wpAny_List_spliced (thn (h pos pins s σ H _ I hq) fun us s1 ⟨xs,H1,I1,r,z,q⟩=>⟨by rw[<- r.length];exact z,?_⟩);have hf:H1 s1.heap.objs.size=none:=I1.hok.fresh (Nat.le_refl _);refine⟨.ref s1.heap.objs.size,upd H1 s1.heap.objs.size (.lst xs),I1.laid (t':=s1.toks) (fun b u e=>Heap.get?_push_of_some _ e) (Nat.le_refl _) ?_,rfl,q _ hf⟩;exact⟨z,us,0,r,Heap.get?_push_size _ rfl⟩
end
abbrev Sp:=List V->Hp->VK->XK->Prop
abbrev CXT:=List Env->Hp->Shared->XK->Value->Shared->Prop
structure aAl (P:Program) (w:World) (K:W.Frag) (mg:Str->Option Value) (base:Heap) (A:Around) (outer:List Env) (s:Shared) (H:Hp):Prop where
 frames:A.frames=some outer
 mod:Mod K mg base
 bs:∀b o,base.get? b=some o->s.heap.get? b=some o/\H b=none
 bsz:base.objs.size <= s.heap.objs.size
 funs:s.heap.FunFrames base outer
 frf:∀b∈frs outer,H b=none
 hok:HOk P w H s.heap
 bare:AllBare s.gens
def CE(outer:List Env)(P:Program)(w:World)(H:Hp)(s:Shared)(Q:VK)(u:Value)(s':Shared):Prop:=∃v H',s'.os=s.os/\AllBare s'.gens/\Un (frs outer) [] H H' s.heap s'.heap/\HOk P w H' s'.heap/\bY v u/\Q v H'
def CR(CX:CXT)(outer:List Env)(P:Program)(w:World)(H:Hp)(s:Shared)(Q:VK)(E:XK)(r:Result)(s':Shared):Prop:=match r with
 |.ok (.ret u)=>CE outer P w H s Q u s'
 |.ok _=>False
 |.error e=>CX outer H s E e s'
structure gO (P:Program) (w:World) (K:W.Frag) (mg:Str->Option Value) (base:Heap) (CX:CXT) (k:Nat) (f:Addr) (fd:FuncData) (ps:List Str) (sp:Sp):Prop where
 len:∀vs H Q E,sp vs H Q E->vs.length=ps.length
 run:∀(A:Around)(outer:List Env)(s:Shared)(H:Hp)(args:Args)(us:List Value)(vs:List V)(Q:VK)(E:XK),eU k A->aAl P w K mg base A outer s H->BindsTo s fd args (ps.zip us)->bO vs us->sp vs H Q E ->
   codeAny (model P w) A (.call (.ref f) args) (CR CX outer P w H s Q E) s
theorem gO.mono{P:Program}{w:World}{K:W.Frag}{mg:Str->Option Value}{base:Heap}{CX:CXT}{j k:Nat}{f:Addr}{fd:FuncData}{ps:List Str}{sp:Sp}(F:gO P w K mg base CX j f fd ps sp)(h:j <= k): gO P w K mg base CX k f fd ps sp:=⟨F.len,fun A outer s H args us vs Q E hr=>F.run A outer s H args us vs Q E (hr.mono h)⟩
theorem gO.imp{P:Program}{w:World}{K:W.Frag}{mg:Str->Option Value}{base:Heap}{CX:CXT}{k:Nat}{f:Addr}{fd:FuncData}{ps:List Str}{sp sp':Sp}(F:gO P w K mg base CX k f fd ps sp)(h:∀vs H Q E,sp' vs H Q E->sp vs H Q E):gO P w K mg base CX k f fd ps sp':=⟨fun vs H Q E q=>F.len vs H Q E (h _ _ _ _ q),fun A outer s H args us vs Q E hr he hb hv hs=>F.run A outer s H args us vs Q E hr he hb hv (h _ _ _ _ hs)⟩
theorem aAl.make{P:Program}{w:World}{K:W.Frag}{mg:Str->Option Value}{base:Heap}{A:Around}{outer:List Env}{s:Shared}{H:Hp}(e:aAl P w K mg base A outer s H)(C:Addr)(us:List Value)(kw:List (Str×Value)): aAl P w K mg base (A.under (.builtin "type.__call__" ⟨.ref C::us,kw⟩)) outer s H:=⟨by first|exact e.frames|(simpa [Around.under,Code.envs,Code.isFrame,pushEnvs] using e.frames),e.mod,e.bs,e.bsz,e.funs,e.frf,e.hok,e.bare⟩
theorem aAl.in1{P:Program}{w:World}{K:W.Frag}{mg:Str->Option Value}{base:Heap}{A:Around}{outer:List Env}{s:Shared}{H:Hp}(e:aAl P w K mg base A outer s H): aAl P w K mg base A.in1 outer s H:=⟨e.frames,e.mod,e.bs,e.bsz,e.funs,e.frf,e.hok,e.bare⟩
section
variable{X:Cx}{pins:List (Addr×Obj)}{σ:St}{H:Hp}{s s':Shared}
theorem Inv.env0(I:Inv X pins σ H s):aAl X.prog X.w X.K X.mg X.base X.A X.stack s H:=⟨I.ok.frames,I.ok.mod,I.bs,Nat.le_trans I.ok.bsz I.sz,I.stack,I.stkFree,I.hok,I.bare⟩
theorem Inv.after{Q:VK}{u:Value}(I:Inv X pins σ H s)(h:CE X.stack X.prog X.w H s Q u s'):EP X pins σ Q u s':=by
 obtain⟨v,H',os,bare,un,hok,r,q⟩:=h;obtain⟨hh,g,d,t,os'⟩:=s';obtain rfl:os'=s.os:=os;exact⟨v,H',I.call (h':=hh) (g':=g) (d':=d) (t':=t) (ch:=[]) un hok bare (fun b z=>absurd z (by simp)),r,q⟩
end
def aEt(sp:Sp)(dvs:List V)(E:XK)(t:TA):TE:=fun σ H Q=>t σ H fun vs H1=>sp (vs++dvs) H1 Q E
def xD(C:Addr)(m:Str)(sp:Sp)(dvs:List V)(E:XK)(ta:TE)(t:TA):TE:=fun σ H Q=>ta σ H fun x H1=>∃a dx fs,x=.ref a/\H1 a=some (.ins C dx fs)/\fs.lookup m=none /\ t σ H1 fun vs H2=>sp (x::(vs++dvs)) H2 Q E
def aEp(C:Addr)(sp:Sp)(dvs:List V)(E:XK)(t:TA):TE:=fun σ H Q=>t σ H fun vs H1=>∀x dx,H1 x=none->H1 dx=none->dx≠x ->sp (.ref x::(vs++dvs)) (upd (upd H1 dx (.own x)) x (.ins C dx [])) (fun v H2=>v=.non/\Q (.ref x) H2) E
def iB(K:W.Frag)(fd:FuncData)(ps:List Str)(ds:List Value):Prop:=∀(s:Shared)(us:List Value),K.In s.heap->(us++ds).length=ps.length->BindsTo s fd ⟨us,[]⟩ (ps.zip (us++ds))
theorem iB.all{K:W.Frag}{fd:FuncData}{ps:List Str}(h:∀us:List Value,us.length=ps.length->bindArgs fd ⟨us,[]⟩=pure (ps.zip us)):iB K fd ps []:=fun s us _ hl=>by
 rw[List.append_nil] at hl ⊢;exact .of_eq (h us hl)
def jR(CX:CXT)(X:Cx)(E:XK):Prop:=∀(pins:List (Addr×Obj))(σ:St)(H:Hp)(s:Shared)(e:Value)(s':Shared),Inv X pins σ H s->CX X.stack H s E e s'->X.xe e s'
section
variable{X:Cx}{CX:CXT}{k:Nat}{f C:Addr}{fd:FuncData}{ps:List Str}{sp:Sp}{dvs:List V}{ds:List Value}{E:XK}{x m:Str}{p pos apos:Pos}{e o:Expr}{es:List Expr}{ta:TE}{t:TA}
theorem xX{pins:List (Addr×Obj)}{σ:St}{H:Hp}{s:Shared}{Q:VK}{us:List Value}{vs:List V}(F:gO X.prog X.w X.K X.mg X.base CX k f fd ps sp)(hr:eU k X.A)(hb:iB X.K fd ps ds)(hd:bO dvs ds)(hx:jR CX X E)(I:Inv X pins σ H s)(r:bO vs us)(h:sp (vs++dvs) H Q E):wpAny (model X.prog X.w) X.A (call (.ref f) us) (EP X pins σ Q) X.xe s:=by
 have r2:bO (vs++dvs) (us++ds):=r.append hd;have hl:(us++ds).length=ps.length:=by rw[<- r2.length];exact F.len _ _ _ _ h
 refine wpAny_call (codeAny_mono (F.run X.A X.stack s H ⟨us,[]⟩ (us++ds) (vs++dvs) Q E hr I.env0 (hb s us I.kIn hl) r2 h) fun r s' hq=>?_);cases r with
 |error e=>exact hx pins σ H s e s' I hq
 |ok fl=>
   cases fl with
   |ret u=>exact I.after hq
   |next=>exact False.elim hq
   |brk=>exact False.elim hq
   |cont=>exact False.elim hq
theorem aDg(F:gO X.prog X.w X.K X.mg X.base CX k f fd ps sp)(hr:eU k X.A)(hg:Gl X x)(hm:X.mg x=some (.ref f))(hk:W.keepIn X.K (.ref f)=true)(hb:iB X.K fd ps ds)(hd:bO dvs ds)(hx:jR CX X E)(ha:PA X (e::es) t)(hdb:(x==("__debug__":Str))=false:=by decide)(he:starEach (e::es) X.env=(false,eval e X.env)::starEach es X.env:=by rfl)(hpl:(backTo pos (starEach es X.env)).any (·.1)=false:=by rfl): PE X (.Call (.Name x p) (e::es) [] pos) (aEt sp dvs E t):=by
 intro pins s σ H Q I h;refine wpAny_Call_Name_kw (mJ I hg hm ?_ hdb);refine W.callWith_K (h₀:=X.base) I.ok.mod.kin hk (thn (ha pos pins s σ H _ I h) fun us s1 ⟨vs,H1,I1,r,q⟩=>⟨I1.kIn,?_⟩) he hpl;exact xX F hr hb hd hx I1 r q
theorem yK{pl:Sem Bool}(he:PE X o ta)(c:Cls X.K C)(hm:aFs X.K C m f)(F:gO X.prog X.w X.K X.mg X.base CX k f fd ps sp)(hr:eU k X.A)(hb:iB X.K fd ps ds)(hd:bO dvs ds)(hx:jR CX X E)(ha:PA X (e::es) t)(hst:starEach (e::es) X.env=(false,eval e X.env)::starEach es X.env:=by rfl)(hpl:(backTo pos (starEach es X.env)).any (·.1)=false:=by rfl)(ht:eval (.Call (.Attribute o m apos) (e::es) [] pos) X.env=(do
     let ov <- eval o X.env
     standAt apos.atName
     let (f,first) <- holding [ov] (getMethod ov m pl)
     callWith pos f first (backTo pos (starEach (e::es) X.env)) (backToKw pos (keywordEach [] X.env))):=by rfl):
   PE X (.Call (.Attribute o m apos) (e::es) [] pos) (xD C m sp dvs E ta t):=by
 intro pins s σ H Q I h;refine W.methodCall_KW (pl:=pl) (thn (he pins s σ H _ I h) fun u s1 ⟨x,H1,I1,rx,a,dx,fs,ex,ea,l,q⟩=>?_) ht;subst ex;obtain rfl:u=Value.ref a:=rx;refine nN I1 ea c hm l ?_;refine W.callWith_K (first:=[.ref a]) (h₀:=X.base) I.ok.mod.kin hm.kp (thn (ha pos pins s1 σ H1 _ I1 q) fun us s2 ⟨vs,H2,I2,r,q2⟩=>⟨I2.kIn,?_⟩) hst hpl;exact xX (us:=.ref a::us) (vs:=.ref a::vs) F hr hb hd hx I2 (.cons rfl r) q2
theorem aAz{pl:Sem Bool}(he:PE X o ta)(c:Cls X.K C)(hm:aFs X.K C m f)(F:gO X.prog X.w X.K X.mg X.base CX k f fd ps sp)(hr:eU k X.A)(hb:iB X.K fd ps ds)(hd:bO dvs ds)(hx:jR CX X E)(ht:eval (.Call (.Attribute o m apos) [] [] pos) X.env=(do
     let ov <- eval o X.env
     standAt apos.atName
     let (f,first) <- holding [ov] (getMethod ov m pl)
     callWith pos f first (backTo pos (starEach [] X.env)) (backToKw pos (keywordEach [] X.env))):=by rfl):
   PE X (.Call (.Attribute o m apos) [] [] pos) (xD C m sp dvs E ta aEg):=by
 intro pins s σ H Q I h;refine W.methodCall_KW (pl:=pl) (thn (he pins s σ H _ I h) fun u s1 ⟨x,H1,I1,rx,a,dx,fs,ex,ea,l,q⟩=>?_) ht;subst ex;obtain rfl:u=Value.ref a:=rx;refine nN I1 ea c hm l ?_;exact W.callWith_K0 (first:=[.ref a]) I1.kIn hm.kp (xX (us:=[.ref a]) (vs:=[.ref a]) F hr hb hd hx I1 (.cons rfl .nil) q)
structure Mk (K:W.Frag) (C f:Addr):Prop where
 makes:W.makesIn K C=true
 init:W.findIn K (.ref C) "__init__"=some (some (.ref f))
 fn:W.isFn K (.ref f)=true
 kp:W.keepIn K (.ref C)=true
theorem aAw{pins:List (Addr×Obj)}{σ:St}{H:Hp}{s:Shared}{Q:VK}{us:List Value}{vs:List V}(M:Mk X.K C f)(F:gO X.prog X.w X.K X.mg X.base CX k f fd ps sp)(hr:eU (k+1) X.A)(hb:iB X.K fd ps ds)(hd:bO dvs ds)(hx:jR CX X E)(I:Inv X pins σ H s)(r:bO vs us)(h:∀x dx,H x=none->H dx=none->dx≠x->sp (.ref x::(vs++dvs)) (upd (upd H dx (.own x)) x (.ins C dx [])) (fun v H2=>v=.non/\Q (.ref x) H2) E): wpAny (model X.prog X.w) X.A (call (.ref C) us) (EP X pins σ Q) X.xe s:=by
 have hq:=h (s.heap.objs.size+1) s.heap.objs.size (I.hok.fresh (Nat.le_succ _)) (I.hok.fresh (Nat.le_refl _)) (Nat.ne_of_lt (Nat.lt_succ_self _));have I2:=Inv.made (C:=C) I;have r2:bO (V.ref (s.heap.objs.size+1)::(vs++dvs)) (Value.ref (s.heap.objs.size+1)::(us++ds)):=.cons rfl (r.append hd);have hl:(Value.ref (s.heap.objs.size+1)::us++ds).length=ps.length:=by
   have e:=r2.length;rw[F.len _ _ _ _ hq] at e;exact e.symm
 refine wpAny_call (aBf (f:=f) I.kIn M.makes M.init (beq_iff_eq.mp M.fn) (codeAny_mono (F.run _ X.stack _ _ ⟨Value.ref (s.heap.objs.size+1)::us,[]⟩ (Value.ref (s.heap.objs.size+1)::(us++ds)) _ _ E (hr.make C us []) (I2.env0.make C us []) (hb _ (Value.ref (s.heap.objs.size+1)::us) I2.kIn hl) r2 hq) fun r s' hq'=>?_));cases r with
 |error e=>exact hx pins σ _ _ e s' I2 hq'
 |ok fl=>
   cases fl with
   |ret u=>
     obtain⟨v,H',I3,rv,ev,q3⟩:=I2.after hq';subst ev;exact⟨rv,⟨V.ref (s.heap.objs.size+1),H',I3,rfl,q3⟩⟩
   |next=>exact False.elim hq'
   |brk=>exact False.elim hq'
   |cont=>exact False.elim hq'
theorem aDe(M:Mk X.K C f)(F:gO X.prog X.w X.K X.mg X.base CX k f fd ps sp)(hr:eU (k+1) X.A)(hg:Gl X x)(hm:X.mg x=some (.ref C))(hb:iB X.K fd ps ds)(hd:bO dvs ds)(hx:jR CX X E)(ha:PA X (e::es) t)(hdb:(x==("__debug__":Str))=false:=by decide)(he:starEach (e::es) X.env=(false,eval e X.env)::starEach es X.env:=by rfl)(hpl:(backTo pos (starEach es X.env)).any (·.1)=false:=by rfl): PE X (.Call (.Name x p) (e::es) [] pos) (aEp C sp dvs E t):=by
 intro pins s σ H Q I h;refine wpAny_Call_Name_kw (mJ I hg hm ?_ hdb);refine W.callWith_K (h₀:=X.base) I.ok.mod.kin M.kp (thn (ha pos pins s σ H _ I h) fun us s1 ⟨vs,H1,I1,r,q⟩=>⟨I1.kIn,?_⟩) he hpl;exact aAw M F hr hb hd hx I1 r q
end
def PK(X:Cx)(kws:List Keyword)(t:TA):Prop:=∀(pos:Pos)(pins:List (Addr×Obj))(s:Shared)(σ:St)(H:Hp)(Q:List V->Hp->Prop),Inv X pins σ H s->t σ H Q->wpAny (model X.prog X.w) X.A (evalAll ((backToKw pos (keywordEach kws X.env)).map (·.2))) (AP X pins σ Q) X.xe s
section
variable{X:Cx}{CX:CXT}{k:Nat}{f C:Addr}{fd:FuncData}{ps ks:List Str}{sp:Sp}{E:XK}{x m:Str}{p pos apos kpos:Pos}{e o:Expr}{es:List Expr}{kws:List Keyword}{te ta:TE}{t tk:TA}{nm:Option Str}
theorem yF:PK X [] aEg:=fun _ _ _ _ H Q I h=>wpAny_evalAll_nil ⟨[],H,I,.nil,h⟩
theorem oS(ha:PE X e te)(hr:PK X kws t):PK X (⟨nm,e,kpos⟩::kws) (kS te t):=by
 intro pos pins s σ H Q I h;show wpAny _ _ (evalAll ((do let v <- eval e X.env;standAt pos;pure v)::(backToKw pos (keywordEach kws X.env)).map (·.2))) _ _ s;refine wpAny_evalAll_cons (wpAny_bind (thn (ha pins s σ H _ I h) fun u s1 ⟨x,H1,I1,r1,q1⟩=>wpAny_bind (wpAny_standAt (wpAny_pure ?_))));exact thn (hr pos pins s1 σ H1 _ I1 q1) fun us s2 ⟨xs,H2,I2,r2,q2⟩=>⟨x::xs,H2,I2,.cons r1 r2,q2⟩
variable{g:List Value->List Value->List Value}{gV:List V->List V->List V}
end
structure aW (N P:List Str) (sc:Scope):Prop where
 kind:sc.kind=.function:=by exact rfl
 co:sc.isCoroutine=false:=by exact rfl
 gen:sc.isGenerator=false:=by exact rfl
 nd:N.Nodup:=by decide +kernel
 pre:N.take P.length=P:=by exact rfl
 par:∀x∈P,sc.names.lookup x=some .local\/sc.names.lookup x=some .cell:=by decide +kernel
 nofree:∀y∈sc.names,y.2≠.free:=by decide +kernel
theorem rR{kindOf:Str->Option NameKind}{x:Str}:∀{binds:List (Str×Value)}{m:Str->Option Value},(∀v,(x,v)∉binds)->bindL kindOf binds m x=m x
 |[],_,_=>rfl
 |(n,v)::r,m,h=>by
   unfold bindL;rw[rR fun w hw=>h w (List.mem_cons_of_mem _ hw)];split
   . have:x≠n:=by rintro rfl;exact h v List.mem_cons_self
     simp[this]
   . rfl
theorem rT{kindOf:Str->Option NameKind}{x:Str}:∀{binds:List (Str×Value)}{m:Str->Option Value},(∀v,(x,v)∉binds)->bindC kindOf binds m x=m x
 |[],_,_=>rfl
 |(n,v)::r,m,h=>by
   unfold bindC;rw[rT fun w hw=>h w (List.mem_cons_of_mem _ hw)];split
   . rfl
   . have:x≠n:=by rintro rfl;exact h v List.mem_cons_self
     simp[this]
theorem rS{kindOf:Str->Option NameKind}{x:Str}{v:Value}:∀{P:List Str}{vs:List Value}{i:Nat}{m:Str->Option Value},P.Nodup->P[i]?=some x->vs[i]?=some v->kindOf x=some .local ->bindL kindOf (P.zip vs) m x=some v
 |[],_,_,_,_,h,_,_=>by simp at h
 |_::_,[],_,_,_,_,h,_=>by simp at h
 |p::P,w::vs,0,m,nd,h1,h2,hk=>by
   simp at h1 h2;subst h1;subst h2;show bindL kindOf ((p,w)::P.zip vs) m p=_;unfold bindL;rw[rR fun v hv=>(List.nodup_cons.mp nd).1 (List.of_mem_zip hv).1,if_pos hk];simp
 |p::P,w::vs,i+1,m,nd,h1,h2,hk=>by
   show bindL kindOf ((p,w)::P.zip vs) m x=_;unfold bindL;exact rS (i:=i) (List.nodup_cons.mp nd).2 (by simpa using h1) (by simpa using h2) hk
theorem rV{kindOf:Str->Option NameKind}{x:Str}{v:Value}:∀{P:List Str}{vs:List Value}{i:Nat}{m:Str->Option Value},P.Nodup->P[i]?=some x->vs[i]?=some v->kindOf x≠some .local ->bindC kindOf (P.zip vs) m x=some v
 |[],_,_,_,_,h,_,_=>by simp at h
 |_::_,[],_,_,_,_,h,_=>by simp at h
 |p::P,w::vs,0,m,nd,h1,h2,hk=>by
   simp at h1 h2;subst h1;subst h2;show bindC kindOf ((p,w)::P.zip vs) m p=_;unfold bindC;rw[rT fun v hv=>(List.nodup_cons.mp nd).1 (List.of_mem_zip hv).1,if_neg hk];simp
 |p::P,w::vs,i+1,m,nd,h1,h2,hk=>by
   show bindC kindOf ((p,w)::P.zip vs) m x=_;unfold bindC;exact rV (i:=i) (List.nodup_cons.mp nd).2 (by simpa using h1) (by simpa using h2) hk
def kU(N:List Str)(vs:List V):St:=vs.map some++List.replicate (N.length - vs.length) none
def wO(CX:CXT)(P:Program)(w:World)(K:W.Frag)(mg:Str->Option Value)(base:Heap)(N:List Str)(qual:Str)(scope:Scope)(f:Addr)(cd:Value)(A:Around)(outer:List Env)(s:Shared)(H:Hp)(E:XK):Cx where
 prog:=P
 w:=w
 K:=K
 mg:=mg
 base:=base
 A:=A.deeper (envOfC qual scope s.heap.objs.size f cd)
 N:=N
 s₀:=s
 H₀:=H
 env:=envOfC qual scope s.heap.objs.size f cd
 outer:=outer
 stack:=envOfC qual scope s.heap.objs.size f cd::outer
 ex:=[]
 calm:=true
 fn:=fun _=>true
 pn:=[]
 xe:=fun e s'=>wpAny (model P w) (A.deeper (envOfC qual scope s.heap.objs.size f cd)) (leaving (envOfC qual scope s.heap.objs.size f cd) e) (fun _ s''=>CX outer H s E e s'') (fun e' s''=>CX outer H s E e' s'') s'
theorem vG{sc:Scope}{n:Nat}{x:Str}(h:sc.names.lookup x=some .cell):∃c,(cellsFrom n sc.names []).lookup x=some c:=by
 have q:=W.cellsFrom_some sc.names n [] (.inl h);exact Option.isSome_iff_exists.mp q
theorem zI{CX:CXT}{P:Program}{w:World}{K:W.Frag}{mg:Str->Option Value}{base:Heap}{N ps:List Str}{qual:Str}{scope:Scope}{f:Addr}{cd:Value}{A:Around}{outer:List Env}{s s1:Shared}{H:Hp}{E:XK}{us:List Value}{vs:List V}(S:aW N ps scope)(hd:A.handled=none)(e0:aAl P w K mg base A outer s H)(hl:vs.length=ps.length)(r:bO vs us)(x:InCallC s s.heap.objs.size (bindL (envOfC qual scope s.heap.objs.size f cd).kindOf (ps.zip us) fun _=>none) (cellsFrom (s.heap.objs.size+1) scope.names []) (bindC (envOfC qual scope s.heap.objs.size f cd).kindOf (ps.zip us) fun _=>none) s1): Inv (wO CX P w K mg base N qual scope f cd A outer s H E) [] (kU N vs) H s1:=by
 have hpl:ps.length <= N.length:=by have:=congrArg List.length S.pre;rw[List.length_take] at this;omega
 obtain⟨h1,tk,rfl,hk⟩:=x.done;have noA:∀b:Addr,b∉(wO CX P w K mg base N qual scope f cd A outer s H E).ex:=fun b z=>absurd (show b∈([]:List Addr) from z) (by simp);refine⟨⟨e0.mod,S.kind,rfl,rfl,Nat.le_refl _,fun y z c h1 h2=>?_,fun y hy=>?_,fun y c _ h=>?_,fun _=>hd,Around.frames_deeper e0.frames,.inr ⟨rfl,rfl⟩,fun b z=>absurd z (noA b),e0.bs,e0.bsz,fun b _ _=>noA b,fun b z=>absurd z (noA b),e0.funs,e0.frf⟩,rfl,e0.bare,Un.kept hk,⟨_,x.toInCall.ns,fun i y v h1 h2 h3=>?_⟩,fun y c h=>⟨_,x.cell y c h⟩,e0.hok.fresh (Nat.le_refl _),fun y c h=>?_,fun p hp=>absurd (show p∈([]:List (Addr×Obj)) from hp) (by simp),e0.hok.kept hk,?_⟩
 . exact name_of_addr x.apart (PySem.mem_of_lookup h1) (PySem.mem_of_lookup h2)
 . have hy:scope.names.lookup y=some .cell\/scope.names.lookup y=some .free:=hy;rcases hy with hy|hy
   . exact vG hy
   . exact absurd rfl (S.nofree _ (PySem.mem_of_lookup hy))
 . exact Nat.le_of_lt (x.above y c (PySem.mem_of_lookup h))
 . have hi:i<vs.length:=by
     unfold kU at h2;by_cases hi:i<vs.length
     . exact hi
     . rw[List.getElem?_append_right (by simpa using hi)] at h2;rw[List.getElem?_replicate] at h2;split at h2 <;> cases h2
   have ha:vs[i]?=some v:=by
     unfold kU at h2;rw[List.getElem?_append_left (by simpa using hi),List.getElem?_map] at h2;cases e:vs[i]? with
     |none=>rw[e] at h2;cases h2
     |some a=>rw[e] at h2;cases h2;rfl
   obtain⟨u,hu,rv⟩:=r.get ha;have hp:ps[i]?=some y:=by
     rw[<- S.pre,List.getElem?_take_of_lt (by omega)];exact h1
   have ndP:ps.Nodup:=by rw[<- S.pre];exact S.nd.sublist (List.take_sublist _ _)
   refine⟨u,rv,?_⟩;rcases S.par y (List.mem_of_getElem? hp) with k|k
   . exact .inl ⟨k,rS ndP hp hu k⟩
   . obtain⟨c,e⟩:=vG (n:=s.heap.objs.size+1) k;refine .inr ⟨.inl k,c,e,?_⟩;have q:=x.cell y c e;rw[rV ndP hp hu (by show scope.names.lookup y≠_;rw[k];decide)] at q;exact q
 . exact e0.hok.fresh (Nat.le_of_lt (x.above y c (PySem.mem_of_lookup h)))
 . unfold kU;show _=N.length;rw[List.length_append,List.length_map,List.length_replicate];omega
theorem aBr{CX:CXT}{P:Program}{w:World}{K:W.Frag}{mg:Str->Option Value}{base:Heap}{k:Nat}{f:Addr}{name qual:Str}{params:Arguments}{body:List Stmt}{scope:Scope}{dV kV doc pm cdv ct oc:Value}{an od:Option Addr}{osl:Array (Option Value)}{N ps:List Str}{sp:Sp}(lk:K.lookup f=some ⟨oc,od,.func (W.fnOf name qual params body scope dV kV doc pm an cdv ct),osl⟩)(hcd:W.codeIn K cdv qual=true)(S:aW N ps scope)(len:∀vs H Q E,sp vs H Q E->vs.length=ps.length)(hbody:∀(A:Around)(outer:List Env)(s:Shared)(H:Hp)(vs:List V)(Q:VK)(E:XK),eU k (A.deeper (envOfC qual scope s.heap.objs.size f cdv))->sp vs H Q E -> ∃t,PSs (wO CX P w K mg base N qual scope f cdv A outer s H E) body t/\t {nx:=fun _ H'=>Q .non H',rt:=Q} (kU N vs) H): gO P w K mg base CX (k+1) f (W.fnOf name qual params body scope dV kV doc pm an cdv ct) ps sp:=by
 refine⟨len,fun A outer s H args us vs Q E hr e0 hb r hsp=>?_⟩;have hl:=len _ _ _ _ hsp;have KX:K.In s.heap:=e0.mod.kin.keeps fun b o e=>(e0.bs b o e).1;have lim:s.heap.NoLimit:=e0.mod.nolimit.keeps fun b o e=>(e0.bs b o e).1;have hkind:∀y∈ps.zip us,scope.names.lookup y.1=some .local\/(scope.names.lookup y.1=some .cell/\((cellsFrom (s.heap.objs.size+1) scope.names []).lookup y.1).isSome=true):=fun⟨n,v⟩ hy=>by
   rcases S.par n (List.of_mem_zip hy).1 with q|q
   . exact .inl q
   . exact .inr ⟨q,W.cellsFrom_some _ _ _ (.inl q)⟩
 refine codeAny_call_function hr.depth (KX _ _ lk) rfl S.co S.gen rfl (W.codeRec_of KX hcd) (hb _ _ _ _ ?_);refine wpAny_newFunctionEnv_cells S.kind hkind fun env he s1 x=>?_;subst he;refine⟨lim.keeps x.toInCall.keep,codeAny_func ?_⟩;obtain⟨t,ht,hq⟩:=hbody A outer s H vs Q E (hr.deeper _) hsp;have I:Inv (wO CX P w K mg base N qual scope f cdv A outer s H E) [] (kU N vs) H s1:=zI S hr.hd e0 hl r x;refine wpAny_mono (ht [] s1 (kU N vs) H _ I hq) (fun fl s' hs=>?_) fun e s' hs=>hs;have fin:∀{σ':St}{H':Hp}{v:V}{u:Value},Inv (wO CX P w K mg base N qual scope f cdv A outer s H E) [] σ' H' s'->bY v u->Q v H'->CE outer P w H s Q u s':= fun {σ' H' v u} J rv q=>⟨v,H',J.os,J.bare,J.base,J.hok,rv,q⟩;cases fl with
 |ret u=>
   obtain⟨v,σ',H',J,rv,q⟩:=hs;exact fin J rv q
 |next=>
   obtain⟨σ',H',J,q⟩:=hs;exact fin (v:=V.non) (u:=Value.none) J rfl q
 |brk=>
   obtain⟨_,_,_,q⟩:=hs;exact False.elim q
 |cont=>
   obtain⟨_,_,_,q⟩:=hs;exact False.elim q
section
variable{X:Cx}{x:Str}{p pos:Pos}{e:Expr}{es:List Expr}{t:TA}{id T:String}{r:List V->Hp->VK->Prop}
def tCB(r:List V->Hp->VK->Prop)(t:TA):TE:=fun σ H Q=>t σ H fun vs H1=>r vs H1 Q
theorem aM(hc:iA X (.builtin id) r)(hg:Gl X x)(hm:X.mg x=none)(hv:bootBuiltins x=some (.builtin id))(ha:PA X (e::es) t)(hn:x≠"__name__":=by decide)(hdb:(x==("__debug__":Str))=false:=by decide)(he:starEach (e::es) X.env=(false,eval e X.env)::starEach es X.env:=by rfl)(hpl:(backTo pos (starEach es X.env)).any (·.1)=false:=by rfl):PE X (.Call (.Name x p) (e::es) [] pos) (tCB r t):=by
 intro pins s σ H Q I h;refine wpAny_Call_Name_kw (fT I hg hm hv ?_ hn hdb);exact PyProof.Rows.callWith_builtin1 (thn (ha pos pins s σ H _ I h) fun us s1 ⟨vs,H1,I1,r1,q1⟩=>hc pins s1 σ H1 vs us Q I1 r1 q1) he hpl
theorem cO(hc:iA X (.type T) r)(hg:Gl X x)(hm:X.mg x=none)(hv:bootBuiltins x=some (.type T))(ha:PA X (e::es) t)(hn:x≠"__name__":=by decide)(hdb:(x==("__debug__":Str))=false:=by decide)(he:starEach (e::es) X.env=(false,eval e X.env)::starEach es X.env:=by rfl)(hpl:(backTo pos (starEach es X.env)).any (·.1)=false:=by rfl):PE X (.Call (.Name x p) (e::es) [] pos) (tCB r t):=by
 intro pins s σ H Q I h;refine wpAny_Call_Name_kw (fT I hg hm hv ?_ hn hdb);exact PyProof.Rows.callWith_type1 (thn (ha pos pins s σ H _ I h) fun us s1 ⟨vs,H1,I1,r1,q1⟩=>hc pins s1 σ H1 vs us Q I1 r1 q1) he hpl
end
end L2
namespace HT
open PySem PyProof.Rows
theorem rcLt_int(A:Around)(s:Shared)(a:Int)(t:Tok)(c:Int)(u:Tok)(prog:Program)(w:World)(E:Value->Shared->Prop)(Q:Value->Shared->Prop)(h:Q (.bool (decide (a<c))) s): wpAny (model prog w) A (richCompare .Lt (.int a t) (.int c u)) Q E s:=(PyProof.Rows.lt_int h:wpAny (model prog w) A (compareOp .Lt (.int a t) (.int c u)) Q E s)
section
variable{prog:Program}{w:World}{A:Around}{E:Value->Shared->Prop}{s:Shared}
def sIx(n d:Nat):Option Int->Nat
 |none=>d
 |some v=>if v<0 then(v+(n:Int)).toNat else min v.toNat n
theorem sIx_none(n d:Nat):sIx n d none=d:=rfl
theorem sIx_nat(n d k:Nat):sIx n d (some (k:Int))=min k n:=by
 show(if(k:Int)<0 then((k:Int)+(n:Int)).toNat else min (k:Int).toNat n)=min k n;rw[if_neg (by omega),Int.toNat_natCast]
end
end HT
namespace L2
open PySem PySem.Spec PyProof.Rows
abbrev TO:=St->Hp->(Option Int->Hp->Prop)->Prop
def PO(X:Cx)(e:Option Expr)(t:TO):Prop:=
 ∀(pins:List (Addr×Obj))(s:Shared)(σ:St)(H:Hp)(Q:Option Int->Hp->Prop),Inv X pins σ H s->t σ H Q ->
   wpAny (model X.prog X.w) X.A (evalPart e X.env) (fun u s'=>∃o H',Inv X pins σ H' s'/\IsPart u o/\Q o H') X.xe s
def aCz:TO:=fun _ H Q=>Q none H
def aG6(t:TE):TO:=fun σ H Q=>t σ H fun x H1=>∃i,x=.int i/\Q (some i) H1
theorem nM{ns:List Int}:∀{us:List Value},bO (ns.map V.int) us->IntsAre us ns:=by
 induction ns with
 |nil=>intro us r;rw[List.map_nil] at r;cases r;exact .nil
 |cons n ns ih=>
   intro us r;rw[List.map_cons] at r;cases r with
   |cons r1 r2=>
     obtain⟨t,e⟩:=r1;subst e;exact .cons n t (ih r2)
section
variable{X:Cx}{e:Expr}{te:TE}{lo hi:Option Expr}{tl th:TO}{pos p2:Pos}
theorem yE:PO X none aCz:=by
 intro pins s σ H Q I h;rw[evalPart_none];exact wpAny_pure ⟨none,H,I,.none,h⟩
theorem oR(h:PE X e te):PO X (some e) (aG6 te):=by
 intro pins s σ H Q I hw;rw[evalPart_some];refine thn (h pins s σ H _ I hw) fun u s1 ⟨x,H1,I1,r1,q1⟩=>?_;obtain⟨i,rfl,q⟩:=q1;obtain⟨t,rfl⟩:=r1;exact⟨some i,H1,I1,.int i t,q⟩
def SlR(X:Cx)(r:V->Option Int->Option Int->Hp->VK->Prop):Prop:=
 ∀(pins:List (Addr×Obj))(s:Shared)(σ:St)(H:Hp)(x:V)(v vl vu:Value)(lo hi:Option Int)(sl:Addr)(Q:VK),Inv X pins σ H s->bY x v->s.heap.IsSliceOf sl vl vu .none->IsPart vl lo->IsPart vu hi->r x lo hi H Q ->
   ∃T id,typeLookup (.type T) "__getitem__"=pure (some (.builtin id))/\s.TypeIs v T/\wpAny (model X.prog X.w) X.A (getItem v (.ref sl)) (EP X pins σ Q) X.xe s
theorem SlR.or{r r':V->Option Int->Option Int->Hp->VK->Prop}(h:SlR X r)(h':SlR X r'):SlR X (fun x lo hi H Q=>r x lo hi H Q\/r' x lo hi H Q):=by
 intro pins s σ H x v vl vu lo hi sl Q I rx hs pl pu q;rcases q with q|q
 . exact h pins s σ H x v vl vu lo hi sl Q I rx hs pl pu q
 . exact h' pins s σ H x v vl vu lo hi sl Q I rx hs pl pu q
def tSl(r:V->Option Int->Option Int->Hp->VK->Prop)(te:TE)(tl th:TO):TE:=fun σ H Q=>te σ H fun x H1=>tl σ H1 fun l H2=>th σ H2 fun u H3=>r x l u H3 Q
theorem oU{r:V->Option Int->Option Int->Hp->VK->Prop}(hr:SlR X r)(he:PE X e te)(hl:PO X lo tl)(hu:PO X hi th):PE X (.Subscript e (.Slice lo hi none p2) pos) (tSl r te tl th):=by
 intro pins s σ H Q I h;refine Subscript_ (thn (he pins s σ H _ I h) fun v s1 ⟨x,H1,I1,r1,q1⟩=>?_);refine wpAny_Slice (thn (hl pins s1 σ H1 _ I1 q1) fun vl s2 ⟨l,H2,I2,pl,q2⟩=>thn (hu pins s2 σ H2 _ I2 q2) fun vu s3 ⟨u,H3,I3,pu,q3⟩=>?_);rw[evalPart_none];refine wpAny_pure ?_;have I4:Inv X pins σ H3 {s3 with heap:=s3.heap.push {cls:=.type "slice", data:=.fields #[vl,vu,.none]}}:=I3.kept (t':=s3.toks) fun b ob q=>Heap.get?_push_of_some _ q;obtain⟨T,id,hT,ht,hg⟩:=hr pins {s3 with heap:=s3.heap.push {cls:=.type "slice", data:=.fields #[vl,vu,.none]}} σ H3 x v vl vu l u s3.heap.objs.size Q I4 r1 (Heap.IsSliceOf.new ..) pl pu q3;show wpAny (model X.prog X.w) X.A (subscriptTail e (.Slice lo hi none p2) v (.ref s3.heap.objs.size)) (EP X pins σ Q) X.xe {s3 with heap:=s3.heap.push {cls:=.type "slice", data:=.fields #[vl,vu,.none]}};exact tail_any (ops:=[.ref s3.heap.objs.size,v]) ht hT hg (by with_unfolding_all rfl)
def wP(xs:List V)(lo hi:Option Int):List V:=(xs.drop (HT.sIx xs.length 0 lo)).take (HT.sIx xs.length xs.length hi - HT.sIx xs.length 0 lo)
theorem tL(xs:List V)(lo hi:Option Int):(wP xs lo hi).length <= xs.length:=by
 unfold wP;rw[List.length_take,List.length_drop];omega
end
def ixN(n:Nat)(i:Int):Option Nat:=if 0 <= i then(if i<n then some i.toNat else none) else if -(n:Int) <= i then some (i+n).toNat else none
def atI{α:Type}(xs:List α)(i:Int):Option α:=(ixN xs.length i).bind fun j=>xs[j]?
theorem zF{n:Nat}{i:Int}{j:Nat}(h:ixN n i=some j):seqIndex? i n=some j/\j<n/\-(n:Int) <= i/\i<n:=by
 unfold ixN at h;by_cases h0:0 <= i
 . rw[if_pos h0] at h;by_cases h1:i<n
   . rw[if_pos h1] at h;have e:i.toNat=j:=Option.some.inj h;exact⟨by rw[seqIndex_of h0 h1,e],by omega,by omega,h1⟩
   . rw[if_neg h1] at h;cases h
 . rw[if_neg h0] at h;by_cases h1:-(n:Int) <= i
   . rw[if_pos h1] at h;have e:(i+n).toNat=j:=Option.some.inj h;exact⟨by rw[seqIndex_neg (by omega) h1,e],by omega,h1,by omega⟩
   . rw[if_neg h1] at h;cases h
theorem tP{α:Type}{xs:List α}{i:Int}{v:α}(h:atI xs i=some v):∃j,seqIndex? i xs.length=some j/\xs[j]?=some v/\j<xs.length/\-(xs.length:Int) <= i/\i<xs.length:=by
 unfold atI at h;cases e:ixN xs.length i with
 |none=>rw[e] at h;cases h
 |some j=>
   rw[e] at h;obtain⟨h1,h2,h3,h4⟩:=zF e;exact⟨j,h1,h,h2,h3,h4⟩
theorem dA{α:Type}{xs:List α}{j:Nat}{v:α}(h:xs[j]?=some v):atI xs (j:Int)=some v:=by
 have hj:j<xs.length:=(List.getElem?_eq_some_iff.mp h).1;have e:ixN xs.length (j:Int)=some j:=by
   unfold ixN;rw[if_pos (by omega),if_pos (by omega)];simp
 unfold atI;rw[e];exact h
def aEb(b:Expr):Prop:=∀o i,subscripted b false o i=operate [o,i] (getItem o i)
def IxR(X:Cx)(r:R2):Prop:=
 ∀(value slice:Expr)(pins:List (Addr×Obj))(s:Shared)(σ:St)(H:Hp)(x y:V)(v u:Value)(Q:VK),Inv X pins σ H s->bY x v->bY y u->r x y H Q ->
   subscripted slice false v u=operate [v,u] (getItem v u)->wpAny (model X.prog X.w) X.A (subscriptTail value slice v u) (EP X pins σ Q) X.xe s
def MtR(X:Cx)(id:String)(r:V->List V->Hp->VK->Prop):Prop:=
 ∀(pins:List (Addr×Obj))(s:Shared)(σ:St)(H:Hp)(x:V)(xs:List V)(v:Value)(us:List Value)(Q:VK),Inv X pins σ H s->bY x v->bO xs us->r x xs H Q ->
   wpAny (model X.prog X.w) X.A (call (.builtin id) (v::us)) (EP X pins σ Q) X.xe s
section
variable{X:Cx}{a b:Expr}{ta tb:TE}{pos:Pos}
theorem IxR.or{r r':R2}(h:IxR X r)(h':IxR X r'):IxR X (fun x y H Q=>r x y H Q\/r' x y H Q):=by
 intro value slice pins s σ H x y v u Q I rx ry q hs;rcases q with q|q
 . exact h value slice pins s σ H x y v u Q I rx ry q hs
 . exact h' value slice pins s σ H x y v u Q I rx ry q hs
theorem MtR.or{id:String}{r r':V->List V->Hp->VK->Prop}(h:MtR X id r)(h':MtR X id r'):MtR X id (fun x xs H Q=>r x xs H Q\/r' x xs H Q):=by
 intro pins s σ H x xs v us Q I rx rs q;rcases q with q|q
 . exact h pins s σ H x xs v us Q I rx rs q
 . exact h' pins s σ H x xs v us Q I rx rs q
theorem aR{r:R2}(hr:IxR X r)(ha:PE X a ta)(hb:PE X b tb)(hs:aEb b):PE X (.Subscript a b pos) (tOp r ta tb):=by
 intro pins s σ H Q I h;exact Subscript_ (aGw ha hb I h fun v u s2 x y H2 I2 rx ry q=>hr a b pins s2 σ H2 x y v u Q I2 rx ry q (hs _ _))
def aHa(K:W.Frag):R2:=fun x y H Q=>∃p xs i v,x=.ref p/\y=.int i/\SqL K H p xs/\atI xs i=some v/\Q v H
def aHx(K:W.Frag):R2:=fun x y H Q=>∃p xs i v,x=.ref p/\y=.int i/\SqT K H p xs/\atI xs i=some v/\Q v H
theorem aQ:IxR X (aHa X.K):=by
 intro value slice pins s σ H x y v u Q I rx ry h hs;obtain⟨p,xs,i,z,rfl,rfl,hq,he,q⟩:=h;cases rx;obtain⟨t,rfl⟩:=ry;obtain⟨its,r,pl,hz⟩:=I.list hq;obtain⟨j,h1,h2,h3,h4,h5⟩:=tP he;obtain⟨w,ew,rw'⟩:=r.get h2;have hl:=r.length;have hn:=nL;have fin:EP X pins σ Q w s:=⟨z,H,I,rw',q⟩;by_cases h0:0 <= i
 . have hj:i.toNat=j:=by
     rw[seqIndex_of h0 h5] at h1;exact Option.some.inj h1
   exact item_listR pl.isList h0 (by omega) (by rw[hj];simpa using ew) fin hs
 . have hj:(i+(its.toArray.size:Int)).toNat=j:=by
     rw[seqIndex_neg (by omega) h4] at h1;rw[List.size_toArray,<- hl];exact Option.some.inj h1
   exact subscriptTail_builtinR (x:=w) pl.isList.typeIs slot_list_getitem.lookup (wpAny_getItem_list_neg (Q:=fun r s'=>r=w/\EP X pins σ Q r s') pl.isList (by omega) (by rw[List.size_toArray] <;> omega) (by omega) (by rw[hj];simpa using ew) ⟨rfl,fin⟩) hs
theorem aZ:IxR X (aHx X.K):=by
 intro value slice pins s σ H x y v u Q I rx ry h hs;obtain⟨p,xs,i,z,rfl,rfl,hq,he,q⟩:=h;cases rx;obtain⟨t,rfl⟩:=ry;obtain⟨its,r,pl,hz⟩:=I.tuple hq;obtain⟨j,h1,h2,h3,h4,h5⟩:=tP he;obtain⟨w,ew,rw'⟩:=r.get h2;have hl:=r.length;have hn:=nL;have fin:EP X pins σ Q w s:=⟨z,H,I,rw',q⟩;exact subscriptTail_builtinR (x:=w) pl.typeIs slot_tuple_getitem.lookup (getItem_tuple (j:=j) (Q:=fun r s'=>r=w/\EP X pins σ Q r s') pl (by omega) (by omega) (by rw[List.size_toArray,<- hl];exact h1) (by simpa using ew) ⟨rfl,fin⟩) hs
theorem wB(its:List Value)(n j:Nat)(u:Value):Obj.mapSeq (·.setIfInBounds j u) {cls:=.type "list", data:=.seq its.toArray n}={cls:=.type "list", data:=.seq (its.set j u).toArray n}:=by
 simp[Obj.mapSeq]
theorem Inv.lst{pins:List (Addr×Obj)}{σ:St}{H:Hp}{s:Shared}{p:Addr}{xs:List V}(I:Inv X pins σ H s)(h:H p=some (.lst xs)): ∃(its:List Value)(n:Nat),bO xs its/\s.heap.get? p=some {cls:=.type "list", data:=.seq its.toArray n}/\xs.length <= sizeLine:=by
 obtain⟨z,its,n,r,e⟩:=I.hok p _ h;exact⟨its,n,r,e,z⟩
theorem Inv.lstUpd{pins:List (Addr×Obj)}{σ:St}{H:Hp}{s:Shared}{p:Addr}{xs ys:List V}{its its':List Value}{n n':Nat}{f:Obj->Obj}(I:Inv X pins σ H s)(h:H p=some (.lst xs))(ho:s.heap.get? p=some {cls:=.type "list", data:=.seq its.toArray n})(hf:f {cls:=.type "list", data:=.seq its.toArray n}={cls:=.type "list", data:=.seq its'.toArray n'})(r:bO ys its')(hz:ys.length <= sizeLine)(t:Nat): Inv X pins σ (upd H p (.lst ys)) {s with heap:=s.heap.update p f,toks:=t}:=by
 have e:(s.heap.update p f).get? p=some {cls:=.type "list", data:=.seq its'.toArray n'}:=by
   rw[Heap.get?_update_self f ho (by rw[hf] <;> rfl),hf]
 refine I.write (x:=p) (e:=p) (by rw[h];trivial) (.inl rfl) (fun b u hb q=>(Heap.get?_update_other _ _ (Ne.symm hb)).trans q) ⟨_,e⟩ ?_;exact⟨hz,its',n',r,e⟩
def aGj:V->V->V->Hp->(Hp->Prop)->Prop:=fun o i v H Q=>∃p xs k j,o=.ref p/\i=.int k/\H p=some (.lst xs)/\ixN xs.length k=some j/\Q (upd H p (.lst (xs.set j v)))
theorem eV:aH0 X aGj:=by
 intro pins s σ H o i v ov iv u Q I ro ri rv h;obtain⟨p,xs,k,j,rfl,rfl,hp,hj,q⟩:=h;cases ro;obtain⟨t,rfl⟩:=ri;obtain⟨its,n,r,ho,hz⟩:=I.lst hp;obtain⟨h1,h2,h3,h4⟩:=zF hj;have hl:=r.length;have hn:=nL;have I':Inv X pins σ (upd H p (.lst (xs.set j v))) {s with heap:=s.heap.update p (Obj.mapSeq (·.setIfInBounds j u))}:= I.lstUpd hp ho (wB its n j u) (r.set rv j) (by rw[List.length_set];exact hz) s.toks;by_cases h0:0 <= k
 . have hk:k.toNat=j:=by
     rw[seqIndex_of h0 h4] at h1;exact Option.some.inj h1
   exact W.ki_setAt ho h0 (by omega) (by rw[List.size_toArray,<- hl];exact h4) (by rw[hk];exact⟨_,I',q⟩)
 . have hk:(k+(its.toArray.size:Int)).toNat=j:=by
     rw[seqIndex_neg (by omega) h3] at h1;rw[List.size_toArray,<- hl];exact Option.some.inj h1
   exact W.ki_setBack ho (by omega) (by rw[List.size_toArray,<- hl];exact h3) (by omega) (by rw[hk];exact⟨_,I',q⟩)
theorem qH(lo hi:Option Int)(n:Nat):(sliceBounds lo hi none n).1=((HT.sIx n 0 lo:Nat):Int)/\(sliceBounds lo hi none n).2.1=((HT.sIx n n hi:Nat):Int)/\(sliceBounds lo hi none n).2.2=1:=by
 refine⟨?_,?_,rfl⟩
 . cases lo with
   |none=>simp[sliceBounds,HT.sIx]
   |some i=>
     simp only[sliceBounds,HT.sIx,Option.getD_none,show(1:Int) > 0 by decide,if_true];by_cases h:i<0
     . simp only[h,if_true] <;> omega
     . simp only[h,if_false] <;> omega
 . cases hi with
   |none=>simp[sliceBounds,HT.sIx]
   |some i=>
     simp only[sliceBounds,HT.sIx,Option.getD_none,show(1:Int) > 0 by decide,if_true];by_cases h:i<0
     . simp only[h,if_true] <;> omega
     . simp only[h,if_false] <;> omega
theorem oA(its:List Value)(lo hi:Option Int):slicePick its.toArray lo hi none=((its.drop (HT.sIx its.length 0 lo)).take (HT.sIx its.length its.length hi - HT.sIx its.length 0 lo)).toArray:=by
 obtain⟨h1,h2,h3⟩:=qH lo hi its.toArray.size;unfold slicePick;rw[h1,h2,h3];simp only[sliceRange_one,pick_run,List.size_toArray] <;> rfl
def aHu(K:W.Frag):V->Option Int->Option Int->Hp->VK->Prop:=fun x lo hi H Q=>∃a xs,x=.ref a/\SqL K H a xs/\∀p,H p=none->Q (.ref p) (upd H p (.lst (wP xs lo hi)))
theorem sD:SlR X (aHu X.K):=by
 intro pins s σ H x v vl vu lo hi sl Q I rx hs pl pu h;obtain⟨a,xs,rfl,hx,q⟩:=h;cases rx;obtain⟨its,r,ht,hz⟩:=I.list hx;have hlen:=r.length;refine⟨"list", _,slot_list_getitem.lookup,ht.isList.typeIs,?_⟩;refine wpAny_getItem_list_slice ht.isList hs pl pu .none (by simp) ?_ (by rw[List.size_toArray] <;> omega);rw[oA,<- hlen];refine⟨.ref s.heap.objs.size,_,I.laid (t':=s.toks) (o:=.lst (wP xs lo hi)) (fun b ob q=>Heap.get?_push_of_some _ q) (Nat.le_refl _) ?_,rfl,q _ (I.hok.fresh (Nat.le_refl _))⟩;exact⟨Nat.le_trans (tL xs lo hi) hz,_,0,(r.drop (HT.sIx xs.length 0 lo)).take (HT.sIx xs.length xs.length hi - HT.sIx xs.length 0 lo),Heap.get?_push_size _ rfl⟩
def pN:V->Bool
 |.non=>true
 |.bl _=>true
 |.int _=>true
 |.str _=>true
 |_=>false
def eqV:V->V->Bool
 |.non,.non=>true
 |.bl a,.bl b=>a==b
 |.bl a,.int b=>(if a then 1 else 0)==b
 |.int a,.bl b=>a==(if b then 1 else 0)
 |.int a,.int b=>a==b
 |.str a,.str b=>a==b
 |_,_=>false
theorem aFj{A:Around}{s:Shared}{y x:V}{u v:Value}(ry:bY y u)(rx:bY x v)(fy:pN y=true)(fx:pN x=true):SeqAt.EqAt A s u v (eqV y x):=by
 cases y with
 |non=>
   cases ry;cases x with
   |non=>cases rx;exact SeqAt.EqAt.same _
   |bl b=>cases rx;exact SeqAt.EqAt.none_bool b
   |int b=>obtain⟨t,rfl⟩:=rx;exact SeqAt.EqAt.none_int b t
   |str b=>obtain⟨t,rfl⟩:=rx;exact SeqAt.EqAt.none_str b t
   |_=>exact absurd (show false=true from fx) Bool.false_ne_true
 |bl a=>
   cases ry;cases x with
   |non=>cases rx;exact SeqAt.EqAt.bool_none a
   |bl b=>cases rx;exact SeqAt.EqAt.bool_bool a b
   |int b=>obtain⟨t,rfl⟩:=rx;exact SeqAt.EqAt.bool_int a b t
   |str b=>obtain⟨t,rfl⟩:=rx;exact SeqAt.EqAt.bool_str a b t
   |_=>exact absurd (show false=true from fx) Bool.false_ne_true
 |int a=>
   obtain⟨t',rfl⟩:=ry;cases x with
   |non=>cases rx;exact SeqAt.EqAt.int_none a t'
   |bl b=>cases rx;exact SeqAt.EqAt.int_bool a t' b
   |int b=>obtain⟨t,rfl⟩:=rx;exact SeqAt.EqAt.int_int a t' b t
   |str b=>obtain⟨t,rfl⟩:=rx;exact SeqAt.EqAt.int_str a t' b t
   |_=>exact absurd (show false=true from fx) Bool.false_ne_true
 |str a=>
   obtain⟨t',rfl⟩:=ry;cases x with
   |non=>cases rx;exact SeqAt.EqAt.str_none a t'
   |bl b=>cases rx;exact SeqAt.EqAt.str_bool a t' b
   |int b=>obtain⟨t,rfl⟩:=rx;exact SeqAt.EqAt.str_int a t' b t
   |str b=>obtain⟨t,rfl⟩:=rx;exact SeqAt.EqAt.str_str a t' b t
   |_=>exact absurd (show false=true from fx) Bool.false_ne_true
 |_=>exact absurd (show false=true from fy) Bool.false_ne_true
def eqU(x:V)(u:Value):Bool:=match u with
 |.none=>eqV .non x
 |.bool b=>eqV (.bl b) x
 |.int i _=>eqV (.int i) x
 |.str z _=>eqV (.str z) x
 |_=>false
theorem aCl{x y:V}{u:Value}(r:bY y u)(f:pN y=true):eqU x u=eqV y x:=by
 cases y with
 |non=>cases r;rfl
 |bl b=>cases r;rfl
 |int i=>obtain⟨t,rfl⟩:=r;rfl
 |str z=>obtain⟨t,rfl⟩:=r;rfl
 |_=>exact absurd (show false=true from f) Bool.false_ne_true
theorem tQ{x:V}:∀{xs:List V}{us:List Value},bO xs us->xs.all pN=true->us.any (eqU x)=xs.any fun y=>eqV y x
 |_,_,.nil,_=>rfl
 |y::xs,u::us,.cons r t,f=>by
   rw[List.all_cons,Bool.and_eq_true] at f;rw[List.any_cons,List.any_cons,aCl r f.1,tQ t f.2]
theorem pK{A:Around}{s:Shared}{x:V}{v:Value}(rx:bY x v)(fx:pN x=true):∀{xs:List V}{us:List Value},bO xs us->xs.all pN=true->∀u∈us,SeqAt.EqAt A s u v (eqU x u)
 |_,_,.nil,_=>fun u hu=>by cases hu
 |y::xs,u::us,.cons r t,f=>fun u' hu=>by
   rw[List.all_cons,Bool.and_eq_true] at f;rcases List.mem_cons.mp hu with rfl|hu
   . rw[aCl r f.1];exact aFj r rx f.1 fx
   . exact pK rx fx t f.2 u' hu
def inV(x:V)(xs:List V):Bool:=xs.any fun y=>eqV y x
def rIn(K:W.Frag)(neg:Bool):R2:=fun x y H Q=>∃p xs,y=.ref p/\(SqL K H p xs\/SqT K H p xs)/\pN x=true/\xs.all pN=true/\Q (.bl (if neg then !inV x xs else inV x xs)) H
theorem gY:OpR X (compareOp .NotIn) (rIn X.K true):=by
 intro pins s σ H x y v u Q I rx ry h;obtain⟨p,xs,rfl,hq,fx,fs,q⟩:=h;cases ry;rcases hq with hq|hq
 . obtain⟨its,r,pl,hz⟩:=I.list hq;refine SeqAt.notIn_listAt (eqU x) pl.isList (fun w hw=>pK rx fx r fs w (by simpa using hw)) ⟨.bl _,H,I,rfl,?_⟩;rw[show its.toArray.any (eqU x)=its.any (eqU x) by simp,tQ r fs];exact q
 . obtain⟨its,r,pl,hz⟩:=I.tuple hq;refine SeqAt.notIn_tupleAt (eqU x) pl (fun w hw=>pK rx fx r fs w (by simpa using hw)) ⟨.bl _,H,I,rfl,?_⟩;rw[show its.toArray.any (eqU x)=its.any (eqU x) by simp,tQ r fs];exact q
theorem aO:iA X (.builtin "len") (fun xs H Q=>∃p ys,xs=[.ref p]/\(SqL X.K H p ys\/SqT X.K H p ys)/\Q (.int ys.length) H):=by
 intro pins s σ H xs us Q I r h;obtain⟨p,ys,rfl,hq,q⟩:=h;obtain⟨u,rfl,rx⟩:=nW r;cases rx;have hn:=nL;rcases hq with hq|hq
 . obtain⟨its,r',pl,hz⟩:=I.list hq;have hlen:=r'.length;exact Calls.call_len_list pl.isList (by simp only[List.size_toArray] <;> omega) ⟨.int ys.length,H,I.tok _,⟨s.toks+1,by rw[List.size_toArray,hlen]⟩,q⟩
 . obtain⟨its,r',pl,hz⟩:=I.tuple hq;have hlen:=r'.length;exact len_tuple pl (by simp only[List.size_toArray] <;> omega) ⟨.int ys.length,H,I.tok _,⟨s.toks+1,by rw[List.size_toArray,hlen]⟩,q⟩
theorem iA.or{f:Value}{r r':List V->Hp->VK->Prop}(h:iA X f r)(h':iA X f r'):iA X f (fun xs H Q=>r xs H Q\/r' xs H Q):=by
 intro pins s σ H xs us Q I rs q;rcases q with q|q
 . exact h pins s σ H xs us Q I rs q
 . exact h' pins s σ H xs us Q I rs q
theorem cS:iA X (.type "list") (fun xs H Q=>∃p ys,xs=[.ref p]/\(SqL X.K H p ys\/SqT X.K H p ys)/\∀l,H l=none->Q (.ref l) (upd H l (.lst ys))):=by
 intro pins s σ H xs us Q I r h;obtain⟨p,ys,rfl,hq,q⟩:=h;obtain⟨u,rfl,rx⟩:=nW r;cases rx;have fin:∀(its:List Value),bO ys its->ys.length <= sizeLine->∀(h':Heap)(c':Nat),(∀b o',s.heap.get? b=some o'->h'.get? b=some o') ->h'.get? s.heap.objs.size=some {cls:=.type "list", dict:=none,data:=.seq its.toArray c',slots:=#[]}->EP X pins σ Q (.ref s.heap.objs.size) {s with heap:=h'}:=fun its r' hz h' c' kp e=>
   ⟨.ref s.heap.objs.size,_,I.laid (t':=s.toks) kp (Nat.le_refl _) (show bZ X.prog X.w _ h' _ (.lst ys) from⟨hz,its,c',r',e⟩),rfl,q _ (I.hok.fresh (Nat.le_refl _))⟩
 rcases hq with hq|hq
 . obtain⟨its,r',pl,hz⟩:=I.list hq;have hlen:=r'.length;obtain⟨o,ho,hc,n,hd⟩:=pl.isList;exact call_list_seq p (.inl rfl) ho hc hd (fun h' c' kp e=>fin its r' hz h' c' kp e) (by simp only[List.size_toArray] <;> omega)
 . obtain⟨its,r',pl,hz⟩:=I.tuple hq;have hlen:=r'.length;obtain⟨o,ho,hc,n,hd⟩:=pl;exact call_list_seq p (.inr rfl) ho hc hd (fun h' c' kp e=>fin its r' hz h' c' kp e) (by simp only[List.size_toArray] <;> omega)
def tyV(K:W.Frag)(T:String)(x:V)(H:Hp):Prop:=match x with
 |.str _=>T = "str"
 |.int _=>T = "int"
 |.ref p=>(T = "list"/\∃xs,SqL K H p xs)\/(T = "tuple"/\∃o,K.lookup p=some o/\o.cls=.type "tuple"/\o.dict=none) \/
     (T = "dict"/\((∃kvs,H p=some (.dK kvs))\/∃kvs,H p=some (.dT kvs)))\/(T = "set"/\∃S n,H p=some (.set S n))
 |_=>False
theorem aC3{pins:List (Addr×Obj)}{σ:St}{H:Hp}{s:Shared}{T:String}{x:V}{v:Value}(I:Inv X pins σ H s)(r:bY x v)(ty:tyV X.K T x H): s.TypeIs v T/\∀a,v=.ref a->∃ob,s.heap.get? a=some ob/\ob.dict=none:=by
 cases x with
 |str z=>
   obtain⟨t,rfl⟩:=r;cases (show T = "str" from ty);exact⟨typeIs_str s z t,fun _ e=>nomatch e⟩
 |int i=>
   obtain⟨t,rfl⟩:=r;cases (show T = "int" from ty);exact⟨typeIs_int s i t,fun _ e=>nomatch e⟩
 |ref p=>
   cases r;rcases ty with⟨rfl,xs,hq⟩|⟨rfl,o,hk,hc,hd⟩|⟨rfl,hk⟩|⟨rfl,S,n,hk⟩
   . obtain⟨its,_,pl,_⟩:=I.list hq;refine⟨pl.isList.typeIs,fun a e=>?_⟩;cases e;obtain⟨o,n,e,c,hd,_⟩:=pl;exact⟨o,e,hd⟩
   . refine⟨⟨o,I.kIn p o hk,hc⟩,fun a e=>?_⟩;cases e;exact⟨o,I.kIn _ o hk,hd⟩
   . have z:∃o,s.heap.get? p=some o/\o.ExactDict:=by
       rcases hk with⟨kvs,hk⟩|⟨kvs,hk⟩
       . obtain⟨_,_,_,_,o,_,_,e,ex,_⟩:=I.hok p _ hk;exact⟨o,e,ex⟩
       . obtain⟨_,_,_,_,o,_,_,e,ex,_⟩:=I.hok p _ hk;exact⟨o,e,ex⟩
     obtain⟨o,e,ex⟩:=z;refine⟨⟨o,e,ex.1⟩,fun a e2=>?_⟩;cases e2;exact⟨o,e,ex.2.1⟩
   . obtain⟨o,_,_,_,e,ex,_⟩:=I.hok p _ hk;refine⟨⟨o,e,ex.1⟩,fun a e2=>?_⟩;cases e2;exact⟨o,e,ex.2.1⟩
 |_=>exact False.elim ty
def aHs(K:W.Frag)(T:String)(r:V->List V->Hp->VK->Prop)(to:TE):TE:=fun σ H Q=>to σ H fun x H1=>tyV K T x H1/\r x [] H1 Q
def tBM(K:W.Frag)(T:String)(r:V->List V->Hp->VK->Prop)(to:TE)(t:TA):TE:=fun σ H Q=>to σ H fun x H1=>tyV K T x H1/\t σ H1 fun xs H2=>r x xs H2 Q
variable{o e:Expr}{es:List Expr}{to:TE}{t:TA}{name:Str}{apos cpos:Pos}{T id:String}{r:V->List V->Hp->VK->Prop}
theorem aCe(pa:PlainAttrs T)(slot:Slot T name id)(hty:typeOf (.builtin id)=pure (.type "method_descriptor"))(hm:MtR X id r)(ho:PE X o to)(hbase:attributeBase o name X.env (eval o X.env)=eval o X.env:=by rfl)(hline:(apos.endLine==cpos.line)=true:=by rfl):PE X (.Call (.Attribute o name apos) [] [] cpos) (aHs X.K T r to):=by
 intro pins s σ H Q I h;refine wpAny_Call_method0_late hbase hline (thn (ho pins s σ H _ I h) fun v s1 ⟨x,H1,I1,r1,ty,q1⟩=>?_);obtain⟨h1,h2⟩:=aC3 I1 r1 ty;exact⟨T,id,pa,slot,hty,h1,h2,Calls.callWith_builtin rfl (PySem.evalArgs_none (hm pins s1 σ H1 x [] v [] Q I1 r1 .nil q1))⟩
theorem gX(pa:PlainAttrs T)(slot:Slot T name id)(hty:typeOf (.builtin id)=pure (.type "method_descriptor"))(hm:MtR X id r)(ho:PE X o to)(ha:PA X (e::es) t)(hbase:attributeBase o name X.env (eval o X.env)=eval o X.env:=by rfl)(hfew:((backTo cpos (starEach (e::es) X.env)).all (fun x=>!x.1) && (backToKw cpos (keywordEach [] X.env)).all (fun x=>x.1.isSome) && decide ((e::es).length+([]:List Keyword).length+(if([]:List Keyword).isEmpty then 0 else 1)<30))=true:=by rfl)(hline:(apos.endLine==cpos.line)=true:=by rfl)(hs:starEach (e::es) X.env=(false,eval e X.env)::starEach es X.env:=by rfl)(hplain:(backTo cpos (starEach es X.env)).any (·.1)=false:=by rfl): PE X (.Call (.Attribute o name apos) (e::es) [] cpos) (tBM X.K T r to t):=by
 intro pins s σ H Q I h;refine wpAny_Call_method_late hbase hfew hline rfl (thn (ho pins s σ H _ I h) fun v s1 ⟨x,H1,I1,r1,ty,q1⟩=>?_);obtain⟨h1,h2⟩:=aC3 I1 r1 ty;refine⟨T,id,pa,slot,hty,h1,h2,?_⟩;have hA:=ha cpos pins s1 σ H1 _ I1 q1;rw[hs] at hA ⊢;refine Calls.callWith_builtin (by show(false || (backTo cpos (starEach es X.env)).any (·.1))=false;rw[hplain] <;> rfl) (Calls.evalArgs_plain ?_);exact thn hA fun us s2 ⟨vs,H2,I2,r2,q2⟩=>hm pins s2 σ H2 x vs v us Q I2 r1 r2 q2
end
def MtM(X:Cx)(id:String)(r:V->List V->Hp->VK->Prop):Prop:=
 ∀(pins:List (Addr×Obj))(s:Shared)(σ:St)(H:Hp)(x:V)(xs:List V)(v:Value)(us:List Value)(Q:VK),Inv X pins σ H s->bY x v->bO xs us->r x xs H Q ->
   wpAny (model X.prog X.w) X.A (call (.builtin id) (v::us)) (EP X pins σ Q) X.xe s
theorem bO.one:∀{x:V}{us:List Value},bO [x] us->∃u,us=[u]/\bY x u
 |_,_,.cons r .nil=>⟨_,rfl,r⟩
theorem bO.two:∀{x y:V}{us:List Value},bO [x,y] us->∃u v,us=[u,v]/\bY x u/\bY y v
 |_,_,_,.cons r (.cons q .nil)=>⟨_,_,rfl,r,q⟩
theorem bO.zero:∀{us:List Value},bO [] us->us=[]
 |_,.nil=>rfl
theorem bO.dropLast{xs:List V}{us:List Value}(h:bO xs us):bO xs.dropLast us.dropLast:=by
 induction h with
 |nil=>exact .nil
 |cons r t ih=>
   cases t with
   |nil=>exact .nil
   |cons q t'=>exact .cons r ih
theorem bO.eraseIdx:∀{xs:List V}{us:List Value}(i:Nat),bO xs us->bO (xs.eraseIdx i) (us.eraseIdx i)
 |_,_,_,.nil=>.nil
 |_,_,0,.cons _ t=>t
 |_,_,i+1,.cons r t=>.cons r (bO.eraseIdx i t)
theorem bO.reverse{xs:List V}{us:List Value}(h:bO xs us):bO xs.reverse us.reverse:=by
 induction h with
 |nil=>exact .nil
 |cons r t ih=>rw[List.reverse_cons,List.reverse_cons];exact bO.append ih (.cons r .nil)
theorem bO.rep{xs:List V}{us:List Value}(h:bO xs us):∀k:Nat,bO (List.replicate k xs).flatten (List.replicate k us).flatten
 |0=>.nil
 |k+1=>by
   rw[List.replicate_succ,List.replicate_succ,List.flatten_cons,List.flatten_cons];exact bO.append h (bO.rep h k)
theorem wK{α:Type}(l:List α):l.eraseIdx (l.length - 1)=l.dropLast:=by
 induction l with
 |nil=>rfl
 |cons a r ih=>
   cases r with
   |nil=>rfl
   |cons b r=>
     have e:(a::b::r).length - 1=((b::r).length - 1)+1:=by
       have h1:(a::b::r).length=r.length+2:=rfl;have h2:(b::r).length=r.length+1:=rfl;omega
     rw[e,List.eraseIdx_cons_succ,ih]
     all_goals rfl
theorem qV{α:Type}:∀(l:List α)(i:Nat),(l.eraseIdx i).length <= l.length
 |[],_=>Nat.le_refl _
 |_::_,0=>Nat.le_succ _
 |_::r,i+1=>Nat.succ_le_succ (qV r i)
theorem rD(its:List Value):∀(k:Nat)(acc:List Value),List.foldl (fun x1 x2=>x1++x2) acc.toArray (List.replicate k its.toArray)=(acc++(List.replicate k its).flatten).toArray
 |0,acc=>by simp
 |k+1,acc=>by
   have e:acc.toArray++its.toArray=(acc++its).toArray:=by simp
   have e2:(acc++its)++(List.replicate k its).flatten=acc++(List.replicate (k+1) its).flatten:=by
     rw[List.replicate_succ,List.flatten_cons,List.append_assoc]
   rw[<- e2,<- rD its k (acc++its),<- e,List.replicate_succ,List.foldl_cons]
section
variable{X:Cx}{pins:List (Addr×Obj)}{σ:St}{H:Hp}{s:Shared}{l b:Addr}{xs ys zs:List V}
theorem Inv.lset{its its':List Value}{n:Nat}{f:Array Value->Array Value}{t':Nat}(I:Inv X pins σ H s)(hH:H l=some (.lst xs))(e:s.heap.get? l=some {cls:=.type "list", data:=.seq its.toArray n})(hf:f its.toArray=its'.toArray)(hv:bO ys its')(hz:ys.length <= sizeLine): Inv X pins σ (upd H l (.lst ys)) {s with heap:=s.heap.update l (Obj.mapSeq f),toks:=t'}:=by
 have q:=PySem.IsL.update e f;rw[hf] at q;refine I.write (x:=l) (e:=l) (by rw[hH];exact trivial) (.inl rfl) (fun b' u hb hu=>(Heap.get?_update_other s.heap (Obj.mapSeq f) (Ne.symm hb)).trans hu) ⟨_,q⟩ ?_;exact⟨hz,its',_,hv,q⟩
theorem Inv.lnew{its:List Value}{t':Nat}(I:Inv X pins σ H s)(hv:bO ys its)(hz:ys.length <= sizeLine): Inv X pins σ (upd H s.heap.objs.size (.lst ys)) {s with heap:=s.heap.push {cls:=.type "list", data:=.seq its.toArray},toks:=t'}:=I.laid (fun _ _ q=>Heap.get?_push_of_some _ q) (Nat.le_refl _) ⟨hz,its,0,hv,Heap.get?_push_size _ rfl⟩
theorem Inv.fresh(I:Inv X pins σ H s):H s.heap.objs.size=none:=I.hok.fresh (Nat.le_refl _)
theorem Inv.lstM(I:Inv X pins σ H s)(hH:H l=some (.lst xs)):xs.length <= sizeLine/\∃(its:List Value)(n:Nat),bO xs its/\xs.length=its.length/\s.heap.get? l=some {cls:=.type "list", data:=.seq its.toArray n}:=by
 obtain⟨z,its,n,r,e⟩:=I.hok l _ hH;exact⟨z,its,n,r,r.length,e⟩
theorem uW{n:Nat}(h:n <= sizeLine):Builtin.List.listTooLong n=false:=by
 unfold Builtin.List.listTooLong;exact decide_eq_false (by omega)
end
section
variable{X:Cx}
def aD7:V->List V->Hp->VK->Prop:=fun x vs H Q=>∃l xs y,x=.ref l/\vs=[y]/\H l=some (.lst xs)/\xs.length<sizeLine/\Q .non (upd H l (.lst (xs++[y])))
theorem cQ:MtM X "list.append" aD7:=by
 intro pins s σ H x vs v us Q I rx rv h;obtain⟨l,xs,y,rfl,rfl,hH,hz,q⟩:=h;cases rx;obtain⟨u,rfl,ru⟩:=rv.one;obtain⟨z,its,n,r,hl,e⟩:=I.lstM hH;refine call_meets F.slot_list_append ⟨_,e,rfl⟩ F.entry_list_append (F.args_list_append_2 _ _) (PySem.list_append l its.toArray n u (by rw[List.size_toArray];omega)) ⟨e,?_⟩;refine⟨.non,_,I.lset (its':=its++[u]) hH e (by simp) (r.append (.cons ru .nil)) ?_,rfl,q⟩;rw[List.length_append,List.length_singleton];omega
def aD6:V->List V->Hp->VK->Prop:=fun x vs H Q=>∃l b xs zs,x=.ref l/\vs=[.ref b]/\H l=some (.lst xs)/\H b=some (.lst zs)/\xs.length+zs.length <= sizeLine/\Q .non (upd H l (.lst (xs++zs)))
theorem jM:MtM X "list.extend" aD6:=by
 intro pins s σ H x vs v us Q I rx rv h;obtain⟨l,b,xs,zs,rfl,rfl,hH,hB,hz,q⟩:=h;cases rx;obtain⟨u,rfl,ru⟩:=rv.one;cases ru;obtain⟨z,its,n,r,hl,e⟩:=I.lstM hH;obtain⟨z2,its2,n2,r2,hl2,e2⟩:=I.lstM hB;have hsz:its.toArray.size+its2.toArray.size <= sizeLine:=by rw[List.size_toArray,List.size_toArray];omega
 have hlong:¬ (!its.toArray.isEmpty && Builtin.List.listTooLong (its.toArray.size+its2.toArray.size))=true:=by
   rw[uW hsz,Bool.and_false];exact Bool.false_ne_true
 refine call_meets F.slot_list_extend ⟨_,e,rfl⟩ F.entry_list_extend (F.args_list_extend_2 _ _) (AutoSeq1.list_extend_list_list_0 l its.toArray n b its2.toArray n2 hlong (by rw[List.size_toArray];omega) (by omega)) ⟨e,e2,?_⟩;refine⟨.non,_,I.lset (its':=its++its2) hH e (by simp) (r.append r2) ?_,rfl,q⟩;rw[List.length_append];omega
def aHw:V->List V->Hp->VK->Prop:=fun x vs H Q=>∃l xs y,x=.ref l/\vs=[]/\H l=some (.lst xs)/\xs[xs.length - 1]?=some y/\Q y (upd H l (.lst xs.dropLast))
theorem aCg:MtM X "list.pop" aHw:=by
 intro pins s σ H x vs v us Q I rx rv h;obtain⟨l,xs,y,rfl,rfl,hH,hy,q⟩:=h;cases rx;have hus:=rv.zero;subst hus;obtain⟨z,its,n,r,hl,e⟩:=I.lstM hH;obtain⟨u,hu,ru⟩:=r.get hy;have hy':its.toArray[its.toArray.size - 1]?=some u:=by
   show its.toArray[its.length - 1]?=some u;rw[<- Array.getElem?_toList,<- hl];exact hu
 refine call_meets F.slot_list_pop ⟨_,e,rfl⟩ F.entry_list_pop (F.args_list_pop_1 _) (MeetsSeq.list_pop_last l its.toArray n u hy' (by rw[List.size_toArray];omega)) ⟨e,?_⟩;refine⟨y,_,I.lset (its':=its.dropLast) hH e ?_ r.dropLast ?_,ru,q⟩
 . show its.toArray.eraseIdxIfInBounds (its.toArray.size - 1)=its.dropLast.toArray;rw[List.size_toArray,List.eraseIdxIfInBounds_toArray,wK]
 . rw[List.length_dropLast];omega
def aHy:R2:=fun x y H Q=>∃l b xs zs,x=.ref l/\y=.ref b/\H l=some (.lst xs)/\H b=some (.lst zs)/\xs.length+zs.length <= sizeLine/\∀p,H p=none->Q (.ref p) (upd H p (.lst (xs++zs)))
theorem yM:OpR X (binaryOp .Add) aHy:=by
 intro pins s σ H x y v u Q I rx ry h;obtain⟨l,b,xs,zs,rfl,rfl,hH,hB,hz,q⟩:=h;cases rx;cases ry;obtain⟨z,its,n,r,hl,e⟩:=I.lstM hH;obtain⟨z2,its2,n2,r2,hl2,e2⟩:=I.lstM hB;refine PySem.P.add_list e e2 ?_ (by rw[List.size_toArray,List.size_toArray];omega);have ea:its.toArray++its2.toArray=(its++its2).toArray:=by simp
 rw[ea];exact⟨.ref _,_,I.lnew (t':=s.toks) (r.append r2) (by rw[List.length_append];omega),rfl,q _ I.fresh⟩
def aHv:R2:=fun x y H Q=>∃l k xs,x=.ref l/\y=.int k/\H l=some (.lst xs)/\-(2 ^ 63) <= k/\k<2 ^ 63/\xs.length*k.toNat <= sizeLine /\ ∀p,H p=none->Q (.ref p) (upd H p (.lst (List.replicate k.toNat xs).flatten))
theorem yY{α:Type}(xs:List α)(k:Nat):(List.replicate k xs).flatten.length=k*xs.length:=by
 induction k with
 |zero=>simp
 |succ k ih=>rw[List.replicate_succ,List.flatten_cons,List.length_append,ih,Nat.succ_mul,Nat.add_comm]
theorem qR:OpR X (binaryOp .Mult) aHv:=by
 intro pins s σ H x y v u Q I rx ry h;obtain⟨l,k,xs,rfl,rfl,hH,h1,h2,hz,q⟩:=h;cases rx;obtain⟨t,rfl⟩:=ry;obtain⟨z,its,n,r,hl,e⟩:=I.lstM hH;have hlen:its.toArray.size*k.toNat <= sizeLine:=by rw[List.size_toArray,<- hl];exact hz
 have hcap:¬ its.toArray.size*k.toNat > (2 ^ 63 - 1) / 8:=by
   have:(sizeLine:Nat) <= (2 ^ 63 - 1) / 8:=by decide
   omega
 have hfit:¬ (!Builtin.List.listFitsIndex k)=true:=by
   rw[fitsIndex_both h1 h2];exact Bool.false_ne_true
 have hlong:¬ Builtin.List.listTooLong (its.toArray.size*k.toNat)=true:=by
   rw[uW hlen];exact Bool.false_ne_true
 have hnew:List.foldl (fun x1 x2=>x1++x2) #[] (List.replicate (if its.toArray.isEmpty=true then 0 else k.toNat) its.toArray)=(List.replicate k.toNat its).flatten.toArray:=by
   have f0:∀m:Nat,List.foldl (fun x1 x2=>x1++x2) #[] (List.replicate m its.toArray)=(List.replicate m its).flatten.toArray:=fun m=>by
     have:=rD its m [];rw[List.nil_append] at this;exact this
   rw[f0];cases its with
   |nil=>simp
   |cons a r'=>rw[if_neg (by simp)]
 refine wpAny_binaryOp_repeat_ref (T := "list") (U := "int") (by decide) ⟨_,e,rfl⟩ (fun s'=>typeIs_int s' k t) noFill_list_mul F.fills_int_mul F.slot_int_rmul repeat_list F.slot_int_index.lookup (call_meets F.slot_int_rmul (typeIs_int s k t) F.entry_int_rmul (F.args_int_rmul_2 _ _) (int___rmul___int_list k t l its.toArray n) ⟨e,rfl,⟨_,e,rfl⟩,call_meets F.slot_list_mul ⟨_,e,rfl⟩ F.entry_list_mul (F.args_list_mul_2 _ _) (AutoListH.list___mul___list_int_3 l its.toArray n k t hfit hcap hlong) ⟨e,?_⟩⟩);rw[hnew];exact⟨.ref _,_,I.lnew (t':=s.toks) (r.rep k.toNat) (by rw[yY,Nat.mul_comm];exact hz),rfl,q _ I.fresh⟩
end
end L2
namespace Att
open PySem PySem.W PySem.Calls PyProof.Rows
theorem mL{P:Params}{h:Heap}:∀(ns:List Int)(vs:List Value),WellAll P h vs (ns.map WData.int)->IntsAre vs ns:=by
 intro ns;induction ns with
 |nil=>
   intro vs w;rw[List.map_nil] at w;cases w;exact .nil
 |cons n ns ih=>
   intro vs w;rw[List.map_cons] at w;cases w with
   |cons a b=>
     cases a;exact .cons _ _ (ih _ b)
theorem xQ{l:OpenLaw}{n:Nat}(hn:l.most=some n){P:Params}{h:Heap}{args:List WData}{vals:List Value}(hpre:l.row.toRowW.claim.pre args=true)(hwl:WellAll P h vals args): ∃a vs ns,vals=[Value.ref a]/\args=[WData.list (ns.map WData.int)]/\h.get? a=some {cls:=.type "list", data:=.seq vs.toArray}/\IntsAre vs ns/\ns.length <= n:=by
 have hsh:WShape.hasAll [] args [.list .int]=true:=(pre_splitW hpre).1;have hc:l.pre.holds [] {args:=args}=true:=(pre_splitW hpre).2;obtain⟨d,r,rfl,h1,h2⟩:=hasAllW_cons hsh;obtain rfl:=hasAllW_nil h2;obtain⟨xs,rfl,h3⟩:=hasW_list h1;obtain⟨ns,rfl⟩:=items_int h3;have hlen:ns.length <= n:=by
   unfold OpenLaw.pre at hc;have h4:(WTm.not (.lt (.lit (.int (n:Int))) (.len (.arg 0)))).holds [] {args:=[.list (ns.map .int)]}=true:=by
     have h4:=(holds_andW hc).1;rw[hn] at h4;exact h4
   have h5:=condW_of h4 (w_not (w_lt w_lit (w_len_list (w_arg rfl))));rw[List.length_map] at h5;refine Nat.le_of_not_lt fun q=>?_;have q':(n:Int)<((ns.length:Nat):Int):=by omega
   first
     |(rw[decide_eq_true q'] at h5;exact absurd h5 (by decide))
     |(simp at h5;omega)
 cases hwl with
 |cons w1 w2=>
   cases w2;cases w1 with
   |list ho hall=>exact⟨_,_,ns,rfl,rfl,ho,mL ns _ hall,hlen⟩
theorem yD(l:OpenLaw)(args:List WData):l.row.toRowW.claim.post args (.bool true) args=true:=
 postW_of (r:=l.row.toRowW) (X:=(true==true))
   (show WShape.has [] (.bool true) .bool=true by first|rfl|decide|simp[WShape.has,WShape.arms,WShape.armsAll])
   (show(WTm.eq .res (.lit (.bool true))).value [] {args:=args,res:=some (.bool true),after:=args}=some (.bool (true==true)) from w_eq_bool (w_res rfl) w_lit) rfl
theorem attach_call{l:OpenLaw}{n:Nat}{q:Program}{loose:List Str}{XP:(Str->Option Value)->Heap->Prop}{YP:World->Heap->Prop}{d:DefRec}(hn:l.most=some n)(hdf:d.params.defaults=[])(call:∀(w:World)(s₀ s₁:Shared)(mg mb:Str->Option Value)(fa:Addr)(o:Obj)(pm cd doc:Value)(a:Addr)(vs:List Value)(ns:List Int),Ground q loose [] XP w s₀ mg mb s₁.heap->YP w s₁.heap -> s₁.heap.get? fa=some o->o.data=.func (docDef d.name d.params d.body d.scope pm cd doc)->s₁.heap.CodeRec cd d.name->mg d.name=some (.ref fa) -> s₁.heap.get? a=some {cls:=.type "list", data:=.seq vs.toArray}->IntsAre vs ns->ns.length <= n->s₁.gens=#[] -> codeAny (model l.prog w) callerA (.call (.ref fa) ⟨[.ref a],[]⟩) (fun r s'=>r=.ok (.ret (.bool true))/\OldK s₁.heap s'.heap/\s'.os=s₁.os/\AllBare s'.gens) s₁): WalkO q loose XP YP l.row.toRowW d [] (fun f vs=>PySem.call f vs):=by
 intro w s₀ s₁ mg mb G Y fa o pm cd doc dV kV ho hd hcd hD hmg hg args vals as hpre hlay hrd hwl hlo;obtain rfl:dV=.none:=Dflts.none hD hdf;obtain rfl:kV=.none:=Dflts.noKw hD;obtain⟨a,vs,ns,rfl,rfl,hobj,hints,hlen⟩:=xQ hn hpre hwl;refine enter_call (codeAny_mono (call w s₀ s₁ mg mb fa o pm cd doc a vs ns G Y ho (fd_plain hd) hcd hmg hobj hints hlen hg) fun r s' hq=>?_);obtain⟨rfl,h2,h3,h4⟩:=hq;exact⟨.inl ⟨.bool true,.bool true,[],rfl,fun _=>rfl,.bool true,yD l _,fun _=>⟨List.Pairwise.nil,fun _ hm=>(nomatch hm)⟩⟩,h2,h3,h4⟩
end Att
namespace L2
open PySem PySem.Spec PyProof.Rows
theorem iV:∀{vs:List Value}{ns:List Int},IntsAre vs ns->bO (ns.map V.int) vs
 |_,_,.nil=>.nil
 |_,_,.cons n t h=>.cons ⟨t,rfl⟩ (iV h)
def hV(s:Stmt)(j:Nat):Stmt:=match s with
 |.ClassDef _ _ _ body _ _ _ _ _ _ _=>body.getD j (.Pass ⟨0,0,0,0⟩)
 |_=>.Pass ⟨0,0,0,0⟩
def cZ(s:Stmt):Arguments:=match s with
 |.FunctionDef _ a _ _ _ _ _ _ _ _=>a
 |_=>{posonlyargs:=[],args:=[],vararg:=none,kwonlyargs:=[],kw_defaults:=[],kwarg:=none,defaults:=[]}
def bM(s:Stmt):List Stmt:=match s with
 |.FunctionDef _ _ b _ _ _ _ _ _ _=>b
 |_=>[]
def aI(s:Stmt):Scope:=match s with
 |.FunctionDef _ _ _ _ _ _ sc _ _ _=>sc
 |_=>{kind:=.function,names:=[],isGenerator:=false,isCoroutine:=false}
abbrev CX0:CXT:=fun _ _ _ _ _ _=>False
abbrev E0:XK:=fun _ _ _=>False
theorem aB3{X:Cx}:jR CX0 X E0:=fun _ _ _ _ _ _ _ h=>h.elim
structure Fun (K:W.Frag) (x qual:Str) (st:Stmt) (f:Addr) (fd:FuncData):Prop where
 ex:∃(oc:Value)(od:Option Addr)(kV doc pm:Value)(an:Option Addr)(cdv ct:Value)(osl:Array (Option Value)),
   fd=W.fnOf x qual (cZ st) (bM st) (aI st) .none kV doc pm an cdv ct/\K.lookup f=some ⟨oc,od,.func fd,osl⟩/\W.codeIn K cdv qual=true
 kp:W.keepIn K (.ref f)=true
section
variable{P:Program}{w:World}{K:W.Frag}{mg:Str->Option Value}{base:Heap}
theorem Fun.ok{x qual:Str}{st:Stmt}{f:Addr}{fd:FuncData}{N ps:List Str}{k:Nat}{sp:Sp}(F:Fun K x qual st f fd)(S:aW N ps (aI st))(len:∀vs H Q E,sp vs H Q E->vs.length=ps.length)(hbody:∀(cdv:Value)(A:Around)(outer:List Env)(s:Shared)(H:Hp)(vs:List V)(Q:VK)(E:XK),eU k (A.deeper (envOfC qual (aI st) s.heap.objs.size f cdv))->sp vs H Q E -> ∃t,PSs (wO CX0 P w K mg base N qual (aI st) f cdv A outer s H E).nox (bM st) t/\t {nx:=fun _ H'=>Q .non H',rt:=Q} (kU N vs) H):gO P w K mg base CX0 (k+1) f fd ps sp:=by
 obtain⟨oc,od,kV,doc,pm,an,cdv,ct,osl,rfl,lk,hcd⟩:=F.ex;refine aBr lk hcd S len fun A outer s H vs Q E hr hsp=>?_;obtain⟨t,h,q⟩:=hbody cdv A outer s H vs Q E hr hsp;exact⟨t,h.nox,q⟩
theorem Fun.binds{x qual:Str}{st:Stmt}{f:Addr}{fd:FuncData}{ps:List Str}(F:Fun K x qual st f fd)(h:∀(kV doc pm:Value)(an:Option Addr)(cdv ct:Value)(us:List Value),us.length=ps.length->bindArgs (W.fnOf x qual (cZ st) (bM st) (aI st) .none kV doc pm an cdv ct) ⟨us,[]⟩=pure (ps.zip us)):iB K fd ps []:=by
 obtain⟨oc,od,kV,doc,pm,an,cdv,ct,osl,rfl,lk,hcd⟩:=F.ex;exact .all (h kV doc pm an cdv ct)
theorem nO{x qual:Str}{st:Stmt}{f:Addr}{oc:Value}{od an:Option Addr}{osl:Array (Option Value)}{kV doc pm cdv ct:Value}(l:K.lookup f=some ⟨oc,od,.func (W.fnOf x qual (cZ st) (bM st) (aI st) .none kV doc pm an cdv ct),osl⟩)(c:W.codeIn K cdv qual=true)(k:W.keepIn K (.ref f)=true):Fun K x qual st f (W.fnOf x qual (cZ st) (bM st) (aI st) .none kV doc pm an cdv ct):=⟨⟨oc,od,kV,doc,pm,an,cdv,ct,osl,rfl,l,c⟩,k⟩
end
theorem pM{A:Around}{k:Nat}(hr:eU k A):A.units+1<cLine:=Nat.lt_of_le_of_lt (Nat.add_le_add_left (by decide:1 <= 64) _) hr.units
theorem bR{n:Nat}(h:n <= 1000):n<sizeLine:=Nat.lt_of_le_of_lt h (by decide)
section
variable{X:Cx}
theorem pv(i:Nat){x:Str}{pos:Pos}(hN:X.N[i]?=some x:=by rfl)(hv:Vis X.env.scope x:=by first|exact Or.inl rfl|exact Or.inr (Or.inl rfl)|exact Or.inr (Or.inr rfl))(hd:(x==("__debug__":Str))=false:=by decide)(hcd:(x==("__classdict__":Str))=false:=by decide):PE X (.Name x pos) (aEm i):=aF0 hN hv hd hcd
end
theorem cI{A B:Prop}(h:B):if false=true then A else B:=by
 rw[if_neg Bool.false_ne_true];exact h
theorem iH{A B:Prop}(h:A):if true=true then A else B:=by
 rw[if_pos rfl];exact h
theorem eE{c A B:Prop}[Decidable c](h1:c->A)(h2:¬ c->B):if c then A else B:=by
 by_cases h:c
 . rw[if_pos h];exact h1 h
 . rw[if_neg h];exact h2 h
def Same(H H':Hp):Prop:=∀b o,H b=some o->H' b=some o
theorem Same.refl(H:Hp):Same H H:=fun _ _ h=>h
theorem Same.trans{H H1 H2:Hp}(a:Same H H1)(b:Same H1 H2):Same H H2:=fun c o h=>b c o (a c o h)
theorem Same.free{H H':Hp}(e:Same H H'){l:Addr}(h:H' l=Option.none):H l=Option.none:=by
 cases q:H l with
 |none=>rfl
 |some o=>
   rw[e l o q] at h;cases h
theorem Same.seq{K:W.Frag}{H H':Hp}{a:Addr}{xs:List V}(e:Same H H')(h:SqL K H a xs):SqL K H' a xs:=by
 rcases h with(h|⟨o,h⟩)|h
 . exact .inl (.inl (e _ _ h))
 . exact .inl (.inr ⟨o,e _ _ h⟩)
 . exact .inr h
end L2
set_option maxHeartbeats 4000000
namespace L2
open PySem PySem.Spec PyProof.Rows
theorem cG{α:Type}:∀{l:List (Str×α)}{x:Str}{k:α},l.lookup x=some k->(x,k)∈l
 |[],_,_,h=>by simp at h
 |(n,k')::r,x,k,h=>by
   rw[List.lookup_cons] at h;cases hx:x==n with
   |true=>
     rw[hx] at h;have e:k'=k:=Option.some.inj h;have e2:x=n:=eq_of_beq hx;subst e e2;exact List.mem_cons_self
   |false=>
     rw[hx] at h;exact List.mem_cons_of_mem _ (cG h)
def bJ(cells:List (Str×Addr)):List (Str×NameKind)->List (Str×Addr)->List (Str×Addr)
 |[],acc=>acc
 |(n,k)::r,acc=>bJ cells r (if(k==NameKind.free)=true then(match cells.lookup n with|some c=>(n,c)::acc|none=>acc) else acc)
theorem kQ{env:Env}{f:Str×NameKind->List (Str×Addr)->Sem (ForInStep (List (Str×Addr)))}(hf:∀x acc,f x acc=if(x.2==NameKind.free)=true then(cellOf env x.1 >>= fun c=>pure (ForInStep.yield ((x.1,c)::acc))) else pure (ForInStep.yield acc)): ∀(names:List (Str×NameKind))(acc:List (Str×Addr)),(∀y∈names,y.2=.free->∃c,env.cells.lookup y.1=some c)->(forIn names acc f:Sem _)=pure (bJ env.cells names acc)
 |[],acc,_=>rfl
 |(n,k)::r,acc,h=>by
   have ih:=fun acc'=>kQ hf r acc' fun y hy=>h y (List.mem_cons_of_mem _ hy);rw[List.forIn_cons,hf];by_cases hk:(k==NameKind.free)=true
   . have hk':k=.free:=by simpa using hk
     obtain⟨c,hc⟩:=h (n,k) List.mem_cons_self hk';dsimp only at hc;unfold bJ;dsimp only;rw[if_pos hk,if_pos hk];have e:cellOf env n=pure c:=by unfold cellOf;rw[hc]
     rw[e,hc];exact ih ((n,c)::acc)
   . unfold bJ;dsimp only;rw[if_neg hk,if_neg hk];exact ih acc
theorem dS{env:Env}{scope:Scope}(h:∀y∈scope.names,y.2=.free->∃c,env.cells.lookup y.1=some c):closureFor scope env=pure (bJ env.cells scope.names []):=by
 simp only[closureFor];rw[kQ (env:=env) (fun x acc=>?_) scope.names [] h]
 . rfl
 . obtain⟨n,k⟩:=x;cases k <;> rfl
theorem nP{cells:List (Str×Addr)}:∀{names:List (Str×NameKind)}{acc:List (Str×Addr)}{x:Str}{c:Addr},(∀y d,acc.lookup y=some d->cells.lookup y=some d)->(bJ cells names acc).lookup x=some c->cells.lookup x=some c
 |[],_,x,c,ha,h=>ha x c h
 |(n,k)::r,acc,x,c,ha,h=>by
   refine nP (names:=r) (fun y d e=>?_) h;by_cases hk:(k==NameKind.free)=true
   . rw[if_pos hk] at e;cases hc:cells.lookup n with
     |none=>rw[hc] at e;exact ha y d e
     |some c'=>
       rw[hc] at e;dsimp only at e;rw[List.lookup_cons] at e;cases hy:y==n with
       |true=>rw[hy] at e;rw[eq_of_beq hy,hc];exact e
       |false=>rw[hy] at e;exact ha y d e
   . rw[if_neg hk] at e;exact ha y d e
theorem mM{cells:List (Str×Addr)}:∀{names:List (Str×NameKind)}{acc:List (Str×Addr)}{x:Str}{c:Addr},cells.lookup x=some c->acc.lookup x=some c->(bJ cells names acc).lookup x=some c
 |[],_,_,_,_,h=>h
 |(n,k)::r,acc,x,c,hc,h=>by
   refine mM (names:=r) hc ?_;by_cases hk:(k==NameKind.free)=true
   . rw[if_pos hk];cases hn:cells.lookup n with
     |none=>exact h
     |some c'=>
       dsimp only;rw[List.lookup_cons];cases hy:x==n with
       |true=>rw[eq_of_beq hy,hn] at hc;exact hc
       |false=>exact h
   . rw[if_neg hk];exact h
theorem eQ{cells:List (Str×Addr)}:∀{names:List (Str×NameKind)}{acc:List (Str×Addr)}{x:Str}{c:Addr},(x,NameKind.free)∈names->cells.lookup x=some c->(bJ cells names acc).lookup x=some c
 |[],_,_,_,h,_=>nomatch h
 |(n,k)::r,acc,x,c,h,hc=>by
   rcases List.mem_cons.mp h with e|e
   . cases e;unfold bJ;rw[if_pos (show(NameKind.free==NameKind.free)=true from rfl),hc];refine mM hc ?_;rw[List.lookup_cons,beq_self_eq_true]
   . exact eQ (names:=r) e hc
theorem kA{env:Env}:∀{names:List (Str×NameKind)}{x:Str}{k:NameKind},(names.map fun(n,k)=>if(k==NameKind.free && env.scope.kind==.function && env.kindOf n==some .cell) then(n,NameKind.cell) else(n,k)).lookup x=some k ->∃k0,names.lookup x=some k0/\(k=k0\/(k0=.free/\k=.cell))
 |[],_,_,h=>by simp at h
 |(n,k')::r,x,k,h=>by
   have ih:=@kA env r x k;rw[List.map_cons] at h;by_cases hc:(k'==NameKind.free && env.scope.kind==.function && env.kindOf n==some .cell)=true
   . dsimp only at h;rw[if_pos hc,List.lookup_cons] at h;rw[List.lookup_cons];cases hx:x==n with
     |true=>
       rw[hx] at h;have hk:k'=.free:=by
         rw[Bool.and_eq_true,Bool.and_eq_true] at hc;simpa using hc.1.1
       exact⟨k',rfl,.inr ⟨hk,(Option.some.inj h).symm⟩⟩
     |false=>rw[hx] at h;exact ih h
   . dsimp only at h;rw[if_neg hc,List.lookup_cons] at h;rw[List.lookup_cons];cases hx:x==n with
     |true=>rw[hx] at h;exact⟨k',rfl,.inl (Option.some.inj h).symm⟩
     |false=>rw[hx] at h;exact ih h
theorem kK{env:Env}:∀{names:List (Str×NameKind)}{x:Str},names.lookup x=some .free ->(names.map fun(n,k)=>if(k==NameKind.free && env.scope.kind==.function && env.kindOf n==some .cell) then(n,NameKind.cell) else(n,k)).lookup x=some .cell \/ (names.map fun(n,k)=>if(k==NameKind.free && env.scope.kind==.function && env.kindOf n==some .cell) then(n,NameKind.cell) else(n,k)).lookup x=some .free
 |[],_,h=>by simp at h
 |(n,k')::r,x,h=>by
   have ih:=@kK env r x;rw[List.map_cons];rw[List.lookup_cons] at h;by_cases hc:(k'==NameKind.free && env.scope.kind==.function && env.kindOf n==some .cell)=true
   . dsimp only;rw[if_pos hc,List.lookup_cons];cases hx:x==n with
     |true=>exact .inl rfl
     |false=>rw[hx] at h;exact ih h
   . dsimp only;rw[if_neg hc,List.lookup_cons];cases hx:x==n with
     |true=>rw[hx] at h;exact .inr h
     |false=>rw[hx] at h;exact ih h
structure nU (sc:Scope) (XN:List Str) (scope:Scope) (own fr:List Str) (js:List Nat):Prop where
 kind:scope.kind=.function
 cell:∀y∈scope.names,y.2≠.cell
 loc:∀x∈scope.names,x.2=.local->scope.names.lookup x.1=some .local
 free:∀y∈scope.names,y.2=.free->sc.names.lookup y.1=some .cell\/sc.names.lookup y.1=some .free
 len:fr.length=js.length
 at_:∀p∈fr.zip js,XN[p.2]?=some p.1/\scope.names.lookup p.1=some .free
def cX(X:Cx)(scope:Scope)(NN:List Str)(fp:List Addr)(pins:List (Addr×Obj))(s:Shared)(H:Hp)(C:Addr):Cx where
 prog:=X.prog
 w:=X.w
 K:=X.K
 mg:=X.mg
 base:=X.base
 A:=X.A
 N:=NN
 s₀:=s
 H₀:=H
 env:=compEnvC scope (bJ X.env.cells scope.names []) C X.env
 outer:=X.stack
 stack:=X.stack
 ex:=fp
 fn:=fun x=>((bJ X.env.cells scope.names []).lookup x).isNone
 calm:=X.calm
 pn:=X.pn++pins
 xe:=fun _ _=>False
def cst(own:Nat)(js:List Nat)(σ:St):St:=List.replicate own none++js.map fun j=>(σ[j]?).join
section
variable{X:Cx}{pins:List (Addr×Obj)}{σ:St}{H:Hp}{s:Shared}{scope:Scope}{own fr:List Str}{js:List Nat}{fp:List Addr}{C:Addr}
theorem eP{cells:List (Str×Addr)}{names:List (Str×NameKind)}{x:Str}{c:Addr}(h:(bJ cells names []).lookup x=some c):cells.lookup x=some c:=nP (fun y d e=>by simp at e) h
theorem aFo(I:Inv X pins σ H s)(cs:nU X.env.scope X.N scope own fr js)(f2:∀b∈fp,mY X pins H b)(ho:∀b∈fp,b<s.heap.objs.size)(hC:s.heap.objs.size <= C): (cX X scope (own++fr) fp pins s H C).Ok where
 mod:=I.ok.mod
 kind:=cs.kind
 glob:=I.ok.glob
 blt:=I.ok.blt
 above:=hC
 inj:=fun x y c h1 h2=>I.ok.inj x y c (eP h1) (eP h2)
 has:=fun x h=>by
   have hx:(x,NameKind.free)∈scope.names:=by
     rcases h with h|h
     . obtain⟨k0,e,z⟩:=kA h;rcases z with z|⟨z,_⟩
       . subst z;exact absurd rfl (cs.cell _ (cG e))
       . subst z;exact cG e
     . obtain⟨k0,e,z⟩:=kA h;rcases z with z|⟨z,_⟩
       . subst z;exact cG e
       . subst z;exact cG e
   obtain⟨c,hc⟩:=I.ok.has x (cs.free _ hx rfl);exact⟨c,eQ hx hc⟩
 cab:=fun x c h e=>by
   have h':((bJ X.env.cells scope.names []).lookup x).isNone=true:=h;have e':(bJ X.env.cells scope.names []).lookup x=some c:=e;rw[e'] at h';cases h'
 hd:=I.ok.hd
 frames:=I.ok.frames
 stk:=.inl rfl
 exf:=fun b hb=>⟨Nat.ne_of_lt (Nat.lt_of_lt_of_le (ho b hb) hC),fun x c e=>(f2 b hb).2.2.2.2.1 x c (eP e)⟩
 bs:=I.bs
 bsz:=Nat.le_trans I.ok.bsz I.sz
 noex:=fun b o e hb=>by
   rcases(f2 b hb).2.2.2.1 with z|z
   . exact I.ok.noex b o e z
   . exact absurd (Nat.lt_of_lt_of_le (Heap.lt_size e) (Nat.le_trans I.ok.bsz z)) (Nat.lt_irrefl _)
 exfs:=fun b hb z=>by
   rcases List.mem_cons.mp (I.stkSub b z) with e|e
   . exact(f2 b hb).2.1 e
   . exact(f2 b hb).2.2.1 e
 funs:=I.stack
 frf:=I.stkFree
theorem pP(I:Inv X pins σ H s)(cs:nU X.env.scope X.N scope own fr js)(f2:∀b∈fp,mY X pins H b){pins':List (Addr×Obj)}{σ':St}{H':Hp}{s':Shared}(I':Inv (cX X scope (own++fr) fp pins s H C) pins' σ' H' s'):Inv (cX X scope (own++fr) fp pins s H C) pins' (cst own.length js σ) H' s':=by
 refine⟨I'.ok,I'.os,I'.bare,I'.base,?_,I'.cell,I'.free,I'.freeC,I'.pin,I'.hok,?_⟩
 . obtain⟨m,hm,_⟩:=I'.loc;obtain⟨m0,hm0,hl0⟩:=I.loc;refine⟨m,hm,fun i x v e1 e2 _=>?_⟩;have e1':(own++fr)[i]?=some x:=e1;unfold cst at e2;by_cases hi:i<own.length
   . rw[List.getElem?_append_left (by simpa using hi),List.getElem?_replicate,if_pos hi] at e2;cases e2
   . have hi':own.length <= i:=Nat.le_of_not_lt hi;rw[List.getElem?_append_right (by simpa using hi'),List.length_replicate,List.getElem?_map] at e2;rw[List.getElem?_append_right hi'] at e1';cases hj:js[i - own.length]? with
     |none=>rw[hj] at e2;cases e2
     |some j=>
       rw[hj] at e2;have e3:(σ[j]?).join=some v:=Option.some.inj e2;have e4:σ[j]?=some (some v):=by
         cases q:σ[j]? with
         |none=>rw[q] at e3;cases e3
         |some z=>rw[q] at e3;cases z with
           |none=>cases e3
           |some z'=>exact congrArg (fun y=>some (some y)) (Option.some.inj e3)
       have hz:(x,j)∈fr.zip js:=by
         refine List.mem_of_getElem? (i:=i - own.length) ?_;rw[List.getElem?_zip_eq_some];exact⟨e1',hj⟩
       obtain⟨a1,a2⟩:=cs.at_ _ hz;have kX:=cs.free (x,.free) (cG a2) rfl;obtain⟨u,ru,look⟩:=hl0 j x v a1 e4 (kX.elim (fun z=>.inr (.inl z)) fun z=>.inr (.inr z));rcases look with⟨kl,_⟩|⟨_,c,hc,o,hoc,hod⟩
       . have kl':X.env.scope.names.lookup x=some .local:=kl;dsimp only at kX;rw[kl'] at kX;rcases kX with z|z <;> cases z
       . obtain⟨sl,es⟩:=I'.base.any hoc (I.freeC x c hc) fun z=>(f2 c z).2.2.2.2.1 x c hc rfl;exact⟨u,ru,.inr ⟨kK a2,c,eQ (cG a2) hc,⟨_,es,hod⟩⟩⟩
 . show(cst own.length js σ).length=(own++fr).length;unfold cst;rw[List.length_append,List.length_append,List.length_replicate,List.length_map,cs.len]
theorem aFp(I:Inv X pins σ H s)(cs:nU X.env.scope X.N scope own fr js)(f2:∀b∈fp,mY X pins H b)(ho:∀b∈fp,b<s.heap.objs.size)(hC:s.heap.objs.size <= C){D:Addr}{oD:Obj}{h1:Heap}{tk:Nat}{m:Str->Option Value}(k:∀b o,s.heap.get? b=some o->h1.get? b=some o)(hn:h1.Ns C m)(hDs:s.heap.objs.size <= D)(hDC:D≠C)(hD:h1.get? D=some oD)(dD:∀v,oD.data≠.cell v): Inv (cX X scope (own++fr) fp pins s H C) [(D,oD)] (cst own.length js σ) H {s with heap:=h1,toks:=tk}:=by
 refine pP (σ':=List.replicate (own++fr).length none) I cs f2 ?_;have nstk:∀b,s.heap.objs.size <= b->b∉frs X.stack:=fun b hb z=>by
   rcases List.mem_cons.mp (I.stkSub b z) with e|e
   . rw[e] at hb;exact absurd (Nat.lt_of_lt_of_le I.lt hb) (Nat.lt_irrefl _)
   . exact I.nofs hb e
 refine⟨aFo I cs f2 ho hC,rfl,I.bare,Un.kept k,⟨m,hn,fun i x v e1 e2 _=>?_⟩,fun x c e=>?_,I.hok.fresh hC,fun x c e=>I.freeC x c (eP e),fun p hp=>?_,I.hok.kept k,by simp[cX]⟩
 . rw[List.getElem?_replicate] at e2;split at e2 <;> cases e2
 . obtain⟨v,z⟩:=I.cell x c (eP e);exact⟨v,z.keeps k⟩
 . rcases List.mem_append.mp hp with z|z
   . obtain⟨a1,a2,a3,a4,a5⟩:=I.pin p z;refine⟨k _ _ a1,a2,?_,?_,a5⟩
     . exact Nat.ne_of_lt (Nat.lt_of_lt_of_le (Heap.lt_size a1) hC)
     . intro q;rcases List.mem_cons.mp (I.stkSub _ q) with e|e
       . exact a3 e
       . exact a4 e
   . have e:p=(D,oD):=by simpa using z
     subst e;exact⟨hD,I.hok.fresh hDs,hDC,nstk D hDs,dD⟩
end
abbrev noE:Value->Shared->Prop:=fun _ _=>False
theorem unE{α:Type}{M:Model}{A:Around}{t:Sem α}{Q:α->Shared->Prop}{E:Value->Shared->Prop}{s:Shared}(h:wpAny M A t Q noE s):wpAny M A t Q E s:=wpAny_mono h (fun _ _ q=>q) fun _ _ f=>f.elim
abbrev xB(ifs:List Expr)(env:Env):Sem Bool:=forIn ifs true fun c r=>if r=true then do let ok <- isTrue c env (eval c env);pure (ForInStep.yield ok) else pure (ForInStep.yield r)
theorem rM{prog:Program}{w:World}{A:Around}{R:Result->Shared->Prop}{s:Shared}{elt target iter:Expr}{ifs:List Expr}{scope:Scope}{pos:Pos}{it acc:Value}{env:Env}(Iv:Nat->Shared->Prop)(turn:∀n s,Iv n s->wpAny (model prog w) A (pyNext it) (fun r s₁=>match r with
     |none=>R (.ok .next) s₁
     | some v=>wpAny (model prog w) A (letOwnedTupleGo target it v) (fun _ s₂=>wpAny (model prog w) A (assign target env v) (fun _ s₃=>
         wpAny (model prog w) A (xB ifs env) (fun ok s₄=>
           if ok=true then wpAny (model prog w) A (eval elt env) (fun x s₅=>
             wpAny (model prog w) A (call (.builtin "list.append") [acc,x]) (fun _ s₆=>∃m,m<n/\Iv m s₆) noE s₅) noE s₄
           else ∃m,m<n/\Iv m s₄) noE s₃) noE s₂) noE s₁) noE s)(n:Nat)(h:Iv n s):codeAny (model prog w) A (.compLoop (.ListComp elt [⟨target,iter,ifs,0⟩] scope pos) 0 it acc env) R s:=by
 refine codeAny_loop rfl Iv (fun n s hI=>?_) n h;show wpAny _ A ((compTurn (.ListComp elt [⟨target,iter,ifs,0⟩] scope pos) 0 it acc env).onRaise (fun x=>do noteFrame x env;theTreesLotGoes x)) _ _ s;refine wpAny_noted ?_;rw[compTurn_list];refine wpAny_bind (wpAny_standAt (wpAny_bind (thn (unE (turn n s hI)) fun r s₁ h₁=>?_)));cases r with
 |none=>exact wpAny_pure h₁
 |some v=>
   refine wpAny_bind (thn (unE h₁) fun _ s₂ h₂=>?_);refine wpAny_bind (thn (unE h₂) fun _ s₃ h₃=>wpAny_bind (thn (unE h₃) fun ok s₄ h₄=>?_));cases ok with
   |false=>exact wpAny_pure ⟨rfl,h₄⟩
   |true=>
     exact wpAny_bind (wpAny_bind (thn (unE h₄) fun x s₅ h₅=>wpAny_bind (thn (unE h₅) fun _ s₆ h₆=>wpAny_pure (wpAny_pure ⟨rfl,h₆⟩))))
def PTs(X:Cx)(ifs:List Expr)(t:TT):Prop:=∀(pins:List (Addr×Obj))(s:Shared)(σ:St)(H:Hp)(Q:Bool->Hp->Prop),Inv X pins σ H s->t σ H Q->wpAny (model X.prog X.w) X.A (xB ifs X.env) (TP X pins σ Q) X.xe s
def aHl:TT:=fun _ H Q=>Q true H
theorem fJ{X:Cx}:PTs X [] aHl:=fun _ _ _ H _ I h=>wpAny_pure ⟨H,I,h⟩
theorem sM{X:Cx}{c:Expr}{t:TT}(h:PT X c t):PTs X [c] t:=fun pins s σ H Q I q=>wpAny_tests_one (h pins s σ H Q I q)
def kP(own:Nat)(js:List Nat)(g:TG)(tt:TT)(te:TE)(σ:St)(J:It)(H1:Hp)(Qf:List V->Hp->Prop):Prop:=∃W:Nat->Nat->List V->Hp->Prop,(∃m,W 0 m [] H1)/\∀i m ys H,W i m ys H->(J.stop i H/\Qf ys H)\/(J.go i H/\ys.length<sizeLine/\∃N:List V->Hp->Prop,(∀ys' H',N ys' H'->∃m',m'<m/\W (i+1) m' ys' H') /\ ∀x H',J.yld i H x H'->g x (cst own js σ) H' fun σ2 H2=>tt σ2 H2 fun b H3=>if b=true then te σ2 H3 fun y H4=>N (ys++[y]) H4 else N ys H3)
section
variable{X:Cx}{pins:List (Addr×Obj)}{σ:St}{H:Hp}{s:Shared}{scope:Scope}{own fr:List Str}{js:List Nat}
theorem vF{elt tg iter:Expr}{ifs:List Expr}{pos:Pos}{g:TG}{tt:TT}{te:TE}{J:It}{fp:List Addr}{it:Addr}{tn:Nat->Heap->Prop}{Qf:List V->Hp->Prop}{RR:Value->Addr->Result->Shared->Prop}(hc:X.calm=true)(I:Inv X pins σ H s)(cs:nU X.env.scope X.N scope own fr js)(T:aEa X.prog X.w X.K tg J fp it tn)(st:tn 0 s.heap)(f2:∀b∈fp,mY X pins H b)(hg:∀C,PG (cX X scope (own++fr) fp pins s H C) tg g)(ht:∀C,PTs (cX X scope (own++fr) fp pins s H C) ifs tt)(he:∀C,PE (cX X scope (own++fr) fp pins s H C) elt te)(rd:kP own.length js g tt te σ J H Qf)(hRR:∀D C s' H' ys(its:List Value)(n:Nat),s.heap.objs.size <= D->s.heap.objs.size <= C->D≠C->Inv (cX X scope (own++fr) fp pins s H C) [(D,{cls:=.type "list", data:=.seq its.toArray n})] (cst own.length js σ) H' s' -> bO ys its->ys.length <= sizeLine->Qf ys H'->RR (.ref D) C (.ok .next) s'): wpAny (model X.prog X.w) X.A (newList []) (fun acc s₃=>wpAny (model X.prog X.w) X.A (newFunctionEnv scope X.env.globals (bJ X.env.cells scope.names []) [] X.env.qual none .none (some X.env)) (fun cenv s₄=>
     codeAny (model X.prog X.w) X.A (.compStart (.ListComp elt [⟨tg,iter,ifs,0⟩] scope pos) 0 (.ref it) acc {cenv with scope:=relabel scope X.env}) (RR acc cenv.locals) s₄) X.xe s₃) X.xe s:=by
 obtain⟨W,⟨m0,w0⟩,turn⟩:=rd;have ho:∀b∈fp,b<s.heap.objs.size:=fun b hb=>by
   obtain⟨o,e,_⟩:=T.obj _ _ st b hb;exact Heap.lt_size e
 refine wpAny_newObj_type (wpAny_newFunctionEnv (fun y hy=>cs.cell y hy) (by intro y hy;simp at hy) (fun h₁ hns₁ hsb₁=>?_) cs.kind);dsimp only at hns₁ hsb₁ ⊢;generalize hH2:s.heap.push {cls:=.type "list", dict:=none,data:=.seq ([]:List Value).toArray}=H2 at hns₁ hsb₁ ⊢;have hC:H2.objs.size=s.heap.objs.size+1:=by rw[<- hH2,Heap.size_push]
 have hDC:s.heap.objs.size≠H2.objs.size:=by rw[hC];exact Nat.ne_of_lt (Nat.lt_succ_self _)
 have hCle:s.heap.objs.size <= H2.objs.size:=by rw[hC];exact Nat.le_succ _
 have old:∀b o,s.heap.get? b=some o->h₁.get? b=some o:=fun b o e=>hsb₁.extBut b o (by rw[hC];exact Nat.ne_of_lt (Nat.lt_succ_of_lt (Heap.lt_size e))) (Heap.get?_push_of_some _ (hH2▸Heap.get?_push_of_some _ e));have hacc:h₁.get? s.heap.objs.size=some {cls:=.type "list", data:=.seq ([]:List Value).toArray}:=hsb₁.extBut _ _ hDC (Heap.get?_push_of_some _ (hH2▸Heap.get?_push_size _ rfl));have stat:∀{H':Hp}{oD:Obj},(∀b∈fp,H' b=none)->∀b∈fp,mY (cX X scope (own++fr) fp pins s H H2.objs.size) [(s.heap.objs.size,oD)] H' b:=fun {H' oD} hn b hb=>by
   obtain⟨f0,f1,f3,f4,f5,f6⟩:=f2 b hb;refine⟨hn b hb,Nat.ne_of_lt (Nat.lt_of_lt_of_le (ho b hb) hCle),fun z=>?_,.inl hb,fun x c e=>f5 x c (eP e),fun p hp=>?_⟩
   . rcases List.mem_cons.mp (I.stkSub b z) with e|e
     . exact f1 e
     . exact f3 e
   . rcases List.mem_append.mp hp with z|z
     . exact f6 p z
     . have e:p=(s.heap.objs.size,oD):=by simpa using z
       subst e;exact Nat.ne_of_gt (ho b hb)
 have loop:∀s₃:Shared,s₃={s with heap:=h₁,toks:=s.toks+([]:List (Str×Value)).length} ->
     codeAny (model X.prog X.w) X.A (.compLoop (.ListComp elt [⟨tg,iter,ifs,0⟩] scope pos) 0 (.ref it) (.ref s.heap.objs.size) (compEnvC scope (bJ X.env.cells scope.names []) H2.objs.size X.env))
       (RR (.ref s.heap.objs.size) H2.objs.size) s₃:=by
   rintro s₃ rfl;refine rM (fun n s'=>∃i ys H' its nn,Inv (cX X scope (own++fr) fp pins s H H2.objs.size) [(s.heap.objs.size,{cls:=.type "list", data:=.seq (its:List Value).toArray nn})] (cst own.length js σ) H' s' /\ bO ys its/\ys.length <= sizeLine/\tn i s'.heap/\(∀b∈fp,H' b=none)/\W i n ys H') ?_ m0 ⟨0,[],H,[],0,aFp I cs f2 ho hCle old hns₁ (Nat.le_refl _) hDC hacc (fun v z=>by cases z),.nil,Nat.zero_le _,T.keep _ _ _ st fun b _ o e=>old b o e,fun b hb=>(f2 b hb).1,w0⟩;rintro n s5 ⟨i,ys,H5,its,nn,I5,rv,hz,st5,fr5,w5⟩;rcases turn i n ys H5 w5 with⟨stop,q⟩|⟨go,hlt,N,hN,step⟩
   . refine thn (T.done (cX X scope (own++fr) fp pins s H H2.objs.size) rfl rfl rfl hc i _ s5 _ H5 noE I5 (stat fr5) st5 stop) fun r s6 ⟨hr,I6⟩=>?_;subst hr;exact hRR _ _ s6 H5 ys its nn (Nat.le_refl _) hCle hDC I6 rv hz q
   . refine thn (T.item (cX X scope (own++fr) fp pins s H H2.objs.size) rfl rfl rfl hc i _ s5 _ H5 noE I5 (stat fr5) st5 go) fun r s6 ⟨u,hr,h6⟩=>?_;subst hr;refine thn h6 fun _ s7 ⟨x,H7,I7,r7,y7,st7,fr7⟩=>?_;have I7':=I7.pinned (stat fr7) (T.obj _ _ st7);refine thn (hg _ _ s7 _ H7 x u _ I7' r7 (step x H7 y7)) fun _ s8 ⟨σ8,H8,I8,q8⟩=>?_;refine thn (ht _ _ s8 σ8 H8 _ I8 q8) fun ok s9 ⟨H9,I9,q9⟩=>?_;have kfp:∀{σ':St}{H':Hp}{s':Shared},Inv (cX X scope (own++fr) fp pins s H H2.objs.size) ([(s.heap.objs.size,{cls:=.type "list", data:=.seq its.toArray nn})]++qM fp s7.heap) σ' H' s' ->(∀b∈fp,∀o,s7.heap.get? b=some o->s'.heap.get? b=some o)/\∀b∈fp,H' b=none:=fun {σ' H' s'} I'=>by
       refine⟨fun b hb o e=>(I'.pin (b,o) (List.mem_append_right _ (List.mem_append_right _ (iG hb e)))).1,fun b hb=>?_⟩;obtain⟨o,e,d⟩:=T.obj _ _ st7 b hb;exact(I'.pin (b,o) (List.mem_append_right _ (List.mem_append_right _ (iG hb e)))).2.1
     cases ok with
     |false=>
       obtain⟨m',hm,w9⟩:=hN _ _ (show N ys H9 from q9);exact⟨m',hm,i+1,ys,H9,its,nn,pP I cs f2 I9.unpinned,rv,hz,T.keep _ _ _ st7 (kfp I9).1,(kfp I9).2,w9⟩
     |true=>
       refine thn (he _ _ s9 σ8 H9 _ I9 q9) fun yv s10 ⟨y,H10,I10,r10,q10⟩=>?_;have pD:=I10.pin (s.heap.objs.size,{cls:=.type "list", data:=.seq its.toArray nn}) (List.mem_append_right _ (List.mem_append_left _ (List.mem_singleton.mpr rfl)));have e1:s10.heap.get? s.heap.objs.size=some {cls:=.type "list", data:=.seq its.toArray nn}:=pD.1;have hlen:=rv.length;refine call_meets F.slot_list_append ⟨_,e1,rfl⟩ F.entry_list_append (F.args_list_append_2 _ _) (PySem.list_append s.heap.objs.size its.toArray nn yv (by rw[List.size_toArray];omega)) ⟨e1,?_⟩;obtain⟨m',hm,w10⟩:=hN _ _ q10;have e2:=PySem.IsL.update (h:=s10.heap) (l:=s.heap.objs.size) e1 (fun z=>z.push yv);have e3:its.toArray.push yv=(its++[yv]).toArray:=by simp
       rw[e3] at e2;obtain⟨nn',e2'⟩:∃n',(s10.heap.update s.heap.objs.size (Obj.mapSeq fun z=>z.push yv)).get? s.heap.objs.size=some {cls:=.type "list", data:=.seq (its++[yv]).toArray n'}:=⟨_,e2⟩;have I11:=(pP I cs f2 I10).pins_of (pins':=[]) (fun p hp=>nomatch hp);have I12:=I11.turned (t':=s10.toks) (it:=s.heap.objs.size) (h':=s10.heap.update s.heap.objs.size (Obj.mapSeq fun z=>z.push yv)) (fun b o hb e=>(Heap.get?_update_other s10.heap _ (Ne.symm hb)).trans e) pD.2.1 pD.2.2.1 (.inr (Nat.le_refl _)) (fun x c e=>by
           obtain⟨v,z⟩:=I.cell x c (eP e);exact Nat.ne_of_lt z.lt) (fun p hp=>by
           have hp':p∈X.pn++pins:=by simpa [cX] using hp
           exact Nat.ne_of_lt (Heap.lt_size (I.pin p hp').1))
       refine⟨m',hm,i+1,ys++[y],H10,its++[yv],nn',I12.pins_of fun p hp=>?_,rv.append (.cons r10 .nil),?_,T.keep _ _ _ st7 fun b hb o e=>?_,(kfp I10).2,w10⟩
       . have e:=List.mem_singleton.mp hp;subst e;exact⟨e2',pD.2.1,pD.2.2.1,pD.2.2.2.1,fun v z=>by cases z⟩
       . rw[List.length_append,List.length_singleton];omega
       . exact(Heap.get?_update_other s10.heap _ (Nat.ne_of_gt (ho b hb))).trans ((kfp I10).1 b hb o e)
 exact codeAny_compStart_list (loop _ rfl) (T.self _ 0 _ _ _ (T.keep _ _ _ st fun b _ o e=>old b o e) (loop _ rfl))
end
theorem Inv.track{X:Cx}{pins:List (Addr×Obj)}{σ:St}{H:Hp}{s:Shared}{a:Addr}{o:HO}(I:Inv X pins σ H s)(hn:H a=none)(ha:X.s₀.heap.objs.size <= a)(hL:a≠X.env.locals)(hcl:∀x c,X.env.cells.lookup x=some c->c≠a)(hp:∀p∈X.pn++pins,p.1≠a)(new:bZ X.prog X.w (upd H a o) s.heap a o):Inv X pins σ (upd H a o) s:=by
 have nn:∀b u,H b=some u->b≠a:=fun b u e z=>by rw[z,hn] at e;cases e
 refine⟨I.ok,I.os,I.bare,⟨I.base.keep,I.base.slot,fun b ob e n hx=>?_,I.base.there,fun b xs e=>?_,fun b ob u e=>?_,fun b ps e=>?_⟩,I.loc,I.cell,?_,fun x c e=>?_,fun p h=>?_,fun b u e=>?_,I.len⟩
 . rw[aE (Nat.ne_of_lt (Nat.lt_of_lt_of_le (Heap.lt_size e) ha))];exact I.base.free b ob e n hx
 . have:=I.base.tups b xs e;rw[aE (nn b _ this)];exact this
 . have:=I.base.frzs b ob u e;rw[aE (nn b _ this)];exact this
 . obtain⟨more,q⟩:=I.base.tbls b ps e;exact⟨more,by rw[aE (nn b _ q)];exact q⟩
 . rw[aE (Ne.symm hL)];exact I.free
 . rw[aE (hcl x c e)];exact I.freeC x c e
 . obtain⟨a1,a2,a3,a4,a5⟩:=I.pin p h;exact⟨a1,by rw[aE (hp p h)];exact a2,a3,a4,a5⟩
 . by_cases hb:b=a
   . subst hb;rw[aB] at e;cases e;exact new
   . rw[aE hb] at e;exact(I.hok b u e).stay (fun c v _ q=>q) (fun c q=>by rw[aE (nn c _ q)];exact q) fun c xs q=>by rw[aE (nn c _ q)];exact q
section
variable{X:Cx}{pins:List (Addr×Obj)}{σ:St}{H H':Hp}{s s':Shared}{scope:Scope}{own fr:List Str}{js:List Nat}{fp:List Addr}{C D:Addr}
theorem aA5{ys:List V}{its:List Value}{n:Nat}(I:Inv X pins σ H s)(f2:∀b∈fp,mY X pins H b)(hD:s.heap.objs.size <= D)(I':Inv (cX X scope (own++fr) fp pins s H C) [(D,{cls:=.type "list", data:=.seq its.toArray n})] (cst own.length js σ) H' s')(rv:bO ys its)(hz:ys.length <= sizeLine):Inv X pins σ (upd H' D (.lst ys)) s'/\H' D=none:=by
 have pD:=I'.pin (D,{cls:=.type "list", data:=.seq its.toArray n}) (List.mem_append_right _ (List.mem_singleton.mpr rfl));have I1:Inv X pins σ H' s':=I.call' I'.os I'.base I'.hok I'.bare fun b hb=>⟨(f2 b hb).2.2.2.1,(f2 b hb).2.1,(f2 b hb).2.2.2.2.1,(f2 b hb).2.2.2.2.2⟩;refine⟨I1.track pD.2.1 (Nat.le_trans I.sz hD) (Nat.ne_of_gt (Nat.lt_of_lt_of_le I.lt hD)) (fun x c e=>?_) (fun p hp=>?_) ⟨hz,its,n,rv,pD.1⟩,pD.2.1⟩
 . obtain⟨v,z⟩:=I.cell x c e;exact Nat.ne_of_lt (Nat.lt_of_lt_of_le z.lt hD)
 . exact Nat.ne_of_lt (Nat.lt_of_lt_of_le (Heap.lt_size (I.pin p hp).1) hD)
theorem aCn{pins0:List (Addr×Obj)}{σ0 σ1:St}{H0 H1:Hp}{h':Heap}(I0:Inv X pins0 σ0 H0 s)(I:Inv X pins0 σ1 H1 s')(hC:s.heap.objs.size <= C)(hn:H1 C=none)(hs:Heap.SameBut C s'.heap h'):Inv X pins0 σ1 H1 {s' with heap:=h'}:=by
 refine I.turned (t':=s'.toks) (it:=C) (fun b o hb e=>(hs.2 b hb).trans e) hn (Nat.ne_of_gt (Nat.lt_of_lt_of_le I0.lt hC)) (.inr (Nat.le_trans I0.sz hC)) (fun x c e=>?_) (fun p hp=>?_)
 . obtain⟨v,z⟩:=I0.cell x c e;exact Nat.ne_of_lt (Nat.lt_of_lt_of_le z.lt hC)
 . exact Nat.ne_of_lt (Nat.lt_of_lt_of_le (Heap.lt_size (I0.pin p hp).1) hC)
end
def aGa(own:Nat)(js:List Nat)(wi:TI)(g:TG)(tt:TT)(te:TE):TE:=fun σ H Q=>wi σ H fun J H1=>kP own js g tt te σ J H1 fun ys H2=>∀D,H2 D=none->Q (.ref D) (upd H2 D (.lst ys))
def aGi(i:Nat)(own:Nat)(js:List Nat)(wi:TI)(g:TG)(tt:TT)(te:TE):TS:=fun E σ H=>wi σ H fun J H1=>kP own js g tt te σ J H1 fun ys H2=>∀D,H2 D=none->E.nx (σ.set i (some (.ref D))) (upd H2 D (.lst ys))
section
variable{X:Cx}{scope:Scope}{own fr:List Str}{js:List Nat}{elt tg iter:Expr}{ifs:List Expr}{pos:Pos}{wi:TI}{g:TG}{tt:TT}{te:TE}
theorem gH{sc:Scope}{XN:List Str}(hsc:X.env.scope=sc)(hXN:X.N=XN)(hc:X.calm=true)(cs:nU sc XN scope own fr js)(hi:PI X tg iter wi)(hg:∀fp pins s H C,PG (cX X scope (own++fr) fp pins s H C) tg g)(ht:∀fp pins s H C,PTs (cX X scope (own++fr) fp pins s H C) ifs tt)(he:∀fp pins s H C,PE (cX X scope (own++fr) fp pins s H C) elt te)(hs:∀x,foldedSetIterable iter X.env x=pure x:=by intro _;rfl):PE X (.ListComp elt [⟨tg,iter,ifs,0⟩] scope pos) (aGa own.length js wi g tt te):=by
 subst hsc hXN;intro pins s σ H Q I h;rw[eval_ListComp];refine wpAny_comprehension_free (use:=none) rfl hs (dS fun y hy e=>I.ok.has y.1 (cs.free y hy e)) cs.kind cs.loc (thn (hi pins s σ H _ I h) fun v s1 h1=>thn h1 fun itv s2 h2=>?_);obtain⟨it,fp,tn,J,H2,e,I2,T,st2,f2,rd⟩:=h2;subst e;refine vF (RR:=fun acc C=>compPost (model X.prog X.w) X.A X.xe none (EP X pins σ Q) acc C) hc I2 cs T st2 f2 (fun C=>hg _ _ _ _ C) (fun C=>ht _ _ _ _ C) (fun C=>he _ _ _ _ C) rd ?_;intro D C s' H' ys its n hD hC hDC I' rv hz q;obtain⟨m,hm,_⟩:=I'.loc;obtain⟨I3,hn3⟩:=aA5 I2 f2 hD I' rv hz;refine⟨m,hm,fun h' hs'=>⟨.ref D,_,aCn I2 I3 hC ?_ hs',rfl,q D hn3⟩⟩;rw[aE (Ne.symm hDC)];exact I'.free
theorem oQ{i:Nat}{y:Str}{py spos:Pos}(hN:X.N.Nodup)(hi':X.N[i]?=some y)(hy:X.env.scope.names.lookup y=some .local)(hsw:swapsWith (.ListComp elt [⟨tg,iter,ifs,0⟩] scope pos) (some (.Name y py)) spos.line X.env=pure true){sc:Scope}{XN:List Str}(hsc:X.env.scope=sc)(hXN:X.N=XN)(hc:X.calm=true)(cs:nU sc XN scope own fr js)(hi:PI X tg iter wi)(hg:∀fp pins s H C,PG (cX X scope (own++fr) fp pins s H C) tg g)(ht:∀fp pins s H C,PTs (cX X scope (own++fr) fp pins s H C) ifs tt)(he:∀fp pins s H C,PE (cX X scope (own++fr) fp pins s H C) elt te)(hs:∀x,foldedSetIterable iter X.env x=pure x:=by intro _;rfl):PS X (.Assign [.Name y py] (.ListComp elt [⟨tg,iter,ifs,0⟩] scope pos) spos) (aGi i own.length js wi g tt te):=by
 subst hsc hXN;intro pins s σ H E I h;rw[exec_Assign_Name_used _ _ _ _ hsw];refine wpAny_bind (wpAny_standAt (wpAny_bind ?_));show wpAny _ X.A (do let _ <- comprehension (.ListComp elt [⟨tg,iter,ifs,0⟩] scope pos) scope X.env _ (newList []) false (eval iter X.env) (some (assign (.Name y py) X.env))) _ _ s;refine wpAny_bind (wpAny_mono (wpAny_comprehension_free (use:=some (assign (.Name y py) X.env)) (Q:=fun _ s'=>SP X pins E .next s') rfl hs (dS fun y hy e=>I.ok.has y.1 (cs.free y hy e)) cs.kind cs.loc (thn (hi pins s σ H _ I h) fun v s1 h1=>thn h1 fun itv s2 h2=>?_)) (fun _ s' hq=>wpAny_pure (wpAny_pure hq)) fun _ _ e=>e);obtain⟨it,fp,tn,J,H2,e,I2,T,st2,f2,rd⟩:=h2;subst e;refine vF (RR:=fun acc C=>compPost (model X.prog X.w) X.A X.xe (some (assign (.Name y py) X.env)) (fun _ s'=>SP X pins E .next s') acc C) hc I2 cs T st2 f2 (fun C=>hg _ _ _ _ C) (fun C=>ht _ _ _ _ C) (fun C=>he _ _ _ _ C) rd ?_;intro D C s' H' ys its n hD hC hDC I' rv hz q;obtain⟨m,hm,_⟩:=I'.loc;obtain⟨I3,hn3⟩:=aA5 I2 f2 hD I' rv hz;show wpAny _ X.A (assign (.Name y py) X.env (.ref D)) _ _ _;refine wpAny_assign_Name (qC I3 hN hi' (.inl hy) (v:=.ref D) rfl (fun s4 I4 hsb=>?_) (.inr hy));obtain⟨a,sb,ha⟩:=hsb;have hCa:C≠a:=by
   rcases ha with z|z
   . rw[z];exact Nat.ne_of_gt (Nat.lt_of_lt_of_le I2.lt hC)
   . obtain⟨v,q⟩:=I2.cell y a z;exact Nat.ne_of_gt (Nat.lt_of_lt_of_le q.lt hC)
 have hm':s'.heap.Ns C m:=hm;refine⟨m,hm'.sameBut sb hCa,fun h' hs'=>⟨_,_,aCn I2 I4 hC ?_ hs',q D hn3⟩⟩;rw[aE (Ne.symm hDC)];exact I'.free
end
theorem tM{J:It}{n:Nat}{own:Nat}{js:List Nat}{g:TG}{tt:TT}{te:TE}{σ:St}{H:Hp}{Qf:List V->Hp->Prop}(Pv:Nat->List V->Hp->Prop)(h0:Pv 0 [] H)(hz:n <= 1000)(hlen:∀i ys H2,Pv i ys H2->ys.length <= i)(hgo:∀i ys H2,i<n->Pv i ys H2->J.go i H2)(hstop:∀ys H2,Pv n ys H2->J.stop n H2/\Qf ys H2)(hs:∀i ys H2 x H3,i<n->Pv i ys H2->J.yld i H2 x H3->g x (cst own js σ) H3 fun σ3 H4=>tt σ3 H4 fun b H5=>if b=true then te σ3 H5 fun y H6=>Pv (i+1) (ys++[y]) H6 else Pv (i+1) ys H5): kP own js g tt te σ J H Qf:=by
 refine⟨fun i m ys H2=>m=n - i/\i <= n/\Pv i ys H2,⟨n,by simp,Nat.zero_le _,h0⟩,?_⟩;rintro i m ys H2 ⟨rfl,hi,p⟩;by_cases hlt:i<n
 . refine .inr ⟨hgo i ys H2 hlt p,?_,Pv (i+1),fun ys' H3 p'=>⟨n - (i+1),by omega,rfl,hlt,p'⟩,fun x H3 y=>hs i ys H2 x H3 hlt p y⟩;have:=hlen i ys H2 p;exact Nat.lt_of_le_of_lt (show ys.length <= 1000 by omega) (by decide)
 . have e:i=n:=by omega
   subst e;exact .inl (hstop ys H2 p)
theorem aFh{f:Nat->Option V}(i:Nat):((List.range i).filterMap f).length <= i:=by
 refine Nat.le_trans (List.length_filterMap_le _ _) ?_;rw[List.length_range];exact Nat.le_refl _
theorem aE0{f:Nat->Option V}(i:Nat):(List.range (i+1)).filterMap f=(List.range i).filterMap f++(f i).toList:=by
 rw[List.range_succ,List.filterMap_append];congr 1
theorem rL{J:It}{n:Nat}{own:Nat}{js:List Nat}{g:TG}{tt:TT}{te:TE}{σ:St}{H:Hp}{Qf:List V->Hp->Prop}(f:Nat->Option V)(hz:n <= 1000)(hgo:∀i H2,i<n->Same H H2->J.go i H2)(hstop:∀H2,Same H H2->J.stop n H2)(hd:∀H',Same H H'->Qf ((List.range n).filterMap f) H')(hs:∀i ys H2 x H3(N:List V->Hp->Prop),i<n->Same H H2->J.yld i H2 x H3->(∀H4,Same H H4->N (ys++(f i).toList) H4) -> g x (cst own js σ) H3 fun σ3 H4=>tt σ3 H4 fun b H5=>if b=true then te σ3 H5 fun y H6=>N (ys++[y]) H6 else N ys H5): kP own js g tt te σ J H Qf:=by
 refine tM (n:=n) (fun i ys H2=>Same H H2/\ys=(List.range i).filterMap f) ⟨Same.refl H,rfl⟩ hz (fun i ys H2 ⟨_,e⟩=>by rw[e];exact aFh i) (fun i ys H2 hi ⟨sm,_⟩=>hgo i H2 hi sm) (fun ys H2 ⟨sm,e⟩=>⟨hstop H2 sm,by rw[e];exact hd H2 sm⟩) ?_;rintro i ys H2 x H3 hi ⟨sm,rfl⟩ y;refine hs i _ H2 x H3 (fun ys' H'=>Same H H'/\ys'=(List.range (i+1)).filterMap f) hi sm y fun H4 s4=>⟨s4,?_⟩;rw[aE0]
theorem eO{K:W.Frag}{a:Addr}{xs:List V}{own:Nat}{js:List Nat}{g:TG}{tt:TT}{te:TE}{σ:St}{H:Hp}{Qf:List V->Hp->Prop}(f:Nat->Option V)(hl:SqL K H a xs)(hz:xs.length <= 1000)(hd:∀H',Same H H'->Qf ((List.range xs.length).filterMap f) H')(hs:∀(i:Nat)ys H2 x(N:List V->Hp->Prop),xs[i]?=some x->Same H H2->(∀H4,Same H H4->N (ys++(f i).toList) H4) -> g x (cst own js σ) H2 fun σ3 H4=>tt σ3 H4 fun b H5=>if b=true then te σ3 H5 fun y H6=>N (ys++[y]) H6 else N ys H5):kP own js g tt te σ (Itl K a) H Qf:=by
 refine rL f hz (fun i H2 hi sm=>⟨xs,xs[i],sm.seq hl,by simp[hi]⟩) (fun H2 sm=>⟨xs,sm.seq hl,Nat.le_refl _⟩) hd ?_;intro i ys H2 x H3 N hi sm y hN;obtain⟨e,y⟩:=y;subst e;exact hs i ys _ x N (y xs (sm.seq hl)) sm hN
theorem Inv.turnedL{X:Cx}{pins:List (Addr×Obj)}{σ:St}{H:Hp}{s:Shared}{h':Heap}{t':Nat}{ch:List Addr}(I:Inv X pins σ H s)(k:∀b o,b∉ch->s.heap.get? b=some o->h'.get? b=some o)(f:∀b∈ch,mY X pins H b): Inv X pins σ H {s with heap:=h',toks:=t'}:=by
 have nit:∀b u,H b=some u->b∉ch:=fun b u e z=>by rw[(f b z).1] at e;cases e
 refine I.step (g':=s.gens) (d':=s.drawn) (ch:=ch) (fun b hb=>?_) (fun b o _ _ hc e _=>k b o hc e) (fun b o _ _ hc e _=>⟨o.slots,k b o hc e⟩) (fun _ _ _ _ n=>n) (fun b o hc e=>⟨o,k b o hc e⟩) (fun _ _ e=>e) (fun _ _ _ e=>e) (fun b ps e=>⟨#[],by rw[e];simp⟩) (fun m hm=>?_) (fun b u e=>?_) I.bare
 . obtain⟨f0,f1,f2,f3,f4,f5⟩:=f b hb;exact⟨f3,f1,f4,f5⟩
 . obtain⟨o,es,ep,ho,r⟩:=hm;exact⟨o,es,ep,k _ o (fun z=>(f _ z).2.1 rfl) ho,r⟩
 . refine(I.hok b u e).stay (fun c v hc q=>k c v ?_ q) (fun _ q=>q) fun _ _ q=>q;rcases hc with z|z
   . rw[z];exact nit b u e
   . exact nit c _ z
theorem Inv.sq_ne{X:Cx}{pins:List (Addr×Obj)}{σ:St}{H:Hp}{s:Shared}{a b:Addr}{xs:List V}(I:Inv X pins σ H s)(h:SqL X.K H a xs)(f:mY X pins H b):a≠b:=by
 intro e;subst e;obtain⟨f0,f1,f2,f3,f4,f5⟩:=f;rcases h with(h|⟨o,h⟩)|⟨o,its,n,h,_⟩
 . rw[f0] at h;cases h
 . rw[f0] at h;cases h
 . have hb:=I.ok.mod.kin a o h;rcases f3 with z|z
   . exact I.ok.noex a o hb z
   . exact absurd (Nat.lt_of_lt_of_le (Heap.lt_size hb) (Nat.le_trans I.ok.bsz z)) (Nat.lt_irrefl _)
def Ite(K:W.Frag)(a:Addr):It:=⟨fun i H=>∃xs x,SqL K H a xs/\xs[i]?=some x,fun i H x H'=>∃p y,x=.ref p/\H p=none/\(∀xs,SqL K H a xs->xs[i]?=some y)/\H'=upd H p (.tup [.int i,y]),fun i H=>∃xs,SqL K H a xs/\xs.length <= i⟩
def Itz(K:W.Frag)(a b:Addr):It:=⟨fun i H=>∃xs x zs z,SqL K H a xs/\xs[i]?=some x/\SqL K H b zs/\zs[i]?=some z,fun i H x H'=>∃p y z,x=.ref p/\H p=none/\(∀xs,SqL K H a xs->xs[i]?=some y)/\(∀zs,SqL K H b zs->zs[i]?=some z)/\H'=upd H p (.tup [y,z]),fun i H=>∃xs zs,SqL K H a xs/\SqL K H b zs/\(xs.length <= i\/zs.length <= i)⟩
theorem wZ{P:Program}{w:World}{K:W.Frag}{elts:List Expr}{x1}{tpos:Pos}(a e it:Addr)(hei:e≠it): aEa P w K (.Tuple elts x1 tpos) (Ite K a) [e,it] e (fun i h=>(∃old,IsEnum h e it i old)/\h.IsListIter it a i) where
 mem:=by simp
 obj:=fun i h st b hb=>by
   obtain⟨⟨old,h1⟩,o,h2,c2,d2⟩:=st;rcases List.mem_cons.mp hb with rfl|hb
   . exact⟨_,h1,fun v z=>by cases z⟩
   . have e':b=it:=by simpa using hb
     subst e';exact⟨o,h2,fun v z=>by rw[d2] at z;cases z⟩
 keep:=fun i h h' st k=>⟨by obtain⟨⟨old,h1⟩,_⟩:=st;exact⟨old,k e (by simp) _ h1⟩,st.2.at fun o q=>k it (by simp) o q⟩
 item:=by
   intro X hP hw hK hc i pins s σ H E I hf st hg;subst hP hw hK;obtain⟨xs,x,hq,hx⟩:=hg;obtain⟨⟨old,he⟩,hit⟩:=st;obtain⟨its,rv,p,hz⟩:=I.list hq;obtain⟨u,hu,ru⟩:=rv.get hx;refine wpAny_pyNext_enum_item he hit p.isList (x:=u) (by simpa using hu) hei fun h' ho hit' hT hsz hk=>?_;refine⟨_,rfl,wpAny_letOwnedTupleGo_enum ho fun h2 he2 hs2=>?_⟩;have hp:s.heap.objs.size≠e:=Nat.ne_of_gt (Heap.lt_size he);have hpi:s.heap.objs.size≠it:=by obtain⟨o,z,_⟩:=hit;exact Nat.ne_of_gt (Heap.lt_size z)
   have I1:Inv X pins σ H {s with heap:=h2,toks:=s.toks+1}:=I.turnedL (ch:=[e,it]) (fun b o hb q=>hs2.extBut b o (fun z=>hb (by simp[z])) (hk b o (fun z=>hb (by simp[z])) (fun z=>hb (by simp[z])) q)) hf;have hfr:=I.fresh;have fpo:=I.fpOk (H':=H) (Nat.le_refl _) hfr;have hT2:h2.get? s.heap.objs.size=some {cls:=.type "tuple", data:=.seq #[.int i s.toks,u]}:=hs2.extBut _ _ hp hT;refine⟨.ref s.heap.objs.size,upd H s.heap.objs.size (.tup [.int i,x]),I1.track hfr (Nat.le_trans I.sz (Nat.le_refl _)) fpo.2.1 fpo.2.2.2.2.1 fpo.2.2.2.2.2 ?_,rfl,⟨_,x,rfl,hfr,fun zs hy=>by rw[I.list_inj hy hq];exact hx,rfl⟩,⟨⟨_,by simpa using he2⟩,hit'.extBut hs2.extBut (Ne.symm hei)⟩,fun b hb=>?_⟩
   . exact⟨by show 2 <= sizeLine;decide,[.int i s.toks,u],.cons ⟨_,rfl⟩ (.cons ru .nil),_,hT2,rfl,_,rfl⟩
   . rw[aE ?_]
     . exact(hf b hb).1
     . rcases List.mem_cons.mp hb with rfl|hb
       . exact Ne.symm hp
       . have e':b=it:=by simpa using hb
         subst e';exact Ne.symm hpi
 done:=by
   intro X hP hw hK hc i pins s σ H E I hf st hg;subst hP hw hK;obtain⟨xs,hq,hx⟩:=hg;obtain⟨⟨old,he⟩,hit⟩:=st;obtain⟨its,rv,p,hz⟩:=I.list hq;obtain⟨f0,f1,f2,f3,f4,f5⟩:=hf it (by simp);have hl:=rv.length;exact wpAny_pyNext_enum_end (I.ok.hd hc) he hit p.isList (by simp;omega) fun h' eb=>⟨rfl,I.turned (t':=s.toks) (fun b o hb e=>eb b o hb e) f0 f1 f3 f4 f5⟩
 self:=fun _ _ _ _ _ st h=>by
   obtain⟨⟨old,he⟩,_⟩:=st;exact wpAny_pyIter_enum he h
theorem aAo{P:Program}{w:World}{K:W.Frag}{elts:List Expr}{x1}{tpos:Pos}(a b z TI TO i1 i2:Addr)(d1:TI≠z)(d2:TO≠z)(d3:i1≠z)(d4:i2≠z)(d5:TI≠TO)(d6:TI≠i1)(d7:TI≠i2)(d8:TO≠i1)(d9:TO≠i2)(d10:i1≠i2): aEa P w K (.Tuple elts x1 tpos) (Itz K a b) [z,TI,TO,i1,i2] z (fun i h=>IsZip h z TI TO .none/\IsPair h TI (.ref i1) (.ref i2)/\(∃u v,IsPair h TO u v)/\h.IsListIter i1 a i/\h.IsListIter i2 b i) where
 mem:=by simp
 obj:=fun i h st c hc=>by
   obtain⟨h1,h2,⟨u,v,h3⟩,⟨o4,h4,_,e4⟩,⟨o5,h5,_,e5⟩⟩:=st;simp at hc;rcases hc with rfl|rfl|rfl|rfl|rfl
   . exact⟨_,h1,fun v z=>by cases z⟩
   . exact⟨_,h2,fun v z=>by cases z⟩
   . exact⟨_,h3,fun v z=>by cases z⟩
   . exact⟨_,h4,fun v z=>by rw[e4] at z;cases z⟩
   . exact⟨_,h5,fun v z=>by rw[e5] at z;cases z⟩
 keep:=fun i h h' st k=>by
   obtain⟨h1,h2,⟨u,v,h3⟩,h4,h5⟩:=st;exact⟨k z (by simp) _ h1,k TI (by simp) _ h2,⟨u,v,k TO (by simp) _ h3⟩,h4.at fun o q=>k i1 (by simp) o q,h5.at fun o q=>k i2 (by simp) o q⟩
 item:=by
   intro X hP hw hK hc i pins s σ H E I hf st hg;subst hP hw hK;obtain⟨xs,x,ys,y,hq,hx,hq',hy⟩:=hg;obtain⟨h1,h2,⟨u0,v0,h3⟩,h4,h5⟩:=st;obtain⟨its,rv,p,hz⟩:=I.list hq;obtain⟨u,hu,ru⟩:=rv.get hx;obtain⟨its',rv',p',hz'⟩:=I.list hq';obtain⟨u',hu',ru'⟩:=rv'.get hy;have D:ZipApart z TI TO i1 i2 a b:=⟨d1,d2,d3,d4,d5,d6,d7,d8,d9,d10,I.sq_ne hq (hf z (by simp)),I.sq_ne hq (hf TO (by simp)),I.sq_ne hq (hf i1 (by simp)),I.sq_ne hq (hf i2 (by simp)),I.sq_ne hq' (hf z (by simp)),I.sq_ne hq' (hf TO (by simp)),I.sq_ne hq' (hf i1 (by simp)),I.sq_ne hq' (hf i2 (by simp))⟩;refine wpAny_pyNext_zip_item D h1 h2 h3 h4 h5 p.isList p'.isList (x:=u) (y:=u') (by simpa using hu) (by simpa using hu') fun h' a1 a2 a3 a4 a5 a6 hk=>?_;refine⟨_,rfl,wpAny_letOwnedTupleGo_zip a1 fun h2' hz2 hs2=>?_⟩;have hpz:s.heap.objs.size≠z:=Nat.ne_of_gt (Heap.lt_size h1);have hpn:∀c∈[z,TI,TO,i1,i2],c≠s.heap.objs.size:=fun c hc=>by
     simp at hc;obtain⟨o4,g4,_⟩:=h4;obtain⟨o5,g5,_⟩:=h5;rcases hc with rfl|rfl|rfl|rfl|rfl
     . exact Nat.ne_of_lt (Heap.lt_size h1)
     . exact Nat.ne_of_lt (Heap.lt_size h2)
     . exact Nat.ne_of_lt (Heap.lt_size h3)
     . exact Nat.ne_of_lt (Heap.lt_size g4)
     . exact Nat.ne_of_lt (Heap.lt_size g5)
   have I1:Inv X pins σ H {s with heap:=h2',toks:=s.toks}:=I.turnedL (ch:=[z,TI,TO,i1,i2]) (fun c o hb q=>by
     simp at hb;exact hs2.extBut c o hb.1 (hk c o hb.1 hb.2.2.1 hb.2.2.2.1 hb.2.2.2.2 q)) hf
   have hfr:=I.fresh;have fpo:=I.fpOk (H':=H) (Nat.le_refl _) hfr;have hT2:IsPair h2' s.heap.objs.size u u':=hs2.extBut _ _ hpz a5;refine⟨.ref s.heap.objs.size,upd H s.heap.objs.size (.tup [x,y]),I1.track hfr I.sz fpo.2.1 fpo.2.2.2.2.1 fpo.2.2.2.2.2 ?_,rfl,⟨_,x,y,rfl,hfr,fun zs h=>by rw[I.list_inj h hq];exact hx,fun zs h=>by rw[I.list_inj h hq'];exact hy,rfl⟩,⟨hz2,hs2.extBut _ _ d1 (hk _ _ d1 d5 d6 d7 h2),⟨_,_,hs2.extBut _ _ d2 a2⟩,a3.extBut hs2.extBut d3,a4.extBut hs2.extBut d4⟩,fun c hc=>?_⟩
   . exact⟨by show 2 <= sizeLine;decide,[u,u'],.cons ru (.cons ru' .nil),_,hT2,rfl,_,rfl⟩
   . rw[aE (hpn c hc)];exact(hf c hc).1
 done:=by
   intro X hP hw hK hc i pins s σ H E I hf st hg;subst hP hw hK;obtain⟨xs,ys,hq,hq',hx⟩:=hg;obtain⟨h1,h2,⟨u0,v0,h3⟩,h4,h5⟩:=st;obtain⟨its,rv,p,hz⟩:=I.list hq;obtain⟨its',rv',p',hz'⟩:=I.list hq';have D:ZipApart z TI TO i1 i2 a b:=⟨d1,d2,d3,d4,d5,d6,d7,d8,d9,d10,I.sq_ne hq (hf z (by simp)),I.sq_ne hq (hf TO (by simp)),I.sq_ne hq (hf i1 (by simp)),I.sq_ne hq (hf i2 (by simp)),I.sq_ne hq' (hf z (by simp)),I.sq_ne hq' (hf TO (by simp)),I.sq_ne hq' (hf i1 (by simp)),I.sq_ne hq' (hf i2 (by simp))⟩;have hl:=rv.length;have hl':=rv'.length;refine wpAny_pyNext_zip_end (I.ok.hd hc) D h1 h2 h3 h4 h5 p.isList p'.isList ?_ fun h' hk=>⟨rfl,?_⟩
   . rcases hx with hx|hx
     . exact .inl (by simp;omega)
     . exact .inr (by simp;omega)
   . exact I.turnedL (t':=s.toks) (ch:=[z,TI,TO,i1,i2]) (fun c o hb q=>by
       simp at hb;exact hk c o hb.1 hb.2.2.1 hb.2.2.2.1 hb.2.2.2.2 q) hf
 self:=fun _ _ _ _ _ st h=>wpAny_pyIter_zip st.1 h
theorem aAm{P:Program}{w:World}{K:W.Frag}{elts:List Expr}{x1}{tpos:Pos}(a b:Addr)(n:Nat): aEa P w K (.Tuple elts x1 tpos) (Itz K a b) [n+4,n+2,n+3,n,n+1] (n+4) (fun i h=>IsZip h (n+4) (n+2) (n+3) .none/\IsPair h (n+2) (.ref n) (.ref (n+1))/\(∃u v,IsPair h (n+3) u v)/\h.IsListIter n a i/\h.IsListIter (n+1) b i):=by
 have q:∀x y:Nat,x<y->x≠y:=fun x y h=>Nat.ne_of_lt h;have q':∀x y:Nat,y<x->x≠y:=fun x y h=>Nat.ne_of_gt h;exact aAo a b (n+4) (n+2) (n+3) n (n+1) (q _ _ (by omega)) (q _ _ (by omega)) (q _ _ (by omega)) (q _ _ (by omega)) (q _ _ (by omega)) (q' _ _ (by omega)) (q' _ _ (by omega)) (q' _ _ (by omega)) (q' _ _ (by omega)) (q _ _ (by omega))
section
variable{X:Cx}{elts:List Expr}{x1:Nat}{tpos:Pos}
def aGr(K:W.Frag)(ta:TA):TI:=fun σ H R=>ta σ H fun vs H1=>∃a,vs=[.ref a]/\(∃xs,SqL K H1 a xs)/\R (Ite K a) H1
def aI5(K:W.Frag)(ta:TA):TI:=fun σ H R=>ta σ H fun vs H1=>∃a b,vs=[.ref a,.ref b]/\(∃xs,SqL K H1 a xs)/\(∃xs,SqL K H1 b xs)/\R (Itz K a b) H1
theorem aDb{a:Expr}{ta:TA}{p pos:Pos}(hg:Gl X "enumerate")(hm:X.mg "enumerate"=none)(ha:PA X [a] ta)(hs:starEach [a] X.env=[(false,eval a X.env)]:=by rfl): PI X (.Tuple elts x1 tpos) (.Call (.Name "enumerate" p) [a] [] pos) (aGr X.K ta):=by
 intro pins s σ H R I h;refine Call_ (fT I hg hm boot_enumerate (PyProof.Rows.callWith_type1 (thn (ha pos pins s σ H _ I h) fun us s1 ⟨vs,H1,I1,r1,q1⟩=>?_) hs rfl));obtain⟨a,e,⟨xs,hq⟩,q⟩:=q1;subst e;obtain⟨u,rfl,ru⟩:=r1.one;cases ru;obtain⟨its,rv,pl,hz⟩:=I1.list hq;refine call_enumerate_list pl.isList fun h' he hit hsz hk=>?_;refine wpAny_pyIter_enum he ?_;have I2:Inv X pins σ H1 {s1 with heap:=h'}:=I1.kept (t':=s1.toks) hk;refine⟨_,[s1.heap.objs.size+1,s1.heap.objs.size],_,_,H1,rfl,I2,wZ a _ s1.heap.objs.size (Nat.succ_ne_self _),⟨⟨_,he⟩,hit⟩,fun b hb=>?_,q⟩;have hb':s1.heap.objs.size <= b:=by
   simp at hb;exact hb.elim (fun z=>z▸Nat.le_succ _) fun z=>z▸Nat.le_refl _
 exact I1.fpOk hb' (I1.hok.fresh hb')
theorem aEz{a b:Expr}{ta:TA}{p pos:Pos}(hg:Gl X "zip")(hm:X.mg "zip"=none)(ha:PA X [a,b] ta)(hs:starEach [a,b] X.env=[(false,eval a X.env),(false,eval b X.env)]:=by rfl)(hs2:starEach [b] X.env=[(false,eval b X.env)]:=by rfl): PI X (.Tuple elts x1 tpos) (.Call (.Name "zip" p) [a,b] [] pos) (aI5 X.K ta):=by
 intro pins s σ H R I h;refine Call_ (fT I hg hm boot_zip (PyProof.Rows.callWith_type1 (thn (ha pos pins s σ H _ I h) fun us s1 ⟨vs,H1,I1,r1,q1⟩=>?_) (by rw[hs,hs2]) (by rw[hs2];rfl)));obtain⟨a,b,e,⟨xs,hq⟩,⟨ys,hq'⟩,q⟩:=q1;subst e;obtain⟨u,u',rfl,ru,ru'⟩:=r1.two;cases ru;cases ru';obtain⟨its,rv,pl,hz⟩:=I1.list hq;obtain⟨its',rv',pl',hz'⟩:=I1.list hq';refine call_zip_2 pl.isList pl'.isList fun h' g1 g2 g3 g4 g5 g6 hk=>?_;refine wpAny_pyIter_zip g1 ?_;have I2:Inv X pins σ H1 {s1 with heap:=h'}:=I1.kept (t':=s1.toks) hk;refine⟨_,[s1.heap.objs.size+4,s1.heap.objs.size+2,s1.heap.objs.size+3,s1.heap.objs.size,s1.heap.objs.size+1],_,_,H1,rfl,I2,aAm a b s1.heap.objs.size,⟨g1,g2,⟨_,_,g3⟩,g4,g5⟩,fun c hc=>?_,q⟩;have hb':s1.heap.objs.size <= c:=by
   simp at hc;rcases hc with rfl|rfl|rfl|rfl|rfl
   . exact Nat.le_add_right _ _
   . exact Nat.le_add_right _ _
   . exact Nat.le_add_right _ _
   . exact Nat.le_refl _
   . exact Nat.le_add_right _ _
 exact I1.fpOk hb' (I1.hok.fresh hb')
end
theorem Same.upd{H H':Hp}{p:Addr}{o:HO}(e:Same H H')(h:H' p=none):Same H (upd H' p o):=fun b u q=>by
 have:=e b u q;rw[aE (aH this h)];exact this
theorem Same.tup{K:W.Frag}{H H':Hp}{a:Addr}{xs:List V}(e:Same H H')(h:SqT K H a xs):SqT K H' a xs:=by
 rcases h with(h|⟨o,h⟩)|h
 . exact .inl (.inl (e _ _ h))
 . exact .inl (.inr ⟨o,e _ _ h⟩)
 . exact .inr h
theorem aBy{K:W.Frag}{a c:Addr}{xs zs:List V}{own:Nat}{js:List Nat}{g:TG}{tt:TT}{te:TE}{σ:St}{H:Hp}{Qf:List V->Hp->Prop}(f:Nat->Option V)(hl:SqL K H a xs)(hl':SqL K H c zs)(hz:xs.length <= 1000)(hd:∀H',Same H H'->Qf ((List.range (min xs.length zs.length)).filterMap f) H')(hs:∀(i:Nat)ys H2 x z p(N:List V->Hp->Prop),xs[i]?=some x->zs[i]?=some z->Same H H2->SqT K H2 p [x,z]->(∀H4,Same H H4->N (ys++(f i).toList) H4) -> g (.ref p) (cst own js σ) H2 fun σ3 H4=>tt σ3 H4 fun b H5=>if b=true then te σ3 H5 fun y H6=>N (ys++[y]) H6 else N ys H5):kP own js g tt te σ (Itz K a c) H Qf:=by
 refine rL f (n:=min xs.length zs.length) (by omega) (fun i H2 hi sm=>⟨xs,xs[i]'(by omega),zs,zs[i]'(by omega),sm.seq hl,List.getElem?_eq_getElem _,sm.seq hl',List.getElem?_eq_getElem _⟩) (fun H2 sm=>⟨xs,zs,sm.seq hl,sm.seq hl',by omega⟩) hd ?_;intro i ys H2 x H3 N hi sm y hN;obtain⟨p,y,z,e,hp,hx,hx2,e'⟩:=y;subst e e';exact hs i ys _ y z p N (hx xs (sm.seq hl)) (hx2 zs (sm.seq hl')) (sm.upd hp) (SqT.of aB) hN
theorem lY(ns:List Int):∀k,preSum (fun i=>(ns[i]?).getD 0) k=(ns.take k).sum
 |0=>by simp[preSum]
 |k+1=>by
   rw[preSum,lY ns k,List.take_add_one,List.sum_append];cases ns[k]? <;> simp
section
variable{X:Cx}
theorem pR(hc:X.calm=true):iA X (.builtin "sum") (fun xs H Q=>∃(p:Addr)(ns:List Int),xs=[.ref p]/\SqL X.K H p (ns.map V.int)/\Q (.int ns.sum) H):=by
 intro pins s σ H xs us Q I rv h;obtain⟨p,ns,rfl,hq,q⟩:=h;obtain⟨u,rfl,ru⟩:=rv.one;cases ru;obtain⟨its,rv',pl,hz⟩:=I.list hq;have hlt:p<s.heap.objs.size:=by obtain⟨o,n,e,_⟩:=pl;exact Heap.lt_size e
 refine call_sum_walkG (wpAny_pyIter_list pl.isList ?_);refine⟨s.heap.objs.size,_,_,_,_,_,fun i=>(ns[i]?).getD 0,rfl,Walks.list (A:=X.A.in1) (I.ok.hd hc) _ p (Nat.ne_of_lt hlt) _,⟨⟨_,Heap.get?_push_size _ rfl,rfl,rfl⟩,pl.isList.push _⟩,?_,?_,fun h' tk t' hk=>?_⟩
 . intro b hb;show b<(s.heap.push _).objs.size;rw[Heap.size_push];simp at hb;exact hb.elim (fun z=>z▸Nat.lt_succ_self _) fun z=>z▸Nat.lt_succ_of_lt hlt
 . intro i v hv;have hv':its[i]?=some v:=by simpa using hv
   have hl:i<its.length:=(List.getElem?_eq_some_iff.mp hv').1;have hl2:=rv'.length;rw[List.length_map] at hl2;have e:(ns.map V.int)[i]?=some (.int ns[i]):=by rw[List.getElem?_map,List.getElem?_eq_getElem (by omega)];rfl
   obtain⟨u,hu,ru⟩:=rv'.get e;rw[hv'] at hu;cases hu;obtain⟨t,et⟩:=ru;refine⟨t,?_⟩;rw[et];dsimp only;rw[List.getElem?_eq_getElem (show i<ns.length by omega)];rfl
 . refine⟨.int _,H,I.kept (t':=tk) fun b o e=>hk b o (fun z=>?_) (Heap.get?_push_of_some _ e),⟨t',?_⟩,q⟩
   . have:b=s.heap.objs.size:=by simpa using z
     exact absurd (Heap.lt_size e) (by rw[this];exact Nat.lt_irrefl _)
   . have e2:its.toArray.size=ns.length:=by have:=rv'.length;simp at this ⊢;omega
     rw[e2,lY,List.take_of_length_le (Nat.le_refl _)]
theorem bL:iA X (.builtin "isinstance") (fun xs H Q=>∃(x:V)(n:String)(t:Value)(b:Bool),xs=[x,.ty n]/\wT X.K H x t/\W.kitOne X.K t (.type n)=some b/\Q (.bl b) H):=by
 intro pins s σ H xs us Q I rv h;obtain⟨x,n,t,b,rfl,ty,e,q⟩:=h;obtain⟨u,u2,rfl,ru,ru2⟩:=rv.two;cases ru2;exact zH I ru ty e fun tk=>⟨.bl b,H,I.tok tk,rfl,q⟩
theorem qS(hu:X.A.units<cLine):OpR X (compareOp .NotEq) (fun x y H Q=>∃(a b:Addr)(xs:List V),x=.ref a/\y=.ref b/\SqL X.K H a xs/\SqL X.K H b []/\Q (.bl (!xs.isEmpty)) H):=by
 intro pins s σ H x y v u Q I rx ry h;obtain⟨a,b,xs,rfl,rfl,ha,hb,q⟩:=h;cases rx;cases ry;obtain⟨its,rv,pl,hz⟩:=I.list ha;obtain⟨its2,rv2,pl2,hz2⟩:=I.list hb;cases rv2;cases rv with
 |nil=>
   refine SeqAt.RcNeAt.lists pl.isList pl2.isList rfl hu (e:=fun _=>true) (fun j h1 h2=>absurd h1 (by simp)) _ _ _ _ ⟨.bl _,H,I,rfl,q⟩
 |cons r t=>
   exact SeqAt.RcNeAt.lists_lengths pl.isList pl2.isList (by simp) hu _ _ _ _ ⟨.bl _,H,I,rfl,q⟩
end
def pG:List Int->Option Int
 |[]=>none
 |x::r=>some (r.foldl (fun m y=>if y<m then y else m) x)
theorem yV(ns:List Int)(b y:Int)(h:pG ns=some b):pG (ns++[y])=some (if y<b then y else b):=by
 cases ns with
 |nil=>cases h
 |cons x r=>
   have e:r.foldl (fun m y=>if y<m then y else m) x=b:=Option.some.inj h;show some ((r++[y]).foldl (fun m y=>if y<m then y else m) x)=_;rw[List.foldl_append,e];rfl
theorem uY:∀{ns:List Int}{b:Int},pG ns=some b->b∈ns:=by
 have key:∀(r:List Int)(x:Int),r.foldl (fun m y=>if y<m then y else m) x∈x::r:=by
   intro r;induction r with
   |nil=>intro x;exact List.mem_cons_self
   |cons y r ih=>
     intro x;have h:=ih (if y<x then y else x);rw[List.foldl_cons];rcases List.mem_cons.mp h with e|e
     . rw[e];split
       . exact List.mem_cons_of_mem _ List.mem_cons_self
       . exact List.mem_cons_self
     . exact List.mem_cons_of_mem _ (List.mem_cons_of_mem _ e)
 intro ns b h;cases ns with
 |nil=>cases h
 |cons x r=>rw[<- Option.some.inj h];exact key r x
theorem yW:∀{ns:List Int}{b:Int},pG ns=some b->∀y∈ns,b <= y:=by
 have key:∀(r:List Int)(x:Int),r.foldl (fun m y=>if y<m then y else m) x <= x/\∀y∈r,r.foldl (fun m y=>if y<m then y else m) x <= y:=by
   intro r;induction r with
   |nil=>intro x;exact⟨Int.le_refl _,fun y h=>nomatch h⟩
   |cons z r ih=>
     intro x;have h:=ih (if z<x then z else x);rw[List.foldl_cons];refine⟨?_,fun y hy=>?_⟩
     . refine Int.le_trans h.1 ?_;split <;> omega
     . rcases List.mem_cons.mp hy with e|e
       . subst e;refine Int.le_trans h.1 ?_;split <;> omega
       . exact h.2 y e
 intro ns b h y hy;cases ns with
 |nil=>cases h
 |cons x r=>
   rw[<- Option.some.inj h];rcases List.mem_cons.mp hy with e|e
   . subst e;exact(key r y).1
   . exact(key r x).2 y e
theorem mH{ns:List Int}:pG ns=none↔ns=[]:=by
 cases ns with
 |nil=>exact⟨fun _=>rfl,fun _=>rfl⟩
 |cons x r=>
   constructor
   . intro h;cases h
   . intro h;cases h
theorem aC0(a v:Value):argsOk "min" ⟨[a],[(Str.ofString "default", v)]⟩:=by unfold argsOk;kernel_rfl
section
variable{prog:Program}{w:World}{A:Around}{R:Result->Shared->Prop}
theorem lV{M:Model}{id:String}{args:Args}{m:Sem Fin}{g:Option (Array Value)->Sem Fin}{S:Addr}{o:Obj}{xs:Array Value}{n:Nat}{Q:Fin->Shared->Prop}{E:Value->Shared->Prop}{s:Shared}(plain:plainId id=true)(there:s.heap.get? S=some o)(items:o.data=.seq xs n)(begins:m=seqItems? (.ref S) >>= g)(dZ:wpAny M A.in1 (g (some xs)) Q E s): wpAny M (A.under (.builtin id args)) m Q E s:=by
 subst begins;exact(Around.under_plainId plain args).symm▸wpAny_bind (wpAny_seqItems there items dZ)
theorem aDs{I l S:Addr}{its:List Value}{ns:List Int}{d:Value}{ky:Str}(hh:A.handled=none)(hlI:l≠I)(hSI:S≠I)(hSl:S≠l)(hv:bO (ns.map V.int) its):
   ∀(k i:Nat)(s:Shared)(cur:List Value)(c:Nat),ns.length - i=k->i <= ns.length->s.heap.IsListIter I l i->s.heap.IsList l its.toArray ->
     s.heap.get? S=some {cls:=.type "list", dict:=none,data:=.seq cur.toArray c,slots:=#[]} ->
     ((cur=[]/\i=0)\/∃b t,cur=[.int b t,.int b t]/\pG (ns.take i)=some b) ->
     (∀v h' tk,((pG ns=none/\v=d)\/∃b t,pG ns=some b/\v=.int b t)->(∀b o,b≠I->b≠S->s.heap.get? b=some o->h'.get? b=some o)->R (.ok (.ret v)) {s with heap:=h',toks:=tk}) ->
     codeAny (model prog w) A (.builtin "min.loop" ⟨[.ref I,.none,.ref S],[(ky,d)]⟩) R s:=by
 have nm:(toString "min"++toString ".loop":String) = "min.loop":=by decide
 have W:=Walks.list (prog:=prog) (w:=w) (A:=A.in1) hh I l hlI its.toArray;have hlen:its.length=ns.length:=by have:=hv.length;rw[List.length_map] at this;exact this.symm
 have hsz:its.toArray.size=ns.length:=by rw[List.size_toArray,hlen]
 intro k;induction k with
 |zero=>
   intro i s cur c hk hi hit hl hS hc hR;have hin:i=ns.length:=by omega
   subst hin;refine codeAny_builtin PySem.F.entry_min_loop (lV PySem.F.plain_min_loop hS rfl rfl ?_);refine wpAny_bind (m:=tryCatch (pyNext (.ref I)) _) (wpAny_tryCatch (W.done s _ _ ⟨by rw[hsz];exact hit,hl⟩ fun h1 tk hk1=>?_));have hS1:=hk1 S _ (by simpa using hSI) hS;have old:∀b o,b≠I->b≠S->s.heap.get? b=some o->h1.get? b=some o:=fun b o hb _ e=>hk1 b o (by simpa using hb) e;rcases hc with⟨rfl,h0⟩|⟨b,t,rfl,hm⟩
   . have e0:ns=[]:=List.length_eq_zero_iff.mp h0;refine wpAny_bind (wpAny_rule (wpAny_pure ?_));exact hR d h1 tk (.inl ⟨by rw[e0];rfl,rfl⟩) old
   . rw[List.take_of_length_le (Nat.le_refl _)] at hm;show wpAny _ A.in1 (updateSeq S (fun _=>#[]) >>= _) _ _ _;refine wpAny_bind (wpAny_updateSeq hS1 rfl (wpAny_bind (wpAny_letGo (wpAny_pure ?_))));exact hR _ _ tk (.inr ⟨b,t,hm,rfl⟩) fun x o hx hxS e=>(Heap.get?_update_other _ _ (Ne.symm hxS)).trans (old x o hx hxS e)
 |succ k ih=>
   intro i s cur c hk hi hit hl hS hc hR;have hlt:i<ns.length:=by omega
   refine codeAny_builtin PySem.F.entry_min_loop (lV PySem.F.plain_min_loop hS rfl rfl ?_);refine wpAny_bind (m:=tryCatch (pyNext (.ref I)) _) (wpAny_tryCatch (W.item i s _ _ (by rw[hsz];exact hlt) ⟨hit,hl⟩ fun v h1 tk hP hst1 hk1=>?_));have hS1:=hk1 S _ (by simpa using hSI) hS;have old:∀b o,b≠I->b≠S->s.heap.get? b=some o->h1.get? b=some o:=fun b o hb _ e=>hk1 b o (by simpa using hb) e;obtain⟨tv,ev⟩:∃t,v=.int ns[i] t:=by
     have e:(ns.map V.int)[i]?=some (.int ns[i]):=by rw[List.getElem?_map,List.getElem?_eq_getElem hlt];rfl
     obtain⟨u,hu,ru⟩:=hv.get e;have hP':its[i]?=some v:=by simpa using hP
     rw[hP'] at hu;cases hu;exact ru
   subst ev;have htk:ns.take (i+1)=ns.take i++[ns[i]]:=by rw[List.take_add_one,List.getElem?_eq_getElem hlt];rfl
   rcases hc with⟨rfl,h0⟩|⟨b,t,rfl,hm⟩
   . subst h0;show wpAny _ A.in1 (updateSeq S (fun _=>#[.int ns[0] tv,.int ns[0] tv]) >>= _) _ _ _;refine wpAny_bind (wpAny_updateSeq hS1 rfl ?_);rw[nm];refine wpAny_pure ⟨plainId_quiet PySem.F.plain_min_loop _,ih 1 _ [.int ns[0] tv,.int ns[0] tv] _ (by omega) hlt (hst1.1.at fun o e=>(Heap.get?_update_other _ _ hSI).trans e) (hst1.2.at fun o e=>(Heap.get?_update_other _ _ hSl).trans e) (Heap.get?_update_self _ hS1 rfl) (.inr ⟨_,_,rfl,by rw[htk];rfl⟩) fun v' h2 tk2 hv2 hk2=>?_⟩;exact hR v' h2 tk2 hv2 fun x o hx hxS e=>hk2 x o hx hxS ((Heap.get?_update_other _ _ (Ne.symm hxS)).trans (old x o hx hxS e))
   . show wpAny _ A.in1 (tryCatch (holding [Value.int ns[i] tv,Value.int ns[i] tv] (richCompare .Lt (.int ns[i] tv) (.int b t) >>= _)) _ >>= _) _ _ _;have cmp:=CmpOf.ints_lt (prog:=prog) (w:=w) (A:=A.in1) (P:=fun(j:Nat) (u:Value)=>∃t,u=.int (if j=0 then ns[i] else b) t) (fun j=>if j=0 then ns[i] else b) (fun _ _ q=>q);refine wpAny_bind (wpAny_tryCatch (wpAny_holding (wpAny_bind (cmp 0 1 _ _ _ _ _ ⟨tv,rfl⟩ ⟨t,rfl⟩ ?_))));refine wpAny_bind (wpAny_holding (wpAny_truthy_bool ?_));refine wpAny_bind (wpAny_letGo (wpAny_pure ?_));have hmn:=yV (ns.take i) b ns[i] hm;rw[<- htk] at hmn;by_cases hb:ns[i]<b
     . dsimp only;have hd:decide ((if(0:Nat)=0 then ns[i] else b)<(if(1:Nat)=0 then ns[i] else b))=true:=decide_eq_true hb;rw[if_pos hd];refine wpAny_bind (wpAny_updateSeq hS1 rfl (wpAny_bind (wpAny_letGo ?_)));rw[nm];rw[if_pos hb] at hmn;refine wpAny_pure ⟨plainId_quiet PySem.F.plain_min_loop _,ih (i+1) _ [.int ns[i] tv,.int ns[i] tv] _ (by omega) hlt (hst1.1.at fun o e=>(Heap.get?_update_other _ _ hSI).trans e) (hst1.2.at fun o e=>(Heap.get?_update_other _ _ hSl).trans e) (Heap.get?_update_self _ hS1 rfl) (.inr ⟨_,_,rfl,hmn⟩) fun v' h2 tk2 hv2 hk2=>?_⟩;exact hR v' h2 tk2 hv2 fun x o hx hxS e=>hk2 x o hx hxS ((Heap.get?_update_other _ _ (Ne.symm hxS)).trans (old x o hx hxS e))
     . dsimp only;have hd:decide ((if(0:Nat)=0 then ns[i] else b)<(if(1:Nat)=0 then ns[i] else b))=false:=decide_eq_false hb;rw[if_neg (fun z=>Bool.false_ne_true (hd.symm.trans z))];refine wpAny_bind (wpAny_letGo ?_);rw[nm];rw[if_neg hb] at hmn;refine wpAny_pure ⟨plainId_quiet PySem.F.plain_min_loop _,ih (i+1) _ [.int b t,.int b t] c (by omega) hlt hst1.1 hst1.2 hS1 (.inr ⟨_,_,rfl,hmn⟩) fun v' h2 tk2 hv2 hk2=>?_⟩;exact hR v' h2 tk2 hv2 fun x o hx hxS e=>hk2 x o hx hxS (old x o hx hxS e)
end
def aAh(X:Cx)(f:Value)(ks:List Str)(r:List V->List V->Hp->VK->Prop):Prop:=
 ∀(pins:List (Addr×Obj))(s:Shared)(σ:St)(H:Hp)(xs zs:List V)(us ws:List Value)(Q:VK),Inv X pins σ H s->bO xs us->bO zs ws->r xs zs H Q ->
   wpAny (model X.prog X.w) X.A (call f us (ks.zip ws)) (EP X pins σ Q) X.xe s
section
variable{X:Cx}
theorem rP(hc:X.calm=true):aAh X (.builtin "min") [Str.ofString "default"] (fun xs zs H Q=>∃(p:Addr)(ns:List Int)(d:V),xs=[.ref p]/\zs=[d]/\SqL X.K H p (ns.map V.int)/\Q (match pG ns with|none=>d|some b=>.int b) H):=by
 intro pins s σ H xs zs us ws Q I rv rz h;obtain⟨p,ns,d,rfl,rfl,hq,q⟩:=h;obtain⟨u,rfl,ru⟩:=rv.one;obtain⟨dv,rfl,rd⟩:=rz.one;cases ru;obtain⟨its,rv',pl,hz⟩:=I.list hq;have hlt:p<s.heap.objs.size:=by obtain⟨o,n,e,_⟩:=pl;exact Heap.lt_size e
 have nm:(toString "min"++toString ".loop":String) = "min.loop":=by decide
 refine kmb_tree PySem.F.kind_min PySem.F.plain_min PySem.F.entry_min (aC0 _ _) ?_;show wpAny _ X.A.in1 (Builtin.Builtins.bindParams "min" ["key","default"] 0 ⟨[],[(Str.ofString "default", dv)]⟩ >>= _) _ _ s;refine wpAny_bind (wpAny_of_eq (show Builtin.Builtins.bindParams "min" ["key","default"] 0 ⟨[],[(Str.ofString "default", dv)]⟩=pure [none,some dv] from rfl) ?_);refine wpAny_bind (wpAny_pure ?_);refine wpAny_bind (wpAny_pyIter_list pl.isList ?_);refine wpAny_bind (wpAny_newObj_type ?_);rw[nm];generalize hH1:s.heap.push {cls:=.type "list_iterator", data:=.fields #[.ref p,.int 0 0]}=H1;have z1:H1.objs.size=s.heap.objs.size+1:=by rw[<- hH1,Heap.size_push]
 have o1:∀b o,s.heap.get? b=some o->H1.get? b=some o:=fun b o e=>hH1▸Heap.get?_push_of_some _ e;have i1:H1.IsListIter s.heap.objs.size p 0:=⟨_,hH1▸Heap.get?_push_size _ rfl,rfl,rfl⟩;refine wpAny_pure ⟨plainId_quiet PySem.F.plain_min_loop _,aDs (its:=its) (I.ok.hd hc) (Nat.ne_of_lt hlt) (by rw[z1];exact Nat.succ_ne_self _) (by rw[z1];exact Nat.ne_of_gt (Nat.lt_succ_of_lt hlt)) rv' _ 0 _ [] _ rfl (Nat.zero_le _) (i1.at fun o e=>Heap.get?_push_of_some _ e) ((pl.isList.at fun o e=>o1 _ o e).push _) (Heap.get?_push_size _ rfl) (.inl ⟨rfl,rfl⟩) fun v h' tk hv hk=>?_⟩;have I2:Inv X pins σ H {s with heap:=h',toks:=tk}:=I.kept fun b o e=>hk b o (Nat.ne_of_lt (Heap.lt_size e)) (by show b≠H1.objs.size;rw[z1];exact Nat.ne_of_lt (Nat.lt_succ_of_lt (Heap.lt_size e))) (Heap.get?_push_of_some _ (o1 b o e));rcases hv with⟨e,rfl⟩|⟨b,t,e,rfl⟩
 . rw[e] at q;exact⟨d,H,I2,rd,q⟩
 . rw[e] at q;exact⟨.int b,H,I2,⟨t,rfl⟩,q⟩
variable{x:Str}{p pos:Pos}{e:Expr}{es:List Expr}{kws:List Keyword}{t tk:TA}{id:String}{ks:List Str}{r:List V->List V->Hp->VK->Prop}
def aHr(r:List V->List V->Hp->VK->Prop)(t tk:TA):TE:=fun σ H Q=>t σ H fun vs H1=>tk σ H1 fun zs H2=>r vs zs H2 Q
theorem qP(hc:aAh X (.builtin id) ks r)(hg:Gl X x)(hm:X.mg x=none)(hv:bootBuiltins x=some (.builtin id))(ha:PA X (e::es) t)(hkw:PK X kws tk)(hks:(backToKw pos (keywordEach kws X.env)).filterMap (·.1)=ks:=by rfl)(hn:x≠"__name__":=by decide)(hdb:(x==("__debug__":Str))=false:=by decide)(he:backTo pos (starEach (e::es) X.env)=(false,eval e X.env)::backTo pos (starEach es X.env):=by rfl)(hpl:(backTo pos (starEach (e::es) X.env)).any (·.1)=false:=by rfl)(hall:(backToKw pos (keywordEach kws X.env)).all (·.1.isSome)=true:=by rfl)(hkn:(backToKw pos (keywordEach kws X.env)).any (·.1.isNone)=false:=by rfl): PE X (.Call (.Name x p) (e::es) kws pos) (aHr r t tk):=by
 intro pins s σ H Q I h;refine wpAny_Call_Name_kw (fT I hg hm hv ?_ hn hdb);refine PyProof.Rows.callWith_kw (thn (ha pos pins s σ H _ I h) fun us s1 ⟨vs,H1,I1,r1,q1⟩=>thn (hkw pos pins s1 σ H1 _ I1 q1) fun ws s2 ⟨zs,H2,I2,r2,q2⟩=>?_) he hpl hall hkn;rw[hks];exact hc pins s2 σ H2 vs zs us ws Q I2 r1 r2 q2
end
def cE(K:W.Frag)(mg:Str->Option Value)(x:Str)(st:Stmt)(ps:List Str):Prop:=∃a fd,Fun K x x st a fd/\iB K fd ps []/\mg x=some (.ref a)
def Has(P:Program)(w:World)(K:W.Frag)(mg:Str->Option Value)(base:Heap)(k:Nat)(x:Str)(ps:List Str)(sp:Sp):Prop:=∃a fd,W.keepIn K (.ref a)=true/\iB K fd ps []/\mg x=some (.ref a)/\gO P w K mg base CX0 k a fd ps sp
section
variable{P:Program}{w:World}{K:W.Frag}{mg:Str->Option Value}{base:Heap}
theorem cE.has{x:Str}{st:Stmt}{N ps:List Str}{k:Nat}{sp:Sp}(D:cE K mg x st ps)(S:aW N ps (aI st))(len:∀vs H Q E,sp vs H Q E->vs.length=ps.length)(hbody:∀(f:Addr)(cdv:Value)(A:Around)(outer:List Env)(s:Shared)(H:Hp)(vs:List V)(Q:VK)(E:XK),eU k (A.deeper (envOfC x (aI st) s.heap.objs.size f cdv))->sp vs H Q E -> ∃t,PSs (wO CX0 P w K mg base N x (aI st) f cdv A outer s H E).nox (bM st) t/\t {nx:=fun _ H'=>Q .non H',rt:=Q} (kU N vs) H):Has P w K mg base (k+1) x ps sp:=by
 obtain⟨a,fd,F,b,m⟩:=D;exact⟨a,fd,F.kp,b,m,F.ok S len fun cdv A outer s H vs Q E hr h=>hbody a cdv A outer s H vs Q E hr h⟩
theorem Has.mono{x:Str}{ps:List Str}{j k:Nat}{sp:Sp}(h:Has P w K mg base j x ps sp)(hj:j <= k):Has P w K mg base k x ps sp:=by
 obtain⟨a,fd,h1,h2,h3,h4⟩:=h;exact⟨a,fd,h1,h2,h3,h4.mono hj⟩
end
theorem bX{X:Cx}{k:Nat}{x:Str}{ps:List Str}{sp:Sp}{p pos:Pos}{e:Expr}{es:List Expr}{t:TA}(h:Has X.prog X.w X.K X.mg X.base k x ps sp)(hr:eU k X.A)(hg:Gl X x)(ha:PA X (e::es) t)(hdb:(x==("__debug__":Str))=false:=by decide)(he:starEach (e::es) X.env=(false,eval e X.env)::starEach es X.env:=by rfl)(hpl:(backTo pos (starEach es X.env)).any (·.1)=false:=by rfl): PE X (.Call (.Name x p) (e::es) [] pos) (aEt sp [] E0 t):=by
 obtain⟨a,fd,h1,h2,h3,h4⟩:=h;exact aDg h4 hr hg h3 h1 h2 .nil aB3 ha hdb he hpl
theorem fK{X:Cx}{x:Str}{n:String}{pos:Pos}(hg:Gl X x)(hm:X.mg x=none)(hv:bootBuiltins x=some (.type n))(hn:x≠"__name__":=by decide)(hd:(x==("__debug__":Str))=false:=by decide):PE X (.Name x pos) (tC (.ty n)):=aDh (v:=.ty n) hg hm hv rfl hn hd
theorem rC{p:Prop}(h:¬ p):(false=true↔p):=⟨fun z=>(Bool.false_ne_true z).elim,fun z=>(h z).elim⟩
theorem aGn{p:Prop}(h:p):(true=true↔p):=⟨fun _=>h,fun _=>rfl⟩
theorem neI{a b:Int}(h:(!decide (V.int a=V.int b))=true):a≠b:=fun e=>by
 subst e;rw[decide_eq_true rfl] at h;cases h
theorem eqI{a b:Int}(h:¬ (!decide (V.int a=V.int b))=true):a=b:=by
 cases e:decide (V.int a=V.int b) with
 |true=>exact V.int.inj (of_decide_eq_true e)
 |false=>rw[e] at h;exact absurd rfl h
section
variable{X:Cx}{K:W.Frag}
theorem aDc{es:List Expr}{k:Nat}{t:TGs}{n:Nat}{pos:Pos}(hK:X.K=K)(hc:X.calm=true)(h:PGs X es t)(hn:(assignEach es X.env).length=n:=by rfl)(hst:(assignEach es X.env).findIdx? (·.1)=none:=by rfl): PG X (.Tuple es k pos) (aHc K n t):=hK▸aCc hc h hn hst
theorem jO(hK:X.K=K):IxR X (aHa K):=hK▸aQ
end
abbrev mP:=List (Option Int)
abbrev gL:=List mP
def aV:Option Int->V
 |none=>.non
 |some i=>.int i
abbrev aC1(K:W.Frag)(H:Hp)(a:Addr)(r:mP):Prop:=SqL K H a (r.map aV)
abbrev jS(K:W.Frag)(H:Hp)(a:Addr)(ns:List Int):Prop:=SqL K H a (ns.map V.int)
def mX(K:W.Frag)(H:Hp)(a:Addr)(T:gL):Prop:=∃as:List Addr,SqL K H a (as.map V.ref)/\as.length=T.length/\∀(i:Nat)b r,as[i]?=some b->T[i]?=some r->aC1 K H b r
theorem Same.tab{K:W.Frag}{H H':Hp}{a:Addr}{T:gL}(e:Same H H')(h:mX K H a T):mX K H' a T:=by
 obtain⟨as,h1,h2,h3⟩:=h;exact⟨as,e.seq h1,h2,fun i b r e1 e2=>e.seq (h3 i b r e1 e2)⟩
theorem kE{ns:List Int}{i:Nat}{x:V}(h:(ns.map V.int)[i]?=some x):∃n,ns[i]?=some n/\x=.int n:=by
 rw[List.getElem?_map] at h;cases e:ns[i]? with
 |none=>rw[e] at h;cases h
 |some n=>rw[e] at h;exact⟨n,rfl,(Option.some.inj h).symm⟩
theorem aBp{r:mP}{i:Nat}{x:V}(h:(r.map aV)[i]?=some x):∃c,r[i]?=some c/\x=aV c:=by
 rw[List.getElem?_map] at h;cases e:r[i]? with
 |none=>rw[e] at h;cases h
 |some n=>rw[e] at h;exact⟨n,rfl,(Option.some.inj h).symm⟩
theorem rA(ns:List Int):(ns.map V.int).all pN=true:=by
 rw[List.all_map];exact List.all_eq_true.mpr fun _ _=>rfl
theorem sZ(x:Int)(ns:List Int):inV (.int x) (ns.map V.int)=decide (x∈ns):=by
 unfold inV;rw[List.any_map,Bool.eq_iff_iff,List.any_eq_true,decide_eq_true_iff];constructor
 . rintro ⟨y,hy,e⟩;have e':y=x:=by simpa [eqV] using e
   exact e'▸hy
 . intro h;exact⟨x,h,by simp[eqV]⟩
theorem eB{α:Type}{xs:List α}{i:Int}{v:α}(h0:0 <= i)(h:xs[i.toNat]?=some v):atI xs i=some v:=by
 have:=dA h;rwa [Int.toNat_of_nonneg h0] at this
open PySem PySem.Spec PySem.Calls PyProof.Rows
section
variable{prog:Program}{w:World}{A:Around}{E:Value->Shared->Prop}{h:Heap}{g:Array GenState}{d:Drawn}{t:Nat}{os:OsState}{a C:Addr}{o:Obj}{K:W.Frag}
structure aG1 (K:W.Frag) (C:Addr):Prop where
 ga:W.findIn K (.ref C) "__getattribute__"=some (some (.builtin "BaseException.__getattribute__"))
 gn:W.findIn K (.ref C) "__getattr__"=some none
 gc:W.findIn K (.ref C) "__class__"=some (some (.builtin "object.__class__"))
 gb:W.mroIn K C (.type "BaseException")=some true
 go:W.mroIn K C (.type "object")=some true
 gt:(W.clsIn K C).isSome=true
end
def Tr(D:Addr->Prop)(h:Heap)(e:Addr)(cls fl:Value):Prop:=∃oe vs T oT ts,h.get? e=some oe/\oe.cls=cls/\oe.dict=none/\oe.data=.fields vs/\vs[1]?=some (.ref T)/\¬ D e/\¬ D T/\T≠e/\h.get? T=some oT/\oT.data=.fields ts/\ts[3]?=some fl
structure Kp (fs:List Addr) (D:Addr->Prop) (h h':Heap):Prop where
 keep:∀b o,D b->b∉fs->h.get? b=some o->h'.get? b=some o
 slot:∀b o,D b->h.get? b=some o->∃sl,h'.get? b=some {o with slots:=sl}
theorem Kp.trans{fs:List Addr}{D:Addr->Prop}{h h1 h2:Heap}(x:Kp fs D h h1)(y:Kp fs D h1 h2):Kp fs D h h2:=⟨fun b o d n e=>y.keep b o d n (x.keep b o d n e),fun b o d e=>by
   obtain⟨sl,e1⟩:=x.slot b o d e;obtain⟨sl2,e2⟩:=y.slot b _ d e1;exact⟨sl2,e2⟩⟩
theorem Kp.of{fs:List Addr}{D:Addr->Prop}{h h':Heap}(k:∀b o,D b->h.get? b=some o->h'.get? b=some o):Kp fs D h h':=⟨fun b o d _ e=>k b o d e,fun b o d e=>⟨o.slots,k b o d e⟩⟩
theorem zY(f:Array Value->Array Value)(o:Obj):(Obj.mapFields f o).dict=o.dict:=by
 obtain⟨_,_,d,_⟩:=o;cases d <;> rfl
section
variable{M:Model}{A:Around}{E:Value->Shared->Prop}{s:Shared}{base:Heap}{D:Addr->Prop}{env:Env}{outer:List Env}{L e:Addr}
theorem yT{fs:List Env}{o:Obj}{vs:Array Value}(frames:s.heap.FunFrames base fs)(there:s.heap.get? e=some o)(fields:o.data=.fields vs):e∉frs fs:=by
 intro among;obtain⟨_,u,at_,none_⟩:=frames.mem among;rw[there] at at_;cases at_;exact none_ vs fields
theorem nV{α:Type}{c:Prop}[Decidable c]{a b:Sem α}{Q:α->Shared->Prop}(hc:c)(h:wpAny M A a Q E s):wpAny M A (if c then a else b) Q E s:=by rw[if_pos hc];exact h
theorem wX{α:Type}{c:Prop}[Decidable c]{a b:Sem α}{Q:α->Shared->Prop}(hc:¬ c)(h:wpAny M A b Q E s):wpAny M A (if c then a else b) Q E s:=by rw[if_neg hc];exact h
theorem rK{oe:Obj}{vs:Array Value}{head:Value}{hadNext:Bool}{Q:Unit->Shared->Prop}(hfr:A.frames=some (env::outer))(hl:s.heap.FunFrames base (env::outer))(hf:env.frame=some L)(he:s.heap.get? e=some oe)(hdn:oe.dict=none)(hd:oe.data=.fields vs)(hsz:1<vs.size)(hDe:¬ D e)(hD:∀b,D b->∃o,s.heap.get? b=some o)(h:∀h',Kp (frs (env::outer)) D s.heap h'->Tr D h' e oe.cls (rawInt L)->Q () {s with heap:=h'}): wpAny M A (do let a <- frameOf env;let pl <- entryPlaceOf L hadNext;let b <- EntryCells.newEntry head a .none (rawInt L) .none pl;setField (.ref e) 1 b) Q E s:=by
 have hene:=yT hl he hd;refine wpAny_bind (wpAny_frameOf_fun hfr hl hf fun h₁ hs₁=>wpAny_bind (wpAny_entryPlaceOf fun pl hpl=>?_));unfold EntryCells.newEntry newFields;refine wpAny_bind (wpAny_newObj_type ?_ (hpl.sizeOk5 _ _ _ _ _));have e1:h₁.get? e=some oe:=(hs₁.2.1 e hene).trans he;generalize eob:({cls:=.type "traceback", dict:=none,data:=.fields ([head,.ref L,.none,rawInt L,.none]++(if pl.isEmpty then List.replicate 6 Value.none else pl)).toArray}:Obj)=ob;have obd:ob.data=.fields ([head,.ref L,.none,rawInt L,.none]++(if pl.isEmpty then List.replicate 6 Value.none else pl)).toArray:=by rw[<- eob]
 have obn:ob.isFreed=false:=Obj.isFreed_of_fields obd;have e2:=Heap.get?_push_of_some (h:=h₁) ob e1;have z1:h₁.objs.size=s.heap.objs.size:=hs₁.1;have nd:∀b,D b->b≠e:=fun b d z=>hDe (z▸d);refine wpAny_setField e2 hd hsz (h _ ⟨fun b o d hnf hb=>?_,fun b o d hb=>?_⟩ ?_)
 . rw[Heap.get?_update_other _ _ (Ne.symm (nd b d))];exact Heap.get?_push_of_some _ ((hs₁.2.1 b hnf).trans hb)
 . obtain⟨sl,hs⟩:=hs₁.2.2 b o hb;refine⟨sl,?_⟩;rw[Heap.get?_update_other _ _ (Ne.symm (nd b d))];exact Heap.get?_push_of_some _ hs
 . have hTe:h₁.objs.size≠e:=Nat.ne_of_gt (Heap.lt_size e1);have d3:=Obj.data_mapFields hd (·.setIfInBounds 1 (Value.ref h₁.objs.size));have e3:=Heap.get?_update_self (Obj.mapFields (·.setIfInBounds 1 (Value.ref h₁.objs.size))) e2 (Obj.isFreed_of_fields d3);have t3:=(Heap.get?_update_other (h₁.push ob) (Obj.mapFields (·.setIfInBounds 1 (Value.ref h₁.objs.size))) (Ne.symm hTe)).trans (Heap.get?_push_size h₁ obn);refine⟨_,_,h₁.objs.size,_,_,e3,Obj.cls_mapFields _ _,(zY _ _).trans hdn,d3,by simp[hsz],hDe,fun d=>?_,hTe,t3,obd,?_⟩
   . obtain⟨o,ho⟩:=hD _ d;have:=Heap.lt_size ho;rw[z1] at this;exact Nat.lt_irrefl _ this
   . first|(simp;done)|(rcases hpl with rfl|⟨_,_,_,_,_,_,_,rfl⟩ <;> simp)
theorem lD{cls fl:Value}{fs:List Addr}{Q:Unit->Shared->Prop}(ht:Tr D s.heap e cls fl)(h:∀h',Kp fs D s.heap h'->(∀v,s.heap.get? e=some v->h'.get? e=some v)->Tr D h' e cls .none->Q () {s with heap:=h'}):wpAny M A (setFlight (.ref e) none) Q E s:=by
 obtain⟨oe,vs,T,oT,ts,he,hc,hdn,hd,h1,hDe,hDT,hTe,hT,hdT,h3⟩:=ht;have z3:3<ts.size:=(Array.getElem?_eq_some_iff.mp h3).1;have other:∀b,b≠T->(s.heap.update T (Obj.mapFields (·.setIfInBounds 3 ((none:Option Addr).elim Value.none fun f=>rawInt f)))).get? b=s.heap.get? b:=fun b hb=>Heap.get?_update_other _ _ (Ne.symm hb);unfold setFlight;refine wpAny_bind (wpAny_field he hd h1 (nV (by simp) (wpAny_setField hT hdT z3 ?_)));refine(h _ (Kp.of fun b o d e=>(other b fun z=>hDT (z▸d)).trans e) (fun v q=>(other e (Ne.symm hTe)).trans q) ?_);exact⟨oe,vs,T,_,_,(other e (Ne.symm hTe)).trans he,hc,hdn,hd,h1,hDe,hDT,hTe,Heap.get?_update_self _ hT (Obj.isFreed_of_fields (Obj.data_mapFields hdT _)),Obj.data_mapFields hdT _,by simp[z3]⟩
theorem rJ{oe:Obj}{vs:Array Value}{Q:Unit->Shared->Prop}(hfr:A.frames=some (env::outer))(hl:s.heap.FunFrames base (env::outer))(hf:env.frame=some L)(he:s.heap.get? e=some oe)(hdn:oe.dict=none)(hd:oe.data=.fields vs)(h1:vs[1]?=some .none)(hDe:¬ D e)(hD:∀b,D b->∃o,s.heap.get? b=some o)(h:∀h',Kp (frs (env::outer)) D s.heap h'->Tr D h' e oe.cls (rawInt L)->Q () {s with heap:=h'}):wpAny M A (noteFrame (.ref e) env) Q E s:=by
 simp only[noteFrame,hf];exact wpAny_bind (wpAny_field he hd h1 (wX (by decide) (rK hfr hl hf he hdn hd (Array.getElem?_eq_some_iff.mp h1).1 hDe hD h)))
theorem rE{cls fl:Value}{Q:Unit->Shared->Prop}(hfr:A.frames=some (env::outer))(hl:s.heap.FunFrames base (env::outer))(hf:env.frame=some L)(ht:Tr D s.heap e cls fl)(hD:∀b,D b->∃o,s.heap.get? b=some o)(h:∀h' fl',Kp (frs (env::outer)) D s.heap h'->Tr D h' e cls fl'->((fl==rawInt L)=false->fl'=rawInt L)->Q () {s with heap:=h'}):wpAny M A (noteFrame (.ref e) env) Q E s:=by
 obtain⟨oe,vs,T,oT,ts,he,rfl,hdn,hd,h1,hDe,hDT,hTe,hT,hdT,h3⟩:=id ht;simp only[noteFrame,hf];refine wpAny_bind (wpAny_field he hd h1 (nV (by simp) (wpAny_bind (wpAny_field hT hdT h3 ?_))));by_cases mark:(fl==rawInt L)=true
 . exact nV mark (wpAny_pure (h s.heap fl (Kp.of fun _ _ _ q=>q) ht fun z=>absurd (mark.symm.trans z) (by decide)))
 refine wX mark (wpAny_bind (wpAny_setField hT hdT (Array.getElem?_eq_some_iff.mp h3).1 ?_));have off:∀b,b≠T->(s.heap.update T (Obj.mapFields (·.setIfInBounds 3 Value.none))).get? b=s.heap.get? b:=fun b n=>Heap.get?_update_other _ _ (Ne.symm n);have stay:∀b o,D b->s.heap.get? b=some o->(s.heap.update T (Obj.mapFields (·.setIfInBounds 3 Value.none))).get? b=some o:=fun b o d q=>by
   rw[off b fun z=>hDT (z▸d)];exact q
 refine rK (D:=D) hfr (hl.of_keeps fun b o q n=>⟨o,?_,rfl⟩) hf ?_ hdn hd (Array.getElem?_eq_some_iff.mp h1).1 hDe (fun b d=>?_) fun h' kp tr=>h h' _ ((Kp.of stay).trans kp) tr fun _=>rfl
 . rw[off b fun z=>by subst z;rw[hT] at q;cases q;exact n ts hdT];exact q
 . rw[off e (Ne.symm hTe)];exact he
 . obtain⟨o,q⟩:=hD b d;exact⟨o,stay b o d q⟩
theorem rG{cls:Value}{Q:Unit->Shared->Prop}(hfr:A.frames=some (env::outer))(hl:s.heap.FunFrames base (env::outer))(hf:env.frame=some L)(ht:Tr D s.heap e cls .none)(hD:∀b,D b->∃o,s.heap.get? b=some o)(h:∀h',Kp (frs (env::outer)) D s.heap h'->Tr D h' e cls (rawInt L)->Q () {s with heap:=h'}):wpAny M A (noteFrame (.ref e) env) Q E s:=rE hfr hl hf ht hD fun h' fl' kp tr z=>h h' kp (z (by simp[rawInt])▸tr)
theorem zQ{cls:Value}{Q:Unit->Shared->Prop}(hn:∀Q':Unit->Shared->Prop,(∀h',Kp (frs (env::outer)) D s.heap h'->Tr D h' e cls (rawInt L)->Q' () {s with heap:=h'})->wpAny M A (noteFrame (.ref e) env) Q' E s)(h:∀h',Kp (frs (env::outer)) D s.heap h'->Tr D h' e cls .none->Q () {s with heap:=h'}):wpAny M A (leaving env (.ref e)) Q E s:=by
 unfold leaving;refine wpAny_bind (hn _ fun h1 k1 t1=>?_);exact lD (s:={s with heap:=h1}) (fs:=frs (env::outer)) t1 fun h2 k2 _ t2=>h h2 (k1.trans k2) t2
end
section
variable{P:Program}{w:World}{H H':Hp}{h h':Heap}{a:Addr}{o:HO}
theorem bZ.there(x:bZ P w H h a o):∃u,h.get? a=some u:=by
 cases o with
 |lst xs=>obtain⟨_,_,_,_,e⟩:=x;exact⟨_,e⟩
 |tup xs=>obtain⟨_,_,_,_,e,_⟩:=x;exact⟨_,e⟩
 |dK kvs=>obtain⟨_,_,_,_,o,_,_,e,_⟩:=x;exact⟨_,e⟩
 |dT kvs=>obtain⟨_,_,_,_,o,_,_,e,_⟩:=x;exact⟨_,e⟩
 |set S n=>obtain⟨o,_,_,_,e,_⟩:=x;exact⟨_,e⟩
 |ins C dx fs=>obtain⟨_,_,_,e,_⟩:=x;exact⟨_,e⟩
 |own y=>exact x
 |xd fs=>obtain⟨_,⟨_,_,_,e,_⟩,_⟩:=x;exact⟨_,e⟩
 |rng lo hi=>obtain⟨_,_,_,e⟩:=x;exact⟨_,e⟩
 |frz ob u=>exact⟨_,x.1⟩
 |tbl ps=>exact⟨_,(show h.get? a=some _ from x)⟩
 |met f y=>exact⟨_,(show h.get? a=some _ from x)⟩
 |ext φ=>exact x.2.1
theorem HOk.none(x:HOk P w H h)(e:h.get? a=none):H a=none:=by
 cases q:H a with
 |none=>rfl
 |some u=>obtain⟨_,z⟩:=(x a u q).there;rw[e] at z;cases z
end
def Wd(h0:Heap)(H':Hp)(b:Addr):Prop:=(∃o,h0.get? b=some o)\/(∃o,H' b=some o)
structure Fl (P:Program) (w:World) (fs:List Addr) (H:Hp) (h0:Heap) (H':Hp) (h:Heap) (a:Addr) (cls fl:Value):Prop where
 un:Un fs [] H H' h0 h
 hok:HOk P w H' h
 tr:Tr (Wd h0 H') h a cls fl
section
variable{P:Program}{w:World}{fs:List Addr}{H H':Hp}{h0 h h':Heap}{a:Addr}{cls fl fl':Value}
theorem Fl.dom(x:Fl P w fs H h0 H' h a cls fl):∀b,Wd h0 H' b->∃o,h.get? b=some o:=fun b d=>by
 rcases d with⟨o,e⟩|⟨o,e⟩
 . exact x.un.there b o e (by simp)
 . exact(x.hok b o e).there
theorem zK(hok:HOk P w H' h)(hfs:∀b∈fs,H' b=none)(k:Kp fs (Wd h0 H') h h'):HOk P w H' h':=fun b o e=>
 (hok b o e).stay (fun c v hc q=>by
   have hs:∃u,H' c=some u:=by
     rcases hc with z|z
     . exact⟨o,z▸e⟩
     . exact⟨_,z⟩
   refine k.keep c v (.inr hs) (fun z=>?_) q;obtain⟨u,hu⟩:=hs;rw[hfs c z] at hu;cases hu) (fun _ q=>q) fun _ _ q=>q
theorem aCw(un:Un fs [] H H' h0 h)(k:Kp fs (Wd h0 H') h h'):Un fs [] H H' h0 h' where
 keep:=fun b o e n hb hx=>k.keep b o (.inl ⟨o,e⟩) hb (un.keep b o e n hb hx)
 slot:=fun b o e n hb hx=>by
   obtain⟨sl,e1⟩:=un.slot b o e n hb hx;obtain⟨sl2,e2⟩:=k.slot b _ (.inl ⟨o,e⟩) e1;exact⟨sl2,e2⟩
 free:=un.free
 there:=fun b o e hx=>by
   obtain⟨o',e1⟩:=un.there b o e hx;obtain⟨sl,e2⟩:=k.slot b o' (.inl ⟨o,e⟩) e1;exact⟨_,e2⟩
 tups:=un.tups
 frzs:=un.frzs
 tbls:=un.tbls
theorem Fl.kp(x:Fl P w fs H h0 H' h a cls fl)(hfs:∀b∈fs,H' b=none)(k:Kp fs (Wd h0 H') h h')(t:Tr (Wd h0 H') h' a cls fl'):Fl P w fs H h0 H' h' a cls fl':=⟨aCw x.un k,zK x.hok hfs k,t⟩
theorem Tr.mono{D D':Addr->Prop}(t:Tr D h a cls fl)(k:∀b,D' b->D b):Tr D' h a cls fl:=by
 obtain⟨oe,vs,T,oT,ts,he,hc,hdn,hd,h1,hDe,hDT,r⟩:=t;exact⟨oe,vs,T,oT,ts,he,hc,hdn,hd,h1,fun d=>hDe (k _ d),fun d=>hDT (k _ d),r⟩
end
def CXe(P:Program)(w:World):CXT:=fun outer H s E e s'=>
 ∃a cls H',e=.ref a/\s'.os=s.os/\AllBare s'.gens/\Fl P w (frs outer) H s.heap H' s'.heap a cls .none/\E cls none H'
abbrev aFw:List Value:=[.type "ValueError", .type "Exception", .type "BaseException", .type "object"]
structure ExC (K:W.Frag) (mg:Str->Option Value) (x:Str) (C:Addr):Prop where
 gl:mg x=some (.ref C)
 ex:W.excIn K C aFw "ValueError.__new__"=true
 xc:aG1 K C
theorem zU{K:W.Frag}{h:Heap}{C:Addr}{bmB:List Value}{newId:String}(X:K.In h)(q:W.excIn K C bmB newId=true): ∃bm N nm qn bs hd sn sub ab col dd k0 k1 k2 k3 k5,h.get? C=some (excClassObj nm qn C N bs bm hd sn sub ab col dd k0 k1 k2 k3 k5 newId)/\(∃mN,h.Ns N mN/\mN "__init__"=none)/\OwnTail h bmB bm:=by
 unfold W.excIn at q;split at q
 case h_2=>cases q
 case h_1 dd cd sl ho=>
   split at q
   case h_2=>cases q
   case h_1 C1 bm k0 k1 k2 k3 nw k5 em es=>
     simp only[Bool.and_eq_true,beq_iff_eq,Bool.not_eq_true'] at q;obtain⟨⟨⟨⟨⟨e1,e2⟩,e3⟩,e4⟩,e5⟩,e6⟩:=q;subst e1 e2;rcases cd with⟨nm,bs,mro,ns,qn,hd,sn,sub,ab,col,del⟩;dsimp only at em e3 e5 e6;subst em e3;have esl:sl=#[k0,k1,k2,k3,some (.builtin nw),k5]:=Array.toList_inj.mp es;subst esl;exact⟨bm,ns,nm,qn,bs,hd,sn,sub,ab,col,dd,k0,k1,k2,k3,k5,X _ _ ho,⟨_,.of_isNs (W.isNs_of_in X e5),W.nsMap_none_of_in X e5 e6⟩,W.tail_of_in X e4⟩
section
variable{X:Cx}{E:XK}{C:Addr}
def vI(X:Cx)(E:XK)(C:Addr):Prop:=∀(pins:List (Addr×Obj))(σ:St)(H:Hp)(s:Shared)(a:Addr)(h':Heap)(args:List Value),Inv X pins σ H s->Heap.MadeExcOf s.heap h' a (.ref C) args->E (.ref C) none H->X.xe (.ref a) {s with heap:=h'}
def aEn(E:XK)(C:Addr)(t:TA):TS:=fun _ σ H=>t σ H fun xs H1=>xs.length <= sizeLine/\E (.ref C) none H1
theorem oP{x:Str}{np cpos pos:Pos}{e:Expr}{es:List Expr}{t:TA}(G:ExC X.K X.mg x C)(hc:X.calm=true)(hg:Gl X x)(R:vI X E C)(ha:PA X (e::es) t)(hd:(x==("__debug__":Str))=false:=by decide)(he:starEach (e::es) X.env=(false,eval e X.env)::starEach es X.env:=by rfl)(hpl:(backTo cpos (starEach es X.env)).any (·.1)=false:=by rfl): PS X (.Raise (some (.Call (.Name x np) (e::es) [] cpos)) none pos) (aEn E C t):=by
 intro pins s σ H D I h;obtain⟨bm,N,nm,qn,bs,hd',sn,sub,ab,col,dd,k0,k1,k2,k3,k5,hC,⟨mN,hN,hi⟩,T⟩:=zU I.mod.kin G.ex;have hbase:bm.contains (.type "BaseException")=true:=T.hasType (b:=true) (by decide);have hpl':(backTo cpos (starEach (e::es) X.env)).any (·.1)=false:=by rw[he];exact hpl
 refine wpAny_Raise_call_subT (C:=C) (N:=N) (nm:=nm) (q:=qn) (bs:=bs) (bm:=bm) (hdct:=hd') (sn:=sn) (sub:=sub) (ab:=ab) (col:=col) (dd:=dd) (k0:=k0) (k1:=k1) (k2:=k2) (k3:=k3) (k5:=k5) F.excBase_ValueError (mN:=mN) hbase (I.ok.hd hc) hpl' hi (mJ I hg G.gl ⟨rfl,?_⟩ hd);have hb:backTo cpos (starEach (e::es) X.env)=(false,eval e X.env)::backTo cpos (starEach es X.env):=by rw[he];rfl
 have hw:=ha cpos pins s σ H _ I h;rw[hb] at hw ⊢;refine Calls.evalArgs_plain (thn hw fun us s1 ⟨xs,H1,I1,r,z,q⟩=>⟨rfl,by rw[<- r.length];exact z,?_⟩);exact⟨I1.bk _ _ hC,hN.keeps I1.bk,T.keeps I1.bk,fun h' a hm=>R pins σ H1 s1 a h' us I1 hm q⟩
end
section
variable{P:Program}{w:World}{K:W.Frag}{mg:Str->Option Value}{base:Heap}{N:List Str}{qual:Str}{scope:Scope}{f:Addr}{cd:Value}{A:Around}{outer:List Env}{s:Shared}{H:Hp}{E:XK}{pins:List (Addr×Obj)}{σ:St}{H':Hp}{s':Shared}{e:Addr}{cls:Value}
abbrev cxE(P:Program)(w:World)(K:W.Frag)(mg:Str->Option Value)(base:Heap)(N:List Str)(qual:Str)(scope:Scope)(f:Addr)(cd:Value)(A:Around)(outer:List Env)(s:Shared)(H:Hp)(E:XK):Cx:=wO (CXe P w) P w K mg base N qual scope f cd A outer s H E
theorem qW(I:Inv (cxE P w K mg base N qual scope f cd A outer s H E) pins σ H' s')(hn:∀(Q':Unit->Shared->Prop)(E':Value->Shared->Prop),(∀h',Kp (frs (envOfC qual scope s.heap.objs.size f cd::outer)) (Wd s.heap H') s'.heap h'->Tr (Wd s.heap H') h' e cls (rawInt s.heap.objs.size)->Q' () {s' with heap:=h'}) -> wpAny (model P w) (A.deeper (envOfC qual scope s.heap.objs.size f cd)) (noteFrame (.ref e) (envOfC qual scope s.heap.objs.size f cd)) Q' E' s')(hE:E cls none H'):(cxE P w K mg base N qual scope f cd A outer s H E).xe (.ref e) s':=by
 refine zQ (D:=Wd s.heap H') (L:=s.heap.objs.size) (fun Q' h=>hn Q' _ h) fun h' kp tr=>?_;have nl:∀b,Wd s.heap H' b->b≠s.heap.objs.size:=fun b d z=>by
   rcases d with⟨o,q⟩|⟨o,q⟩
   . exact Nat.lt_irrefl _ (z▸Heap.lt_size q)
   . have z2:H' s.heap.objs.size=none:=I.free;rw[z,z2] at q;cases q
 have kp':Kp (frs outer) (Wd s.heap H') s'.heap h':=⟨fun b o d nb q=>kp.keep b o d (fun hm=>?_) q,kp.slot⟩
 . exact⟨e,cls,H',rfl,I.os,I.bare,⟨aCw I.base kp',zK I.hok (fun b hb=>I.stkFree b (List.mem_cons_of_mem _ hb)) kp',tr⟩,hE⟩
 . rcases List.mem_cons.mp (show b∈s.heap.objs.size::frs outer from hm) with z|z
   . exact nl b d z
   . exact nb z
theorem kB{C:Addr}:vI (cxE P w K mg base N qual scope f cd A outer s H E) E C:=by
 intro pins σ H2 s2 a h' args I hx hE;have I2:=I.kept (t':=s2.toks) hx.keeps;obtain⟨t,he,_,_⟩:=hx.there;refine qW (s':={s2 with heap:=h'}) I2 (fun Q' E' k=>?_) hE;refine rJ (D:=Wd s.heap H2) (s:={s2 with heap:=h'}) I2.ok.frames I2.stack rfl he rfl rfl rfl (fun d=>?_) (fun b d=>?_) k
 . rcases d with⟨o,q⟩|⟨o,q⟩
   . obtain⟨o',q'⟩:=I.base.there a o q (fun z=>absurd (show a∈([]:List Addr) from z) (by simp));rw[hx.new] at q';cases q'
   . rw[I.hok.none hx.new] at q;cases q
 . rcases d with⟨o,q⟩|⟨o,q⟩
   . exact I2.base.there b o q (fun z=>absurd (show b∈([]:List Addr) from z) (by simp))
   . exact(I2.hok b o q).there
theorem gI:jR (CXe P w) (cxE P w K mg base N qual scope f cd A outer s H E) E:=by
 intro pins σ H1 s1 e s' I h;obtain⟨a,cls,H',rfl,os,bare,fl,hE⟩:=h;have I2:Inv (cxE P w K mg base N qual scope f cd A outer s H E) pins σ H' s':=I.call' (ch:=[]) os fl.un fl.hok bare fun b z=>absurd z (by simp);refine qW I2 (fun Q' E' k=>?_) hE;refine rG (D:=Wd s.heap H') I2.ok.frames I2.stack rfl (fl.tr.mono fun b d=>?_) (fun b d=>?_) k
 . rcases d with⟨o,q⟩|q
   . exact .inl (I.base.there b o q (fun z=>absurd (show b∈([]:List Addr) from z) (by simp)))
   . exact .inr q
 . rcases d with⟨o,q⟩|⟨o,q⟩
   . exact I2.base.there b o q (fun z=>absurd (show b∈([]:List Addr) from z) (by simp))
   . exact(I2.hok b o q).there
end
section
variable{X:Cx}{CX:CXT}{k:Nat}{f:Addr}{fd:FuncData}{ps:List Str}{sp:Sp}{E:St->XK}{x:Str}{p pos:Pos}{e:Expr}{es:List Expr}{t:TA}
def tR(CX:CXT)(X:Cx)(E:St->XK):Prop:=∀(pins:List (Addr×Obj))(σ:St)(H:Hp)(s:Shared)(e:Value)(s':Shared),Inv X pins σ H s->CX X.stack H s (E σ) e s'->X.xe e s'
def aC6(sp:Sp)(E:St->XK)(t:TA):TE:=fun σ H Q=>t σ H fun vs H1=>sp vs H1 Q (E σ)
theorem aB2(F:gO X.prog X.w X.K X.mg X.base CX k f fd ps sp)(hr:eU k X.A)(hg:Gl X x)(hm:X.mg x=some (.ref f))(hk:W.keepIn X.K (.ref f)=true)(hb:iB X.K fd ps [])(hx:tR CX X E)(ha:PA X (e::es) t)(hdb:(x==("__debug__":Str))=false:=by decide)(he:starEach (e::es) X.env=(false,eval e X.env)::starEach es X.env:=by rfl)(hpl:(backTo pos (starEach es X.env)).any (·.1)=false:=by rfl): PE X (.Call (.Name x p) (e::es) [] pos) (aC6 sp E t):=by
 intro pins s σ H Q I h;refine wpAny_Call_Name_kw (mJ I hg hm ?_ hdb);refine W.callWith_K (h₀:=X.base) I.ok.mod.kin hk (thn (ha pos pins s σ H _ I h) fun us s1 ⟨vs,H1,I1,r,q⟩=>⟨I1.kIn,?_⟩) he hpl;have hl:us.length=ps.length:=by rw[<- r.length];exact F.len _ _ _ _ q
 have hb':=hb s1 us I1.kIn (by rw[List.append_nil];exact hl);rw[List.append_nil] at hb';refine wpAny_call (codeAny_mono (F.run X.A X.stack s1 H1 ⟨us,[]⟩ us vs Q (E σ) hr I1.env0 hb' r q) fun r s' hq=>?_);match r,hq with
 |.error e,hq=>exact hx pins σ H1 s1 e s' I1 hq
 |.ok (.ret u),hq=>exact I1.after hq
 |.ok .next,hq=>exact False.elim hq
 |.ok .brk,hq=>exact False.elim hq
 |.ok .cont,hq=>exact False.elim hq
end
def Cx.tryB(X:Cx)(pins:List (Addr×Obj))(E:St->XK):Cx:={X with pn:=X.pn++pins,xe:=fun e s'=>∃pins' σ' H1 s1,Inv {X with pn:=X.pn++pins} pins' σ' H1 s1/\CXe X.prog X.w X.stack H1 s1 (E σ') e s'}
def Cx.hnd(X:Cx)(a:Addr)(pn:List (Addr×Obj))(xe:Value->Shared->Prop):Cx:={X with A:=X.A.mark (some (.ref a)),calm:=false,pn:=pn,xe:=xe}
section
variable{X:Cx}{pins:List (Addr×Obj)}{σ:St}{H:Hp}{s:Shared}
theorem Inv.pn1(I:Inv X pins σ H s):Inv {X with pn:=X.pn++pins} [] σ H s:=⟨⟨I.ok.mod,I.ok.kind,I.ok.glob,I.ok.blt,I.ok.above,I.ok.inj,I.ok.has,I.ok.cab,I.ok.hd,I.ok.frames,I.ok.stk,I.ok.exf,I.ok.bs,I.ok.bsz,I.ok.noex,I.ok.exfs,I.ok.funs,I.ok.frf⟩,I.os,I.bare,I.base,I.loc,I.cell,I.free,I.freeC,fun p hp=>I.pin p (by rw[List.append_nil] at hp;exact hp),I.hok,I.len⟩
theorem Inv.pn2{pins':List (Addr×Obj)}(I:Inv {X with pn:=X.pn++pins} pins' σ H s):Inv X pins σ H s:=⟨⟨I.ok.mod,I.ok.kind,I.ok.glob,I.ok.blt,I.ok.above,I.ok.inj,I.ok.has,I.ok.cab,I.ok.hd,I.ok.frames,I.ok.stk,I.ok.exf,I.ok.bs,I.ok.bsz,I.ok.noex,I.ok.exfs,I.ok.funs,I.ok.frf⟩,I.os,I.bare,I.base,I.loc,I.cell,I.free,I.freeC,fun p hp=>I.pin p (List.mem_append_left _ hp),I.hok,I.len⟩
theorem Inv.toTry(I:Inv X pins σ H s)(E:St->XK):Inv (X.tryB pins E) [] σ H s:=I.pn1.wish _
theorem Inv.ofTry{E:St->XK}{pins':List (Addr×Obj)}(I:Inv (X.tryB pins E) pins' σ H s):Inv {X with pn:=X.pn++pins} pins' σ H s:=Inv.unwish (X:={X with pn:=X.pn++pins}) I
theorem aGl{E:St->XK}:tR (CXe X.prog X.w) (X.tryB pins E) E:=fun pins' σ H s e s' I h=>⟨pins',σ,H,s,I.ofTry,h⟩
theorem Inv.toHnd(I:Inv X pins σ H s){a:Addr}{pn:List (Addr×Obj)}{xe:Value->Shared->Prop}(h:∀p∈pn,s.heap.get? p.1=some p.2/\H p.1=none/\p.1≠X.env.locals/\p.1∉X.fs/\∀v,p.2.data≠.cell v):Inv (X.hnd a pn xe) [] σ H s:=⟨⟨I.ok.mod,I.ok.kind,I.ok.glob,I.ok.blt,I.ok.above,I.ok.inj,I.ok.has,I.ok.cab,fun z=>(Bool.false_ne_true z).elim,I.ok.frames,I.ok.stk,I.ok.exf,I.ok.bs,I.ok.bsz,I.ok.noex,I.ok.exfs,I.ok.funs,I.ok.frf⟩,I.os,I.bare,I.base,I.loc,I.cell,I.free,I.freeC,fun p hp=>h p (by rw[List.append_nil] at hp;exact hp),I.hok,I.len⟩
theorem Inv.ofHnd{a:Addr}{pn pins':List (Addr×Obj)}{xe:Value->Shared->Prop}(hc:X.calm=true->X.A.handled=none)(hp:∀p∈X.pn++pins,p∈pn)(I:Inv (X.hnd a pn xe) pins' σ H s):Inv X pins σ H s:=⟨⟨I.ok.mod,I.ok.kind,I.ok.glob,I.ok.blt,I.ok.above,I.ok.inj,I.ok.has,I.ok.cab,hc,I.ok.frames,I.ok.stk,I.ok.exf,I.ok.bs,I.ok.bsz,I.ok.noex,I.ok.exfs,I.ok.funs,I.ok.frf⟩,I.os,I.bare,I.base,I.loc,I.cell,I.free,I.freeC,fun p h=>I.pin p (List.mem_append_left _ (hp p h)),I.hok,I.len⟩
end
theorem PS.nox{X:Cx}{st:Stmt}{t:TS}(h:PS X.nox st t):PS X st t:=fun pins s σ H D I hw=>
 wpAny_mono (h pins s σ H D (I.wish _) hw) (fun _ _ q=>q.unwish) fun _ _ z=>False.elim z
def aAf(P:Program)(w:World)(K:W.Frag)(mg:Str->Option Value)(base:Heap)(k:Nat)(x:Str)(ps:List Str)(sp:Sp):Prop:=∃a fd,W.keepIn K (.ref a)=true/\iB K fd ps []/\mg x=some (.ref a)/\gO P w K mg base (CXe P w) k a fd ps sp
section
variable{P:Program}{w:World}{K:W.Frag}{mg:Str->Option Value}{base:Heap}
theorem cE.hasE{x:Str}{st:Stmt}{N ps:List Str}{k:Nat}{sp:Sp}(D:cE K mg x st ps)(S:aW N ps (aI st))(len:∀vs H Q E,sp vs H Q E->vs.length=ps.length)(hbody:∀(f:Addr)(cdv:Value)(A:Around)(outer:List Env)(s:Shared)(H:Hp)(vs:List V)(Q:VK)(E:XK),eU k (A.deeper (envOfC x (aI st) s.heap.objs.size f cdv))->sp vs H Q E -> ∃t,PSs (cxE P w K mg base N x (aI st) f cdv A outer s H E) (bM st) t/\t {nx:=fun _ H'=>Q .non H',rt:=Q} (kU N vs) H):aAf P w K mg base (k+1) x ps sp:=by
 obtain⟨a,fd,F,b,m⟩:=D;refine⟨a,fd,F.kp,b,m,?_⟩;obtain⟨oc,od,kV,doc,pm,an,cdv,ct,osl,rfl,lk,hcd⟩:=F.ex;exact aBr lk hcd S len fun A outer s H vs Q E hr h=>hbody a cdv A outer s H vs Q E hr h
end
theorem qO{X:Cx}{k:Nat}{x:Str}{ps:List Str}{sp:Sp}{E:St->XK}{p pos:Pos}{e:Expr}{es:List Expr}{t:TA}(h:aAf X.prog X.w X.K X.mg X.base k x ps sp)(hr:eU k X.A)(hg:Gl X x)(hx:tR (CXe X.prog X.w) X E)(ha:PA X (e::es) t)(hdb:(x==("__debug__":Str))=false:=by decide)(he:starEach (e::es) X.env=(false,eval e X.env)::starEach es X.env:=by rfl)(hpl:(backTo pos (starEach es X.env)).any (·.1)=false:=by rfl): PE X (.Call (.Name x p) (e::es) [] pos) (aC6 sp E t):=by
 obtain⟨a,fd,h1,h2,h3,h4⟩:=h;exact aB2 h4 hr hg h3 h1 h2 hx ha hdb he hpl
section
variable{P:Program}{w:World}{fs ex:List Addr}{H H':Hp}{h h':Heap}{a:Addr}{ps more:Array Value}
theorem Un.news(k:∀b u,h.get? b=some u->h'.get? b=some u)(hs:∀b,b<h.objs.size->H' b=H b)(hH:∀b o,H b=some o->b<h.objs.size):Un fs ex H H' h h' where
 keep:=fun b u q _ _ _=>k b u q
 slot:=fun b u q _ _ _=>⟨u.slots,k b u q⟩
 free:=fun b u q n _=>(hs b (Heap.lt_size q)).trans n
 there:=fun b u q _=>⟨u,k b u q⟩
 tups:=fun b xs q=>(hs b (hH b _ q)).trans q
 frzs:=fun b o u q=>(hs b (hH b _ q)).trans q
 tbls:=fun b ps q=>⟨#[],by rw[hs b (hH b _ q),q];simp⟩
theorem HOk.news(x:HOk P w H h)(k:∀b u,h.get? b=some u->h'.get? b=some u)(hs:∀b,b<h.objs.size->H' b=H b)(new:∀b o,h.objs.size <= b->H' b=some o->bZ P w H' h' b o):HOk P w H' h':=fun b u e=>by
 by_cases hb:b<h.objs.size
 . rw[hs b hb] at e;exact(x b u e).stay (fun c v _ q=>k c v q) (fun c q=>by rw[hs c (x.lt q)];exact q) fun c xs q=>by rw[hs c (x.lt q)];exact q
 . exact new b u (Nat.le_of_not_lt hb) e
theorem Un.grow(e:H a=some (.tbl ps))(k:∀b u,b≠a->h.get? b=some u->h'.get? b=some u)(heo:∃u,h'.get? a=some u):Un fs ex H (upd H a (.tbl (ps++more))) h h':=by
 have hx:∀b,H b=none->b≠a:=fun b n z=>by rw[z,e] at n;cases n
 refine⟨fun b u q n _ _=>k b u (hx b n) q,fun b u q n _ _=>⟨u.slots,k b u (hx b n) q⟩,fun b u q n _=>by rw[aE (hx b n)];exact n,fun b u q _=>?_,fun b xs q=>?_,fun b o u q=>?_,fun b ps' q=>?_⟩
 . by_cases hb:b=a
   . subst hb;exact heo
   . exact⟨u,k b u hb q⟩
 . rw[aE (bS q e (by intro z;cases z))];exact q
 . rw[aE (bS q e (by intro z;cases z))];exact q
 . by_cases hb:b=a
   . subst hb;rw[e] at q;cases q;exact⟨more,aB⟩
   . exact⟨#[],by rw[aE hb,q];simp⟩
theorem HOk.grow(x:HOk P w H h)(e:H a=some (.tbl ps))(k:∀b u,b≠a->h.get? b=some u->h'.get? b=some u)(new:h'.get? a=some {cls:=.none,data:=.fields (ps++more)}):HOk P w (upd H a (.tbl (ps++more))) h':=fun b u q=>by
 by_cases hb:b=a
 . subst hb;rw[aB] at q;cases q;exact new
 . rw[aE hb] at q;refine(x b u q).stay (fun c v hc r=>k c v ?_ r) (fun c r=>by rw[aE (bS r e (by intro z;cases z))];exact r) fun c xs r=>by rw[aE (bS r e (by intro z;cases z))];exact r
   rcases hc with z|z
   . rw[z];exact hb
   . exact bS z e (by intro y;cases y)
end
def pQ(c:Addr)(q:Str):HO:=.ext fun h=>h.CodeRec (.ref c) q
def aCi(f c:Addr)(q:Str)(pr:Arguments)(e:Expr)(sc:Scope)(cl:List (Str×Addr)):HO:=.ext fun h=>∃pm ct,h.get? f=some (W.kla_obj "<lambda>" q pr e sc cl pm c ct)
def TabOk(H:Hp)(T:Addr)(pos:Pos)(q:Str):Prop:=∃ps,H T=some (.tbl ps)/\(ps=#[]\/∃c,ps=#[rawInt pos.line,rawInt pos.col,.ref c]/\H c=some (pQ c q))
theorem TabOk.same{H H':Hp}{T:Addr}{pos:Pos}{q:Str}(h:TabOk H T pos q)(e:∀b o,H b=some o->H' b=some o):TabOk H' T pos q:=by
 obtain⟨ps,h1,h2⟩:=h;refine⟨ps,e _ _ h1,?_⟩;rcases h2 with z|⟨c,z1,z2⟩
 . exact .inl z
 . exact .inr ⟨c,z1,e _ _ z2⟩
theorem aBz{P:Program}{w:World}{H:Hp}{h:Heap}{c:Addr}{q:Str}(x:h.CodeRec (.ref c) q):bZ P w H h c (pQ c q):=by
 refine⟨x,?_,fun h1 h2 k1 k2=>?_⟩
 . obtain⟨c',o,vs,t,e,ho,_⟩:=x;cases e;exact⟨o,ho⟩
 . obtain⟨c',o,vs,t,e,ho,r⟩:=k1;cases e;exact⟨c,o,vs,t,rfl,k2 o ho,r⟩
theorem zA{P:Program}{w:World}{H:Hp}{h:Heap}{f c:Addr}{q:Str}{pr:Arguments}{e:Expr}{sc:Scope}{cl:List (Str×Addr)}{pm ct:Value}(x:h.get? f=some (W.kla_obj "<lambda>" q pr e sc cl pm c ct)): bZ P w H h f (aCi f c q pr e sc cl):=by
 refine⟨⟨pm,ct,x⟩,⟨_,x⟩,fun h1 h2 k1 k2=>?_⟩;obtain⟨pm',ct',y⟩:=k1;exact⟨pm',ct',k2 _ y⟩
def rX(mg:Str->Option Value)(h:Heap):Prop:=∃bm ob,mg "__builtins__"=some (.ref bm)/\bm≠builtinsNs/\h.get? bm=some ob/\ob.cls=.type "module"/\ob.dict=some builtinsNs/\ob.data=.plain
def aHp(T:Addr)(pos:Pos)(q:Str)(pr:Arguments)(e:Expr)(sc:Scope)(cl:List (Str×Addr)):TE:=fun σ H Q=>TabOk H T pos q/\∀f c H',H f=none->(∀b o,b≠T->H b=some o->H' b=some o)->(∀b,H' b=none->H b=none)->TabOk H' T pos q ->H' f=some (aCi f c q pr e sc cl)->H' c=some (pQ c q)->Q (.ref f) H'
theorem aF3{X:Cx}{pr:Arguments}{e:Expr}{sc:Scope}{pos:Pos}{c T:Addr}{q:Str}(hcode:X.env.code=.ref c)(C:W.CodeHd X.base c T)(B:rX X.mg X.base)(hq:X.env.qual++"<lambda>"=q)(hfree:∀y∈sc.names,y.2=.free->X.env.scope.names.lookup y.1=some .cell\/X.env.scope.names.lookup y.1=some .free)(hdef:defaultsOf pr X.env=([],[]):=by rfl): PE X (.Lambda pr e sc pos) (aHp T pos q pr e sc (bJ X.env.cells sc.names [])):=by
 subst hq;intro pins s σ H Q I h;obtain⟨⟨ps,hT,hps⟩,k⟩:=h;have hcl:closureFor sc X.env=pure (bJ X.env.cells sc.names []):=dS fun y hy hk=>I.ok.has y.1 (hfree y hy hk);have hPo:s.heap.get? T=some (W.tabObj ps):=I.hok T _ hT;have hns:s.heap.Ns mainGlobals X.mg:=I.ok.mod.glob.keeps I.bk;have hgT:mainGlobals≠T:=fun z=>by
   obtain⟨o,es,ep,e1,hd,_⟩:=hns;rw[z,hPo] at e1;cases e1;cases hd
 have hB:s.heap.BuiltinsAt X.mg T:=by
   obtain⟨bm,ob,b1,b2,b3,b4,b5,b6⟩:=B;have e3:=I.bk bm ob b3;refine⟨bm,ob,b1,b2,fun z=>?_,fun z=>?_,e3,b4,b5,b6⟩
   . obtain⟨o,es,ep,e1,hd,_⟩:=hns;rw[<- z,e3] at e1;cases e1;rw[b6] at hd;cases hd
   . rw[z,hPo] at e3;cases e3;cases b4
 refine W.kla_eval hdef ?_;rcases hps with rfl|⟨c0,rfl,hc0⟩
 . refine W.kla_makeFunction (mg:=X.mg) hcl I.ok.glob hns hcode (C.keeps I.bk) hPo trivial rfl hgT hB fun c' ctv h' tk hx hge hlt hrec htb=>?_;have hTlt:T<s.heap.objs.size:=I.hok.lt hT;have k1:∀b u,b≠T->s.heap.get? b=some u->(s.heap.update T fun _=>W.tabObj (#[]++#[rawInt pos.line,rawInt pos.col,.ref c'])).get? b=some u:=fun b u hb e1=>(Heap.get?_update_other _ _ (Ne.symm hb)).trans e1;have kT:(s.heap.update T fun _=>W.tabObj (#[]++#[rawInt pos.line,rawInt pos.col,.ref c'])).get? T=some (W.tabObj (#[]++#[rawInt pos.line,rawInt pos.col,.ref c'])):=Heap.get?_update_self _ hPo rfl;have sz:(s.heap.update T fun _=>W.tabObj (#[]++#[rawInt pos.line,rawInt pos.col,.ref c'])).objs.size=s.heap.objs.size:=Heap.size_update ..;have ok1:HOk X.prog X.w (upd H T (.tbl (#[]++#[rawInt pos.line,rawInt pos.col,.ref c']))) (s.heap.update T fun _=>W.tabObj (#[]++#[rawInt pos.line,rawInt pos.col,.ref c'])):=I.hok.grow hT k1 kT;have u1:Un X.fs [] H (upd H T (.tbl (#[]++#[rawInt pos.line,rawInt pos.col,.ref c']))) s.heap (s.heap.update T fun _=>W.tabObj (#[]++#[rawInt pos.line,rawInt pos.col,.ref c'])):=Un.grow hT k1 ⟨_,kT⟩;have k2:∀b u,(s.heap.update T fun _=>W.tabObj (#[]++#[rawInt pos.line,rawInt pos.col,.ref c'])).get? b=some u ->(h'.push (W.kla_obj "<lambda>" (X.env.qual++"<lambda>") pr e sc (bJ X.env.cells sc.names []) ((X.mg "__name__").getD .none) c' ctv)).get? b=some u:=fun b u e1=>by
     refine Heap.get?_push_of_some _ ?_;by_cases hb:b=T
     . subst hb;rw[kT] at e1;cases e1;exact htb
     . rw[Heap.get?_update_other _ _ (Ne.symm hb)] at e1;exact hx b u hb e1
   have hnc:H c'=none:=I.hok.fresh hge;have hnf:H h'.objs.size=none:=I.hok.fresh (Nat.le_trans hge (Nat.le_of_lt hlt));have nc:c'≠T:=Nat.ne_of_gt (Nat.lt_of_lt_of_le hTlt hge);have nf:h'.objs.size≠T:=Nat.ne_of_gt (Nat.lt_of_lt_of_le hTlt (Nat.le_trans hge (Nat.le_of_lt hlt)));have hs2:∀b,b<(s.heap.update T fun _=>W.tabObj (#[]++#[rawInt pos.line,rawInt pos.col,.ref c'])).objs.size ->upd (upd (upd H T (.tbl (#[]++#[rawInt pos.line,rawInt pos.col,.ref c']))) c' (pQ c' (X.env.qual++"<lambda>"))) h'.objs.size (aCi h'.objs.size c' (X.env.qual++"<lambda>") pr e sc (bJ X.env.cells sc.names [])) b=upd H T (.tbl (#[]++#[rawInt pos.line,rawInt pos.col,.ref c'])) b:=fun b hb=>by
     rw[sz] at hb;rw[aE (Nat.ne_of_lt (Nat.lt_of_lt_of_le hb (Nat.le_trans hge (Nat.le_of_lt hlt)))),aE (Nat.ne_of_lt (Nat.lt_of_lt_of_le hb hge))]
   have fO:(h'.push (W.kla_obj "<lambda>" (X.env.qual++"<lambda>") pr e sc (bJ X.env.cells sc.names []) ((X.mg "__name__").getD .none) c' ctv)).get? h'.objs.size=some (W.kla_obj "<lambda>" (X.env.qual++"<lambda>") pr e sc (bJ X.env.cells sc.names []) ((X.mg "__name__").getD .none) c' ctv):=Heap.get?_push_size _ rfl;have I2:Inv X pins σ _ {s with heap:=h'.push (W.kla_obj "<lambda>" (X.env.qual++"<lambda>") pr e sc (bJ X.env.cells sc.names []) ((X.mg "__name__").getD .none) c' ctv),toks:=tk}:= I.un (u1.trans (Un.news k2 hs2 fun b o e1=>ok1.lt e1)) (ok1.news k2 hs2 fun b o hb e1=>by
       by_cases b1:b=h'.objs.size
       . subst b1;rw[aB] at e1;cases e1;exact zA fO
       . rw[aE b1] at e1;by_cases b2:b=c'
         . subst b2;rw[aB] at e1;cases e1;exact aBz (hrec.keeps fun b o e1=>Heap.get?_push_of_some _ e1)
         . rw[aE b2,aE (fun z=>by rw[sz,z] at hb;exact absurd hTlt (Nat.not_lt_of_le hb))] at e1;rw[sz] at hb;rw[I.hok.fresh hb] at e1;cases e1)
   have ec:upd (upd (upd H T (.tbl (#[]++#[rawInt pos.line,rawInt pos.col,.ref c']))) c' (pQ c' (X.env.qual++"<lambda>"))) h'.objs.size (aCi h'.objs.size c' (X.env.qual++"<lambda>") pr e sc (bJ X.env.cells sc.names [])) c'=some (pQ c' (X.env.qual++"<lambda>")):=by
     rw[aE (Nat.ne_of_lt hlt),aB]
   refine⟨.ref h'.objs.size,_,I2,rfl,k h'.objs.size c' _ hnf (fun b o hb e1=>?_) (fun b e1=>?_) ⟨_,?_,.inr ⟨c',rfl,ec⟩⟩ aB ec⟩
   . rw[aE (aH e1 hnf),aE (aH e1 hnc),aE hb];exact e1
   . have b1:b≠h'.objs.size:=fun z=>by rw[z,aB] at e1;cases e1
     rw[aE b1] at e1;have b2:b≠c':=fun z=>by rw[z,aB] at e1;cases e1
     rw[aE b2] at e1;have b3:b≠T:=fun z=>by rw[z,aB] at e1;cases e1
     rw[aE b3] at e1;exact e1
   . rw[aE (Ne.symm nf),aE (Ne.symm nc),aB];rfl
 . have hf:codeAmong pos (#[rawInt pos.line,rawInt pos.col,Value.ref c0]:Array Value).toList=some (.ref c0):=by simp[codeAmong,rawInt]
   refine W.kla_makeFunctionHit (mg:=X.mg) hcl I.ok.glob hns hcode (C.keeps I.bk) hPo trivial hf hB fun ctv h' tk hk hsz=>?_;have hnf:H h'.objs.size=none:=I.hok.fresh hsz;have I1:Inv X pins σ H {s with heap:=h',toks:=tk}:=I.kept hk;have I2:=I1.laid (a:=h'.objs.size) (o:=aCi h'.objs.size c0 (X.env.qual++"<lambda>") pr e sc (bJ X.env.cells sc.names [])) (t':=tk) (h':=h'.push (W.kla_obj "<lambda>" (X.env.qual++"<lambda>") pr e sc (bJ X.env.cells sc.names []) ((X.mg "__name__").getD .none) c0 ctv)) (fun b u e1=>Heap.get?_push_of_some _ e1) (Nat.le_refl _) (zA (Heap.get?_push_size _ rfl));have ec:upd H h'.objs.size (aCi h'.objs.size c0 (X.env.qual++"<lambda>") pr e sc (bJ X.env.cells sc.names [])) c0=some (pQ c0 (X.env.qual++"<lambda>")):=by rw[aE (aH hc0 hnf)];exact hc0
   refine⟨.ref h'.objs.size,_,I2,rfl,k h'.objs.size c0 _ hnf (fun b o hb e1=>?_) (fun b e1=>?_) ⟨_,?_,.inr ⟨c0,rfl,ec⟩⟩ aB ec⟩
   . rw[aE (aH e1 hnf)];exact e1
   . have b1:b≠h'.objs.size:=fun z=>by rw[z,aB] at e1;cases e1
     rw[aE b1] at e1;exact e1
   . rw[aE (aH hT hnf)];exact hT
structure aC2 (sc0:Scope) (XN:List Str) (sc:Scope) (x:Str) (fr:List Str) (js:List Nat):Prop where
 kind:sc.kind=.function
 co:sc.isCoroutine=false
 gen:sc.isGenerator=false
 cell:∀y∈sc.names,y.2≠.cell
 par:sc.names.lookup x=some .local
 free:∀y∈sc.names,y.2=.free->sc0.names.lookup y.1=some .cell\/sc0.names.lookup y.1=some .free
 len:fr.length=js.length
 at_:∀p∈fr.zip js,XN[p.2]?=some p.1/\sc.names.lookup p.1=some .free
def aDu(X:Cx)(sc:Scope)(q:Str)(NN:List Str)(f c:Addr)(A:Around)(s:Shared)(H:Hp):Cx where
 prog:=X.prog
 w:=X.w
 K:=X.K
 mg:=X.mg
 base:=X.base
 A:=A.deeper (W.envX q sc s.heap.objs.size f (.ref c) (bJ X.env.cells sc.names []))
 N:=NN
 s₀:=s
 H₀:=H
 env:=W.envX q sc s.heap.objs.size f (.ref c) (bJ X.env.cells sc.names [])
 outer:=X.stack
 stack:=W.envX q sc s.heap.objs.size f (.ref c) (bJ X.env.cells sc.names [])::X.stack
 ex:=[]
 fn:=fun x=>((bJ X.env.cells sc.names []).lookup x).isNone
 calm:=true
 pn:=[]
 xe:=fun _ _=>False
def aF7(v:V)(js:List Nat)(σ:St):St:=some v::js.map fun j=>(σ[j]?).join
theorem aF9{X:Cx}{pins:List (Addr×Obj)}{σ:St}{H:Hp}{s:Shared}{A:Around}{f c:Addr}{q x:Str}{sc:Scope}{fr:List Str}{js:List Nat}{v:V}{u:Value}{h₁:Heap}{tk:Nat}(I:Inv X pins σ H s)(LS:aC2 X.env.scope X.N sc x fr js)(hA:A.frames=some X.stack)(hh:A.handled=none)(rv:bY v u)(hns:h₁.Ns s.heap.objs.size (fun y=>([(x,u)]:List (Str×Value)).reverse.lookup y))(hk:∀b o,s.heap.get? b=some o->h₁.get? b=some o): Inv (aDu X sc q (x::fr) f c A s H) [] (aF7 v js σ) H {s with heap:=h₁,toks:=tk}:=by
 refine⟨⟨I.ok.mod,LS.kind,rfl,rfl,Nat.le_refl _,fun x y c h1 h2=>I.ok.inj x y c (eP h1) (eP h2),fun y hy=>?_,fun y c h e=>?_,fun _=>hh,Around.frames_deeper hA,.inr ⟨rfl,rfl⟩,fun b z=>absurd (show b∈([]:List Addr) from z) (by simp),I.bs,Nat.le_trans I.ok.bsz I.sz,fun b _ _ z=>absurd (show b∈([]:List Addr) from z) (by simp),fun b z=>absurd (show b∈([]:List Addr) from z) (by simp),I.stack,I.stkFree⟩,rfl,I.bare,Un.kept hk,⟨_,hns,fun i y v' h1 h2 _=>?_⟩,fun y c e=>?_,I.hok.fresh (Nat.le_refl _),fun y c e=>I.freeC y c (eP e),fun p hp=>absurd (show p∈([]:List (Addr×Obj)) from hp) (by simp),I.hok.kept hk,?_⟩
 . have hy':sc.names.lookup y=some .cell\/sc.names.lookup y=some .free:=hy;rcases hy' with z|z
   . exact absurd rfl (LS.cell _ (cG z))
   . obtain⟨c,hc⟩:=I.ok.has y (LS.free _ (cG z) rfl);exact⟨c,eQ (cG z) hc⟩
 . have h':((bJ X.env.cells sc.names []).lookup y).isNone=true:=h;have e':(bJ X.env.cells sc.names []).lookup y=some c:=e;rw[e'] at h';cases h'
 . cases i with
   |zero=>
     have e1:x=y:=Option.some.inj h1;have e2:v=v':=Option.some.inj (Option.some.inj h2);subst e1 e2;refine⟨u,rv,.inl ⟨LS.par,?_⟩⟩;show([(x,u)]:List (Str×Value)).reverse.lookup x=some u;rw[List.reverse_singleton,List.lookup_cons,beq_self_eq_true]
   |succ i=>
     have h1':fr[i]?=some y:=h1;have h2':(js.map fun j=>(σ[j]?).join)[i]?=some (some v'):=h2;rw[List.getElem?_map] at h2';cases hj:js[i]? with
     |none=>rw[hj] at h2';cases h2'
     |some j=>
       rw[hj] at h2';have e3:(σ[j]?).join=some v':=Option.some.inj h2';have e4:σ[j]?=some (some v'):=by
         cases q':σ[j]? with
         |none=>rw[q'] at e3;cases e3
         |some z=>rw[q'] at e3;cases z with
           |none=>cases e3
           |some z'=>exact congrArg (fun y=>some (some y)) (Option.some.inj e3)
       have hz:(y,j)∈fr.zip js:=by
         refine List.mem_of_getElem? (i:=i) ?_;rw[List.getElem?_zip_eq_some];exact⟨h1',hj⟩
       obtain⟨a1,a2⟩:=LS.at_ _ hz;have kX:=LS.free (y,.free) (cG a2) rfl;obtain⟨m0,hm0,hl0⟩:=I.loc;obtain⟨u',ru,look⟩:=hl0 j y v' a1 e4 (kX.elim (fun z=>.inr (.inl z)) fun z=>.inr (.inr z));rcases look with⟨kl,_⟩|⟨_,c,hc,o,hoc,hod⟩
       . have kl':X.env.scope.names.lookup y=some .local:=kl;dsimp only at kX;rw[kl'] at kX;rcases kX with z|z <;> cases z
       . exact⟨u',ru,.inr ⟨.inr a2,c,eQ (cG a2) hc,⟨_,hk _ _ hoc,hod⟩⟩⟩
 . obtain⟨v,z⟩:=I.cell y c (eP e);exact⟨v,z.keeps hk⟩
 . show(aF7 v js σ).length=(x::fr).length;unfold aF7;rw[List.length_cons,List.length_cons,List.length_map,LS.len]
theorem aDt{X:Cx}{pins:List (Addr×Obj)}{σ:St}{H:Hp}{s:Shared}{A:Around}{f c:Addr}{q x:Str}{pr:Arguments}{body:Expr}{sc:Scope}{fr:List Str}{js:List Nat}{v:V}{u:Value}{tb:TE}{Q:VK}{E:Value->Shared->Prop}(I:Inv X pins σ H s)(LS:aC2 X.env.scope X.N sc x fr js)(hA:A.frames=some X.stack)(hh:A.handled=none)(hd:A.depth<recursionLimit)(hbind:∀pm ct,bindArgs (W.kla_fn "<lambda>" q pr body sc (bJ X.env.cells sc.names []) pm (.ref c) ct) ⟨[u],[]⟩=pure [(x,u)])(hf:H f=some (aCi f c q pr body sc (bJ X.env.cells sc.names [])))(hc:H c=some (pQ c q))(rv:bY v u)(hb:PE (aDu X sc q (x::fr) f c A s H) body tb)(h:tb (aF7 v js σ) H Q): wpAny (model X.prog X.w) A (call (.ref f) [u]) (EP X pins σ Q) E s:=by
 obtain⟨⟨pm,ct,ho⟩,_⟩:=(show _/\_ from I.hok f _ hf);obtain⟨hcd,_⟩:=(show _/\_ from I.hok c _ hc);refine wpAny_call (W.kla_callFunE hd ho rfl LS.co LS.gen rfl hcd ?_);rw[hbind];refine wpAny_pure (wpAny_newFunctionEnv LS.cell (fun y hy=>?_) (fun h₁ hns hsb=>⟨I.nolimit.fresh _ hsb,?_⟩) LS.kind)
 . rw[List.mem_singleton.mp hy];exact LS.par
 have hk₁:∀b o,s.heap.get? b=some o->h₁.get? b=some o:=fun b o e=>hsb.extBut b o (Nat.ne_of_lt (Heap.lt_size e)) (Heap.get?_push_of_some _ e);show codeAny _ _ (.expr body (W.envX q sc s.heap.objs.size f (.ref c) (bJ X.env.cells sc.names []))) _ _;refine W.kla_codeExpr (wpAny_mono (hb [] _ _ H Q (aF9 I LS hA hh rv hns hk₁) h) (fun v' s' hv=>?_) fun _ _ hF=>hF.elim);obtain⟨v2,H',J,r2,q2⟩:=hv;exact I.after ⟨v2,H',J.os,J.bare,J.base,J.hok,r2,q2⟩
inductive aFv (A:Around) (s:Shared):List Value->List Value->List (Bool×Bool)->Prop where
 |nil:aFv A s [] [] []
 |cons {v u:Value} {vs us:List Value} {e l:Bool} {gs:List (Bool×Bool)} (he:SeqAt.EqAt A s v u e) (hl:e=false->∀(prog:Program)(w:World)(E:Value->Shared->Prop)(Q:Value->Shared->Prop),Q (.bool l) s->wpAny (model prog w) A (richCompare .Lt v u) Q E s)
   (t:aFv A s vs us gs):aFv A s (v::vs) (u::us) ((e,l)::gs)
def aCh:List (Bool×Bool)->Bool
 |[]=>false
 |(e,l)::r=>if e=true then aCh r else l
section
open PySem.SeqAt
open PySem.AutoSeq1 (wpAny_loadPart')
open PySem.MeetsSeq PySem.MeetsSeq2 PySem.MeetsSeq3
theorem qA(l b:Addr)(items items2:Array Value)(n n2:Nat)(dd dd2:Option Addr)(sl sl2:Array (Option Value))(gs:List (Bool×Bool))(hz:items.size=items2.size)(hG:∀A s,aFv A s items.toList items2.toList gs):
   Meets (Builtin.«tuple.__lt__» ⟨[.ref l,.ref b],[]⟩)
     (fun _ R s=>s.heap.get? l=some {cls:=.type "tuple", dict:=dd,data:=.seq items n,slots:=sl}/\s.heap.get? b=some {cls:=.type "tuple", dict:=dd2,data:=.seq items2 n2,slots:=sl2} /\ R (.ok (.ret (.bool (aCh gs)))) s):=
 .of_wp fun prog w A R s h=>by
   obtain⟨hp,g,d,tk,os⟩:=s;obtain⟨hl,hb,h⟩:=h;have f2:=AutoSeq1.sub_tuple_tuple;wp_walk using wpAny_loadPart' hl,wpAny_loadPart' hb,wpAny_forIn_list _ (fun dZ b s'=>b.1=none/\s'=⟨hp,g,d,tk,os⟩/\∃(vs ws:List Value)(gs':List (Bool×Bool)),dZ=vs.zip ws /\ aFv A.in1 ⟨hp,g,d,tk,os⟩ vs ws gs'/\R (.ok (.ret (.bool (aCh gs')))) ⟨hp,g,d,tk,os⟩) _
   case turn=>
     rintro ⟨y,x⟩ dZ b s' ⟨hb',rfl,vs,ws,gs',hz',hg,hR⟩;cases hg with
     |nil=>rw[List.zip_nil_left] at hz';cases hz'
     |@cons v u vs us e l gs he hl hg=>
       rw[List.zip_cons_cons] at hz';injection hz' with hyx hrest;injection hyx with hy hx;subst hy hx;unfold aCh at hR;refine wpAny_bind (he prog w _ _ ?_);cases e with
       |true=>
         rw[if_pos rfl] at hR;wp_walk;exact⟨rfl,rfl,_,_,_,hrest,hg,hR⟩
       |false=>
         rw[if_neg Bool.false_ne_true] at hR;have hri:=hl rfl prog w;wp_walk using hri;exact⟨_,rfl,by simpa using hR⟩
   case fin=>
     rintro ⟨b1,b2⟩ s' ⟨hb',rfl,vs,ws,gs',hz',hg,hR⟩;simp only at hb';subst hb';cases hg with
     |nil=>
       have hv:aCh []=decide (items.size<items2.size):=by
         show false=_;exact(decide_eq_false (by omega)).symm
       rw[hv] at hR;wp_walk;exact⟨_,rfl,by simpa [Builtin.Tuple.tupleCompareSizes] using hR⟩
     |cons he hl hg=>
       rw[List.zip_cons_cons] at hz';cases hz'
   case h=>
     exact⟨rfl,rfl,items.toList,items2.toList,gs,rfl,hG _ _,h⟩
end
theorem rB(a b:Bool):Gives (Builtin.«int.__lt__» ⟨[.bool a,.bool b],[]⟩) (.val (Value.bool (decide ((if a=true then(1:Int) else 0)<(if b=true then(1:Int) else 0))))):=.of_wp fun M A E s Q h=>by obtain⟨hp,g,d,tk,os⟩:=s;wp_walk;exact⟨_,rfl,h⟩
theorem yA{A:Around}{s:Shared}(a b:Bool)(prog:Program)(w:World)(E:Value->Shared->Prop)(Q:Value->Shared->Prop)(h:Q (.bool (!a && b)) s):wpAny (model prog w) A (richCompare .Lt (.bool a) (.bool b)) Q E s:=richCompare_gives (op:=.Lt) (T := "bool") rfl rfl PySem.F.slot_bool_lt PySem.F.entry_int_lt (PySem.F.args_int_lt_2 _ _) (rB a b) (fun x=>nomatch x) (by cases a <;> cases b <;> exact h)
def kLt(a b:Int×Bool):Bool:=aCh [((a.1==b.1),decide (a.1<b.1)),((a.2==b.2),(!a.2 && b.2))]
theorem zE{a b:Int×Bool}(h:kLt a b=false):b.1 <= a.1:=by
 unfold kLt aCh at h;by_cases e:a.1=b.1
 . omega
 . rw[if_neg (by simpa using e)] at h;have:=of_decide_eq_false h;omega
theorem aBj{a b:Int×Bool}(h:kLt a b=true):a.1 <= b.1:=by
 unfold kLt aCh at h;by_cases e:a.1=b.1
 . omega
 . rw[if_neg (by simpa using e)] at h;have:=of_decide_eq_true h;omega
theorem xZ{prog:Program}{w:World}{A:Around}{E:Value->Shared->Prop}{s:Shared}{l b:Addr}{k1 k2:Int×Bool}{t1 t2:Tok}{Q:Value->Shared->Prop}(hl:IsTup s.heap l #[.int k1.1 t1,.bool k1.2])(hb:IsTup s.heap b #[.int k2.1 t2,.bool k2.2])(hu:A.units<cLine)(h:Q (.bool (kLt k1 k2)) s):wpAny (model prog w) A (richCompare .Lt (.ref l) (.ref b)) Q E s:=by
 obtain⟨⟨cls,dd,data,sl⟩,ho,hc,n,hd⟩:=id hl;obtain⟨⟨cls2,dd2,data2,sl2⟩,ho2,hc2,n2,hd2⟩:=id hb;simp only at hc hd hc2 hd2;subst hc hd hc2 hd2;exact richCompare_meets_room (op:=.Lt) ⟨_,ho,rfl⟩ ⟨_,ho2,rfl⟩ PySem.F.slot_tuple_lt PySem.F.entry_tuple_lt (PySem.F.args_tuple_lt_2 _ _) (qA l b #[.int k1.1 t1,.bool k1.2] #[.int k2.1 t2,.bool k2.2] n n2 dd dd2 sl sl2 [((k1.1==k2.1),decide (k1.1<k2.1)),((k1.2==k2.2),(!k1.2 && k2.2))] rfl (fun A s=>.cons (SeqAt.EqAt.int_int k1.1 t1 k2.1 t2) (fun _ prog w E Q q=>HT.rcLt_int A s k1.1 t1 k2.1 t2 prog w E Q q) (.cons (SeqAt.EqAt.bool_bool k1.2 k2.2) (fun _ prog w E Q q=>yA k1.2 k2.2 prog w E Q q) .nil))) ⟨ho,ho2,show Value.bool (kLt k1 k2)≠Value.notImplemented/\Q (.bool (kLt k1 k2)) s from⟨(fun x=>nomatch x),h⟩⟩ hu
theorem aC4{X:Cx}{pins:List (Addr×Obj)}{σ:St}{H:Hp}{s:Shared}{tp:Addr}{n:Int}{b:Bool}(I:Inv X pins σ H s)(h:H tp=some (.tup [.int n,.bl b])):∃t,IsTup s.heap tp #[.int n t,.bool b]:=by
 obtain⟨_,its,r,q⟩:=(show bZ X.prog X.w H s.heap tp (.tup [.int n,.bl b]) from I.hok tp _ h);obtain⟨u,v,rfl,ru,rv⟩:=bO.two r;obtain⟨t,rfl⟩:=ru;cases rv;exact⟨t,q⟩
section
variable{X:Cx}{pins:List (Addr×Obj)}{σ:St}
theorem aBe{H0:Hp}{ns:List Int}{kf:Int->Int×Bool}{p f It S:Addr}{d:Value}{dv:V}{ky:Str}{R:Result->Shared->Prop}(hc:X.A.handled=none)(hu:X.A.in1.units<cLine)(hS0:SqL X.K H0 p (ns.map V.int))(rd:bY dv d)(fI:∀H,H It=none->mY X pins H It)(fS:∀H,H S=none->mY X pins H S)(hSI:S≠It)(hpI:p≠It)(hkey:∀(n:Int)(u:Value)(pins':List (Addr×Obj))(s1:Shared)(H1:Hp)(E:Value->Shared->Prop),n∈ns->bY (.int n) u->Inv X pins' σ H1 s1->Same H0 H1 -> wpAny (model X.prog X.w) X.A.in1 (call (.ref f) [u]) (EP X pins' σ fun v H2=>Same H1 H2/\∃tp,v=.ref tp/\H2 tp=some (.tup [.int (kf n).1,.bl (kf n).2])) E s1)(hR:∀v u s' H',Inv X pins σ H' s'->Same H0 H'->bY v u->((ns=[]/\v=dv)\/∃b,b∈ns/\v=.int b/\∀n∈ns,(kf b).1 <= (kf n).1)->R (.ok (.ret u)) s'):
   ∀(k i:Nat)(s:Shared)(H:Hp)(cur:List Value)(c:Nat)(oI:Obj),ns.length - i=k->i <= ns.length ->
     Inv X (pins++[(It,oI),(S,{cls:=.type "list", dict:=none,data:=.seq cur.toArray c,slots:=#[]})]) σ H s->oI.cls=.type "list_iterator"->oI.data=.fields #[.ref p,.int i 0]->Same H0 H ->
     ((cur=[]/\i=0)\/∃b t tp,cur=[.int b t,.ref tp]/\b∈ns.take i/\H tp=some (.tup [.int (kf b).1,.bl (kf b).2])/\∀n∈ns.take i,(kf b).1 <= (kf n).1) ->
     codeAny (model X.prog X.w) X.A (.builtin "min.loop" ⟨[.ref It,.ref f,.ref S],[(ky,d)]⟩) R s:=by
 have nm:(toString "min"++toString ".loop":String) = "min.loop":=by decide
 intro k;induction k with
 |zero=>
   intro i s H cur c oI hk hi I oc od sm hcur;have hin:i=ns.length:=by omega
   subst hin;have pI:=I.pin (It,oI) (by simp);have pS:=I.pin (S,{cls:=.type "list", dict:=none,data:=.seq cur.toArray c,slots:=#[]}) (by simp);obtain⟨its,rv',pl,hz⟩:=I.list (sm.seq hS0);have hlen:its.length=ns.length:=by have:=rv'.length;rw[List.length_map] at this;exact this.symm
   have hsz:its.toArray.size=ns.length:=by rw[List.size_toArray,hlen]
   have W:=Walks.list (prog:=X.prog) (w:=X.w) (A:=X.A.in1) hc It p hpI its.toArray;obtain⟨fI1,fI2,fI3,fI4,fI5,fI6⟩:=fI H pI.2.1;obtain⟨fS1,fS2,fS3,fS4,fS5,fS6⟩:=fS H pS.2.1;refine codeAny_builtin PySem.F.entry_min_loop ?_;rw[Around.under_plainId PySem.F.plain_min_loop _];show wpAny _ X.A.in1 (seqItems? (.ref S) >>= _) _ _ s;refine wpAny_bind (wpAny_seqItems pS.1 rfl ?_);show wpAny _ X.A.in1 (tryCatch (pyNext (.ref It)) _ >>= _) _ _ s;refine wpAny_bind (wpAny_tryCatch (W.done s _ _ ⟨by rw[hsz];exact⟨oI,pI.1,oc,od⟩,pl.isList⟩ fun h1 tk hk1=>?_));have J0:Inv X pins σ H s:=I.unpinned;have J1:Inv X pins σ H {s with heap:=h1,toks:=tk}:=J0.turned (it:=It) (fun b o hb e=>hk1 b o (by simpa using hb) e) pI.2.1 fI2 fI4 fI5 fI6;have hS1:=hk1 S _ (by simpa using hSI) pS.1;rcases hcur with⟨rfl,h0⟩|⟨b,t,tp,rfl,hb,htp,hle⟩
   . have e0:ns=[]:=List.length_eq_zero_iff.mp h0;refine wpAny_bind (wpAny_rule (wpAny_pure ?_));exact hR dv d _ H J1 sm rd (.inl ⟨e0,rfl⟩)
   . rw[List.take_of_length_le (Nat.le_refl _)] at hb hle;show wpAny _ X.A.in1 (updateSeq S (fun _=>#[]) >>= _) _ _ _;refine wpAny_bind (wpAny_updateSeq hS1 rfl (wpAny_bind (wpAny_letGo (wpAny_pure ?_))));refine hR (.int b) _ _ H (J1.turned (it:=S) (fun x o hx e=>(Heap.get?_update_other _ _ (Ne.symm hx)).trans e) pS.2.1 fS2 fS4 fS5 fS6) sm ⟨t,rfl⟩ (.inr ⟨b,hb,rfl,hle⟩)
 |succ k ih=>
   intro i s H cur c oI hk hi I oc od sm hcur;have hlt:i<ns.length:=by omega
   have pI:=I.pin (It,oI) (by simp);have pS:=I.pin (S,{cls:=.type "list", dict:=none,data:=.seq cur.toArray c,slots:=#[]}) (by simp);obtain⟨its,rv',pl,hz⟩:=I.list (sm.seq hS0);have hlen:its.length=ns.length:=by have:=rv'.length;rw[List.length_map] at this;exact this.symm
   have hsz:its.toArray.size=ns.length:=by rw[List.size_toArray,hlen]
   have W:=Walks.list (prog:=X.prog) (w:=X.w) (A:=X.A.in1) hc It p hpI its.toArray;obtain⟨fI1,fI2,fI3,fI4,fI5,fI6⟩:=fI H pI.2.1;obtain⟨fS1,fS2,fS3,fS4,fS5,fS6⟩:=fS H pS.2.1;refine codeAny_builtin PySem.F.entry_min_loop ?_;rw[Around.under_plainId PySem.F.plain_min_loop _];show wpAny _ X.A.in1 (seqItems? (.ref S) >>= _) _ _ s;refine wpAny_bind (wpAny_seqItems pS.1 rfl ?_);show wpAny _ X.A.in1 (tryCatch (pyNext (.ref It)) _ >>= _) _ _ s;refine wpAny_bind (wpAny_tryCatch (W.item i s _ _ (by rw[hsz];exact hlt) ⟨⟨oI,pI.1,oc,od⟩,pl.isList⟩ fun v h1 tk hP hst1 hk1=>?_));obtain⟨tv,ev⟩:∃t,v=.int ns[i] t:=by
     have e:(ns.map V.int)[i]?=some (.int ns[i]):=by rw[List.getElem?_map,List.getElem?_eq_getElem hlt];rfl
     obtain⟨u,hu,ru⟩:=rv'.get e;have hP':its[i]?=some v:=by simpa using hP
     rw[hP'] at hu;cases hu;exact ru
   subst ev;obtain⟨⟨oI',hoI',oc',od'⟩,_⟩:=hst1;have hmem:ns[i]∈ns:=List.getElem_mem hlt;have htk:ns.take (i+1)=ns.take i++[ns[i]]:=by rw[List.take_add_one,List.getElem?_eq_getElem hlt];rfl
   have hS1:=hk1 S _ (by simpa using hSI) pS.1;have J0:Inv X (pins++[(S,{cls:=.type "list", dict:=none,data:=.seq cur.toArray c,slots:=#[]})]) σ H s:=I.pins_of fun q hq=>I.pin q (by
     rcases List.mem_append.mp hq with z|z
     . simp[z]
     . rw[List.mem_singleton.mp z];simp)
   have J1:Inv X (pins++[(S,{cls:=.type "list", dict:=none,data:=.seq cur.toArray c,slots:=#[]})]) σ H {s with heap:=h1,toks:=tk}:=J0.turned (it:=It) (fun b o hb e=>hk1 b o (by simpa using hb) e) pI.2.1 fI2 fI4 fI5 (fun q hq=>by
     rcases List.mem_append.mp hq with z|z
     . exact fI6 q (List.mem_append_left _ z)
     . rcases List.mem_append.mp z with y|y
       . exact fI6 q (List.mem_append_right _ y)
       . rw[List.mem_singleton.mp y];exact hSI)
   have J2:Inv X (pins++[(It,oI'),(S,{cls:=.type "list", dict:=none,data:=.seq cur.toArray c,slots:=#[]})]) σ H {s with heap:=h1,toks:=tk}:=J1.pins_of fun q hq=>by
     rcases List.mem_append.mp hq with z|z
     . exact J1.pin q (by simp[z])
     . rcases List.mem_cons.mp z with rfl|z
       . exact⟨hoI',pI.2.1,fI2,fI3,fun v z=>by rw[od'] at z;cases z⟩
       . exact J1.pin q (by rw[List.mem_singleton.mp z];simp)
   show wpAny _ X.A.in1 (tryCatch (holding [Value.int ns[i] tv] (call (.ref f) [Value.int ns[i] tv])) _ >>= _) _ _ _;refine wpAny_bind (wpAny_tryCatch (wpAny_holding (thn (hkey ns[i] _ _ _ H _ hmem ⟨tv,rfl⟩ J2 sm) fun x s2 he=>?_)));obtain⟨v2,H2,J3,r2,sm2,tp,rfl,htp⟩:=he;cases r2;have sm3:Same H0 H2:=sm.trans sm2;have pI3:=J3.pin (It,oI') (by simp);have pS3:=J3.pin (S,{cls:=.type "list", dict:=none,data:=.seq cur.toArray c,slots:=#[]}) (by simp);have upS:∀(new:List Value),∃c',Inv X (pins++[(It,oI'),(S,{cls:=.type "list", dict:=none,data:=.seq new.toArray c',slots:=#[]})]) σ H2 {s2 with heap:=s2.heap.update S (Obj.mapSeq fun _=>new.toArray)}:=fun new=>by
     have Ja:Inv X (pins++[(It,oI')]) σ H2 s2:=J3.pins_of fun q hq=>J3.pin q (by
       rcases List.mem_append.mp hq with z|z
       . simp[z]
       . rw[List.mem_singleton.mp z];simp)
     have Jb:Inv X (pins++[(It,oI')]) σ H2 {s2 with heap:=s2.heap.update S (Obj.mapSeq fun _=>new.toArray),toks:=s2.toks}:=Ja.turned (it:=S) (fun x o hx e=>(Heap.get?_update_other _ _ (Ne.symm hx)).trans e) pS3.2.1 fS2 fS4 fS5 (fun q hq=>by
       rcases List.mem_append.mp hq with z|z
       . exact fS6 q (List.mem_append_left _ z)
       . rcases List.mem_append.mp z with y|y
         . exact fS6 q (List.mem_append_right _ y)
         . rw[List.mem_singleton.mp y];exact hSI.symm)
     obtain⟨c',hc'⟩:∃c',(s2.heap.update S (Obj.mapSeq fun _=>new.toArray)).get? S=some {cls:=.type "list", dict:=none,data:=.seq new.toArray c',slots:=#[]}:=⟨_,Heap.get?_update_self _ pS3.1 rfl⟩;refine⟨c',Jb.pins_of fun q hq=>?_⟩;rcases List.mem_append.mp hq with z|z
     . exact Jb.pin q (by simp[z])
     . rcases List.mem_cons.mp z with rfl|z
       . exact Jb.pin (It,oI') (by simp)
       . rw[List.mem_singleton.mp z];exact⟨hc',pS3.2.1,fS2,fS3,fun v z=>nomatch z⟩
   rcases hcur with⟨rfl,h0⟩|⟨b,t,tb,rfl,hb,htb,hle⟩
   . subst h0;show wpAny _ X.A.in1 (updateSeq S (fun _=>#[Value.int ns[0] tv,Value.ref tp]) >>= _) _ _ _;refine wpAny_bind (wpAny_updateSeq pS3.1 rfl ?_);rw[nm];obtain⟨c',Jn⟩:=upS [Value.int ns[0] tv,Value.ref tp];refine wpAny_pure ⟨plainId_quiet PySem.F.plain_min_loop _,ih 1 _ H2 [.int ns[0] tv,.ref tp] c' oI' (by omega) hlt Jn oc' od' sm3 (.inr ⟨ns[0],tv,tp,rfl,by rw[htk];simp,htp,fun n hn=>?_⟩)⟩;rw[htk] at hn;have:n=ns[0]:=by simpa using hn
     rw[this];exact Int.le_refl _
   . show wpAny _ X.A.in1 (tryCatch (holding [Value.int ns[i] tv,Value.ref tp] (richCompare .Lt (.ref tp) (.ref tb) >>= _)) _ >>= _) _ _ _;obtain⟨t1,k1⟩:=aC4 J3 htp;obtain⟨t2,k2⟩:=aC4 J3 (sm2 _ _ htb);refine wpAny_bind (wpAny_tryCatch (wpAny_holding (wpAny_bind (xZ k1 k2 hu ?_))));refine wpAny_bind (wpAny_holding (wpAny_truthy_bool ?_));refine wpAny_bind (wpAny_letGo (wpAny_pure ?_));cases hlt2:kLt (kf ns[i]) (kf b) with
     |true=>
       simp only[if_true];have h12:=aBj hlt2;refine wpAny_bind (wpAny_updateSeq pS3.1 rfl (wpAny_bind (wpAny_letGo ?_)));rw[nm];obtain⟨c',Jn⟩:=upS [Value.int ns[i] tv,Value.ref tp];refine wpAny_pure ⟨plainId_quiet PySem.F.plain_min_loop _,ih (i+1) _ H2 [.int ns[i] tv,.ref tp] c' oI' (by omega) hlt Jn oc' od' sm3 (.inr ⟨ns[i],tv,tp,rfl,by rw[htk];exact List.mem_append_right _ (List.mem_singleton.mpr rfl),htp,fun n hn=>?_⟩)⟩;rw[htk] at hn;rcases List.mem_append.mp hn with z|z
       . exact Int.le_trans h12 (hle n z)
       . rw[List.mem_singleton.mp z];exact Int.le_refl _
     |false=>
       simp only[Bool.false_eq_true,if_false];have h12:=zE hlt2;refine wpAny_bind (wpAny_letGo ?_);rw[nm];refine wpAny_pure ⟨plainId_quiet PySem.F.plain_min_loop _,ih (i+1) _ H2 [.int b t,.ref tb] c oI' (by omega) hlt J3 oc' od' sm3 (.inr ⟨b,t,tb,rfl,by rw[htk];exact List.mem_append_left _ hb,sm2 _ _ htb,fun n hn=>?_⟩)⟩;rw[htk] at hn;rcases List.mem_append.mp hn with z|z
       . exact hle n z
       . rw[List.mem_singleton.mp z];exact h12
end
def aAg(X:Cx)(f:Value)(ks:List Str)(r:St->List V->List V->Hp->VK->Prop):Prop:=
 ∀(pins:List (Addr×Obj))(s:Shared)(σ:St)(H:Hp)(xs zs:List V)(us ws:List Value)(Q:VK),Inv X pins σ H s->bO xs us->bO zs ws->r σ xs zs H Q ->
   wpAny (model X.prog X.w) X.A (call f us (ks.zip ws)) (EP X pins σ Q) X.xe s
theorem aAb(a v d:Value):argsOk "min" ⟨[a],[(Str.ofString "key", v),(Str.ofString "default", d)]⟩:=by unfold argsOk;kernel_rfl
section
variable{X:Cx}{x:Str}{p pos:Pos}{e:Expr}{es:List Expr}{kws:List Keyword}{t tk:TA}{id:String}{ks:List Str}{r:St->List V->List V->Hp->VK->Prop}
def aGb(r:St->List V->List V->Hp->VK->Prop)(t tk:TA):TE:=fun σ H Q=>t σ H fun vs H1=>tk σ H1 fun zs H2=>r σ vs zs H2 Q
theorem vW(hc:aAg X (.builtin id) ks r)(hg:Gl X x)(hm:X.mg x=none)(hv:bootBuiltins x=some (.builtin id))(ha:PA X (e::es) t)(hkw:PK X kws tk)(hks:(backToKw pos (keywordEach kws X.env)).filterMap (·.1)=ks:=by rfl)(hn:x≠"__name__":=by decide)(hdb:(x==("__debug__":Str))=false:=by decide)(he:backTo pos (starEach (e::es) X.env)=(false,eval e X.env)::backTo pos (starEach es X.env):=by rfl)(hpl:(backTo pos (starEach (e::es) X.env)).any (·.1)=false:=by rfl)(hall:(backToKw pos (keywordEach kws X.env)).all (·.1.isSome)=true:=by rfl)(hkn:(backToKw pos (keywordEach kws X.env)).any (·.1.isNone)=false:=by rfl): PE X (.Call (.Name x p) (e::es) kws pos) (aGb r t tk):=by
 intro pins s σ H Q I h;refine wpAny_Call_Name_kw (fT I hg hm hv ?_ hn hdb);refine PyProof.Rows.callWith_kw (thn (ha pos pins s σ H _ I h) fun us s1 ⟨vs,H1,I1,r1,q1⟩=>thn (hkw pos pins s1 σ H1 _ I1 q1) fun ws s2 ⟨zs,H2,I2,r2,q2⟩=>?_) he hpl hall hkn;rw[hks];exact hc pins s2 σ H2 vs zs us ws Q I2 r1 r2 q2
end
def aEx(K:W.Frag)(js:List Nat)(lam:Addr->Addr->HO)(q:Str)(tb:TE):St->List V->List V->Hp->VK->Prop:=fun σ xs zs H Q=>∃(p:Addr)(ns:List Int)(f c:Addr)(d:V)(kf:Int->Int×Bool),xs=[.ref p]/\zs=[.ref f,d]/\SqL K H p (ns.map V.int) /\ H f=some (lam f c)/\H c=some (pQ c q)/\(∀n∈ns,∀H1,Same H H1->tb (aF7 (.int n) js σ) H1 fun v H2=>Same H1 H2/\∃tp,v=.ref tp/\H2 tp=some (.tup [.int (kf n).1,.bl (kf n).2])) /\ ∀v H',Same H H'->((ns=[]/\v=d)\/∃b,b∈ns/\v=.int b/\∀n∈ns,(kf b).1 <= (kf n).1)->Q v H'
theorem wQ{X:Cx}{x q:Str}{fr:List Str}{js:List Nat}{sc:Scope}{pr:Arguments}{body:Expr}{tb:TE}(hc:X.calm=true)(hr:eU 2 X.A)(LS:aC2 X.env.scope X.N sc x fr js)(hbind:∀c pm ct u,bindArgs (W.kla_fn "<lambda>" q pr body sc (bJ X.env.cells sc.names []) pm (.ref c) ct) ⟨[u],[]⟩=pure [(x,u)])(hb:∀f c s H,PE (aDu X sc q (x::fr) f c X.A.in1 s H) body tb): aAg X (.builtin "min") [Str.ofString "key", Str.ofString "default"] (aEx X.K js (fun f c=>aCi f c q pr body sc (bJ X.env.cells sc.names [])) q tb):=by
 intro pins s σ H xs zs us ws Q I rv rz h;obtain⟨p,ns,f,c,d,kf,rfl,rfl,hq,hf,hcd,hk,k⟩:=h;obtain⟨u,rfl,ru⟩:=rv.one;obtain⟨fv,dv,rfl,rf,rd⟩:=rz.two;cases ru;cases rf;obtain⟨its,rv',pl,hz⟩:=I.list hq;have hlt:p<s.heap.objs.size:=by obtain⟨o,n,e,_⟩:=pl;exact Heap.lt_size e
 have nm:(toString "min"++toString ".loop":String) = "min.loop":=by decide
 refine kmb_tree PySem.F.kind_min PySem.F.plain_min PySem.F.entry_min (aAb _ _ _) ?_;show wpAny _ X.A.in1 (Builtin.Builtins.bindParams "min" ["key","default"] 0 ⟨[],[(Str.ofString "key", .ref f),(Str.ofString "default", dv)]⟩ >>= _) _ _ s;refine wpAny_bind (wpAny_of_eq (show Builtin.Builtins.bindParams "min" ["key","default"] 0 ⟨[],[(Str.ofString "key", .ref f),(Str.ofString "default", dv)]⟩=pure [some (.ref f),some dv] from rfl) ?_);refine wpAny_bind (wpAny_pure ?_);refine wpAny_bind (wpAny_pyIter_list pl.isList ?_);refine wpAny_bind (wpAny_newObj_type ?_);rw[nm];generalize hH1:s.heap.push {cls:=.type "list_iterator", data:=.fields #[.ref p,.int 0 0]}=h1;have z1:h1.objs.size=s.heap.objs.size+1:=by rw[<- hH1,Heap.size_push]
 have o1:∀b o,s.heap.get? b=some o->h1.get? b=some o:=fun b o e=>hH1▸Heap.get?_push_of_some _ e;have i1:h1.get? s.heap.objs.size=some {cls:=.type "list_iterator", data:=.fields #[.ref p,.int 0 0]}:=hH1▸Heap.get?_push_size _ rfl;have J:Inv X pins σ H {s with heap:=h1.push {cls:=.type "list", data:=.seq #[]}}:=I.kept (t':=s.toks) fun b o e=>Heap.get?_push_of_some _ (o1 b o e);have fI:∀H,H s.heap.objs.size=none->mY X pins H s.heap.objs.size:=fun H' hn=>I.fpOk (Nat.le_refl _) hn;have fS:∀H,H h1.objs.size=none->mY X pins H h1.objs.size:=fun H' hn=>I.fpOk (by rw[z1];exact Nat.le_succ _) hn;have nI:H s.heap.objs.size=none:=I.hok.fresh (Nat.le_refl _);have nS:H h1.objs.size=none:=I.hok.fresh (by rw[z1];exact Nat.le_succ _);have hSI:h1.objs.size≠s.heap.objs.size:=by rw[z1];exact Nat.succ_ne_self _
 have J2:Inv X (pins++[(s.heap.objs.size,{cls:=.type "list_iterator", data:=.fields #[.ref p,.int 0 0]}),(h1.objs.size,{cls:=.type "list", dict:=none,data:=.seq ([]:List Value).toArray 0,slots:=#[]})]) σ H {s with heap:=h1.push {cls:=.type "list", data:=.seq #[]}}:=J.pins_of fun q hq=>by
   rcases List.mem_append.mp hq with z|z
   . exact J.pin q (by simp[z])
   . rcases List.mem_cons.mp z with rfl|z
     . exact⟨Heap.get?_push_of_some _ i1,nI,(fI H nI).2.1,(fI H nI).2.2.1,fun v z=>nomatch z⟩
     . rw[List.mem_singleton.mp z];exact⟨Heap.get?_push_size _ rfl,nS,(fS H nS).2.1,(fS H nS).2.2.1,fun v z=>nomatch z⟩
 refine wpAny_pure ⟨plainId_quiet PySem.F.plain_min_loop _,aBe (H0:=H) (ns:=ns) (kf:=kf) (p:=p) (f:=f) (dv:=d) (I.ok.hd hc) (hr.in1 (k:=1)).units0 hq rd fI fS hSI (Nat.ne_of_lt hlt) (fun n u pins' s1 H1 E hn ru J1 sm=>?_) (fun v u s' H' J' sm rv hv=>?_) _ 0 _ H [] 0 _ rfl (Nat.zero_le _) J2 rfl rfl (Same.refl H) (.inl ⟨rfl,rfl⟩)⟩
 . exact aDt J1 LS (I.ok.frames) (I.ok.hd hc) (hr.in1 (k:=1)).depth (fun pm ct=>hbind c pm ct u) (sm _ _ hf) (sm _ _ hcd) ru (hb f c s1 H1) (hk n hn H1 sm)
 . exact⟨v,H',J',rv,k v H' sm hv⟩
theorem vD:∀{ns:List Int}{x:Int},x∈ns->∃j:Nat,ns[j]?=some x/\(∀m:Nat,m<j->ns[m]?≠some x)/\ns.erase x=ns.eraseIdx j
 |[],_,h=>nomatch h
 |y::r,x,h=>by
   by_cases e:y=x
   . subst e;exact⟨0,rfl,fun m hm=>absurd hm (Nat.not_lt_zero _),by simp⟩
   . obtain⟨j,h1,h2,h3⟩:=vD (ns:=r) (x:=x) ((List.mem_cons.mp h).resolve_left fun z=>e z.symm);refine⟨j+1,by simpa using h1,fun m hm=>?_,?_⟩
     . cases m with
       |zero=>simpa using e
       |succ m=>simpa using h2 m (by omega)
     . rw[List.erase_cons_tail (by simpa using e),h3];rfl
theorem hJ{α β:Type}(f:α->β):∀(l:List α)(j:Nat),(l.eraseIdx j).map f=(l.map f).eraseIdx j
 |[],_=>rfl
 |_::_,0=>rfl
 |x::r,j+1=>by simp[hJ f r j]
theorem sA:∀{xs:List V}{us:List Value},xs.length=us.length->(∀(i:Nat)x u,xs[i]?=some x->us[i]?=some u->bY x u)->bO xs us
 |[],[],_,_=>.nil
 |x::xs,u::us,hl,h=>.cons (h 0 x u rfl rfl) (sA (by simpa using hl) fun i y v e1 e2=>h (i+1) y v (by simpa using e1) (by simpa using e2))
 |[],_::_,hl,_=>by simp at hl
 |_::_,[],hl,_=>by simp at hl
def isI(x:Int):Value->Bool
 |.int a _=>a==x
 |_=>false
section
variable{X:Cx}
def aD5:V->List V->Hp->VK->Prop:=fun x vs H Q=>∃(l:Addr)(ns:List Int)(y:Int),x=.ref l/\vs=[.int y]/\H l=some (.lst (ns.map V.int))/\y∈ns/\Q .non (upd H l (.lst ((ns.erase y).map V.int)))
theorem yU:MtM X "list.remove" aD5:=by
 intro pins s σ H x vs v us Q I rx rv h;obtain⟨l,ns,y,rfl,rfl,hH,hy,q⟩:=h;cases rx;obtain⟨u,rfl,ru⟩:=rv.one;obtain⟨ty,rfl⟩:=ru;obtain⟨z,its,n,r,hl,e⟩:=I.lstM hH;obtain⟨j,h1,h2,h3⟩:=vD hy;have hi:∀(m:Nat)(w:Value),its[m]?=some w->∃a t,ns[m]?=some a/\w=.int a t:=fun m w e1=>by
   have hm:m<ns.length:=by
     have:=(List.getElem?_eq_some_iff.mp e1).1;rw[<- hl,List.length_map] at this;exact this
   have e2:(ns.map V.int)[m]?=some (.int ns[m]):=by rw[List.getElem?_map,List.getElem?_eq_getElem hm];rfl
   obtain⟨w',e3,r'⟩:=r.get e2;rw[e1] at e3;cases e3;obtain⟨t,rfl⟩:=r';exact⟨_,t,List.getElem?_eq_getElem hm,rfl⟩
 have hjn:j<its.toArray.size:=by
   have:=(List.getElem?_eq_some_iff.mp h1).1;rw[List.size_toArray,<- hl,List.length_map];exact this
 refine call_meets PySem.F.slot_list_remove ⟨_,e,rfl⟩ PySem.F.entry_list_remove (PySem.F.args_list_remove_2 _ _) (PySem.MeetsSeq.list_remove l its.toArray n (.int y ty) (isI y) (fun w hw=>?_) j hjn ?_ (fun m hm hmj=>?_) (by rw[List.size_toArray,<- hl];exact z)) ⟨e,?_⟩
 . obtain⟨m,hm,e1⟩:=List.getElem_of_mem (by simpa using hw:w∈its);obtain⟨a,t,_,rfl⟩:=hi m w (by rw[List.getElem?_eq_getElem hm,e1]);exact PySem.MeetsSeq.EqGives.int a y t ty
 . obtain⟨a,t,e1,e2⟩:=hi j its.toArray[j] (by simp);rw[h1] at e1;cases e1;rw[e2];show(y==y)=true;exact beq_self_eq_true y
 . obtain⟨a,t,e1,e2⟩:=hi m its.toArray[m] (by simp);rw[e2];show(a==y)=false;have:=h2 m hmj;rw[e1] at this;simpa using this
 . refine⟨.non,_,I.lset (its':=its.eraseIdx j) (xs:=ns.map V.int) (ys:=(ns.erase y).map V.int) hH e ?_ ?_ ?_,rfl,q⟩
   . rw[Array.eraseIdxIfInBounds,dif_pos hjn];simp
   . rw[h3,hJ];exact r.eraseIdx j
   . rw[h3,hJ];exact Nat.le_trans (qV _ _) z
theorem iT:iA X (.builtin "sorted") (fun xs H Q=>∃(p:Addr)(ns:List Int),xs=[.ref p]/\SqL X.K H p (ns.map V.int)/\ns.length<64/\∀(l:Addr)(ns':List Int),H l=none->ns'.Perm ns->ns'.Pairwise (· <= ·)->Q (.ref l) (upd H l (.lst (ns'.map V.int)))):=by
 intro pins s σ H xs us Q I r h;obtain⟨p,ns,rfl,hq,h64,q⟩:=h;obtain⟨u,rfl,rx⟩:=nW r;cases rx;obtain⟨its,r',pl,hz⟩:=I.list hq;have hI:=nM (ns:=ns) r';have hlen:=hI.length;refine sorted_ints pl.isList hI (by omega) fun out ns' a1 a2 a3=>?_;obtain⟨e,he⟩:=sortedAll_at s.heap its out;have hl2:ns'.length<64:=by rw[a2.length_eq];exact h64
 refine⟨.ref (s.heap.objs.size+1),_,I.laid (t':=s.toks) (fun b o e1=>sortedAll_old e1) (Nat.le_succ _) (show bZ X.prog X.w _ _ _ (.lst (ns'.map V.int)) from⟨?_,out.toList,e,iV a1,?_⟩),rfl,q _ ns' (I.hok.fresh (Nat.le_succ _)) a2 a3⟩
 . rw[List.length_map];exact Nat.le_of_lt (Nat.lt_of_lt_of_le hl2 (by decide))
 . exact he
theorem tO:iA X (.type "range") (fun xs H Q=>∃j:Int,xs=[.int j]/\∀r,H r=none->Q (.ref r) (upd H r (.rng 0 j))):=by
 intro pins s σ H xs us Q I r h;obtain⟨j,rfl,q⟩:=h;obtain⟨u,rfl,rx⟩:=nW r;obtain⟨t,rfl⟩:=rx;refine call_range_1 ?_;exact⟨.ref s.heap.objs.size,_,I.laid (fun b o e1=>Heap.get?_push_of_some _ e1) (Nat.le_refl _) (show bZ X.prog X.w _ _ _ (.rng 0 j) from⟨_,_,_,Heap.get?_push_size _ rfl⟩),rfl,q _ (I.hok.fresh (Nat.le_refl _))⟩
theorem pT(hc:X.calm=true):iA X (.type "list") (fun xs H Q=>∃(r:Addr)(lo hi:Int),xs=[.ref r]/\H r=some (.rng lo hi)/\-(2 ^ 62) <= lo/\lo<2 ^ 62/\-(2 ^ 62) <= hi/\hi<2 ^ 62/\(hi - lo).toNat <= 2 ^ 24 /\ ∀l,H l=none->Q (.ref l) (upd H l (.lst ((List.range (hi - lo).toNat).map fun(i:Nat)=>V.int (lo+(i:Int)))))):=by
 intro pins s σ H xs us Q I r h;obtain⟨a,lo,hi,rfl,hH,b1,b2,b3,b4,hn,q⟩:=h;obtain⟨u,rfl,rx⟩:=nW r;cases rx;obtain⟨t,u,v,e⟩:=(show bZ X.prog X.w H s.heap a (.rng lo hi) from I.hok a _ hH);have en:Builtin.Range.rangeSize lo hi 1=(((hi - lo).toNat:Nat):Int):=by rw[rangeSize_one];split <;> omega
 refine call_list_range (n:=(hi - lo).toNat) (I.ok.hd hc) e (small_one b1 b2 b3 b4) en hn fun h' tk acc c' hk hS hacc=>?_;have hv:bO ((List.range (hi - lo).toNat).map fun(i:Nat)=>V.int (lo+(i:Int))) acc.toList:=by
   refine sA (by simp[hacc.1]) fun i x u' e1 e2=>?_;have hi':i<(hi - lo).toNat:=by
     have:=(List.getElem?_eq_some_iff.mp e1).1;simpa using this
   rw[List.getElem?_map,List.getElem?_range hi'] at e1;cases e1;obtain⟨tt,rfl⟩:=hacc.2 i u' (by simpa using e2);exact⟨tt,by simp⟩
 refine⟨.ref s.heap.objs.size,_,I.laid (t':=tk) hk (Nat.le_refl _) (show bZ X.prog X.w _ h' _ (.lst _) from⟨?_,acc.toList,c',hv,by simpa using hS⟩),rfl,q _ (I.hok.fresh (Nat.le_refl _))⟩;rw[List.length_map,List.length_range];exact hn
theorem aBo:aHg X (fun x y H Q=>∃p xs i v,x=.ref p/\y=.int i/\SqL X.K H p xs/\0 <= i/\atI xs i=some v/\Q v H):=by
 intro pins s σ H x y v u Q I rx ry h;obtain⟨p,xs,i,z,rfl,rfl,hq,h0,he,q⟩:=h;cases rx;obtain⟨t,rfl⟩:=ry;obtain⟨its,r,pl,hz⟩:=I.list hq;obtain⟨j,h1,h2,h3,h4,h5⟩:=tP he;obtain⟨w,ew,rw'⟩:=r.get h2;have hl:=r.length;have hn:=nL;have fin:EP X pins σ Q w s:=⟨z,H,I,rw',q⟩;have hj:i.toNat=j:=by
   rw[seqIndex_of h0 h5] at h1;exact Option.some.inj h1
 exact wpAny_getItem_list pl.isList h0 (by omega) (by rw[hj];simpa using ew) fin
end
def aEh(P:Program)(w:World)(K:W.Frag)(mg:Str->Option Value)(base:Heap)(k:Nat)(C:Addr)(m:Str)(ps:List Str)(sp:Sp):Prop:=∃f fd,Cls K C/\aFs K C m f/\iB K fd ps []/\gO P w K mg base CX0 k f fd ps sp
def aFt(P:Program)(w:World)(K:W.Frag)(mg:Str->Option Value)(base:Heap)(k:Nat)(x:Str)(C:Addr)(ps:List Str)(sp:Sp):Prop:=∃f fd,Mk K C f/\iB K fd ps []/\mg x=some (.ref C)/\gO P w K mg base CX0 k f fd ps sp
theorem aCd{X:Cx}{k:Nat}{C:Addr}{m:Str}{ps:List Str}{sp:Sp}{apos pos:Pos}{o e:Expr}{es:List Expr}{ta:TE}{t:TA}{pl:Sem Bool}(h:aEh X.prog X.w X.K X.mg X.base k C m ps sp)(hr:eU k X.A)(he:PE X o ta)(ha:PA X (e::es) t)(hst:starEach (e::es) X.env=(false,eval e X.env)::starEach es X.env:=by rfl)(hpl:(backTo pos (starEach es X.env)).any (·.1)=false:=by rfl)(ht:eval (.Call (.Attribute o m apos) (e::es) [] pos) X.env=(do
     let ov <- eval o X.env
     standAt apos.atName
     let (f,first) <- holding [ov] (getMethod ov m pl)
     callWith pos f first (backTo pos (starEach (e::es) X.env)) (backToKw pos (keywordEach [] X.env))):=by rfl):
   PE X (.Call (.Attribute o m apos) (e::es) [] pos) (xD C m sp [] E0 ta t):=by
 obtain⟨f,fd,c,h1,h2,h3⟩:=h;exact yK he c h1 h3 hr h2 .nil aB3 ha hst hpl ht
theorem yJ{X:Cx}{k:Nat}{x:Str}{C:Addr}{ps:List Str}{sp:Sp}{p pos:Pos}{e:Expr}{es:List Expr}{t:TA}(h:aFt X.prog X.w X.K X.mg X.base k x C ps sp)(hr:eU (k+1) X.A)(hg:Gl X x)(ha:PA X (e::es) t)(hdb:(x==("__debug__":Str))=false:=by decide)(he:starEach (e::es) X.env=(false,eval e X.env)::starEach es X.env:=by rfl)(hpl:(backTo pos (starEach es X.env)).any (·.1)=false:=by rfl): PE X (.Call (.Name x p) (e::es) [] pos) (aEp C sp [] E0 t):=by
 obtain⟨f,fd,h1,h2,h3,h4⟩:=h;exact aDe h1 h4 hr hg h3 h2 .nil aB3 ha hdb he hpl
def vK(K:W.Frag)(mg:Str->Option Value)(x:Str)(st:Stmt)(ps:List Str)(c:Addr):Prop:=∃a fd,Fun K x x st a fd/\iB K fd ps []/\mg x=some (.ref a)/\fd.code=.ref c
theorem vK.has{P:Program}{w:World}{K:W.Frag}{mg:Str->Option Value}{base:Heap}{x:Str}{st:Stmt}{N ps:List Str}{k:Nat}{sp:Sp}{c:Addr}(D:vK K mg x st ps c)(S:aW N ps (aI st))(len:∀vs H Q E,sp vs H Q E->vs.length=ps.length)(hbody:∀(f:Addr)(A:Around)(outer:List Env)(s:Shared)(H:Hp)(vs:List V)(Q:VK)(E:XK),eU k (A.deeper (envOfC x (aI st) s.heap.objs.size f (.ref c)))->sp vs H Q E -> ∃t,PSs (wO CX0 P w K mg base N x (aI st) f (.ref c) A outer s H E).nox (bM st) t/\t {nx:=fun _ H'=>Q .non H',rt:=Q} (kU N vs) H):Has P w K mg base (k+1) x ps sp:=by
 obtain⟨a,fd,F,b,m,hc⟩:=D;refine⟨a,fd,F.kp,b,m,?_⟩;obtain⟨oc,od,kV,doc,pm,an,cdv,ct,osl,rfl,lk,hcd⟩:=F.ex;have e:cdv=.ref c:=hc;subst e;refine aBr lk hcd S len fun A outer s H vs Q E hr hsp=>?_;obtain⟨t,h,q⟩:=hbody a A outer s H vs Q E hr hsp;exact⟨t,h.nox,q⟩
def aEc(H:Hp)(T:Addr):Prop:=∀b,H b=none\/(∃o xs,H b=some (.frz o (.lst xs)))\/(b=T/\H b=some (.tbl #[]))
theorem yZ{P:Program}{w:World}{K:W.Frag}{mg mb:Str->Option Value}{CX:CXT}{k:Nat}{fa a cN TN:Addr}{fd:FuncData}{x:Str}{sp:Sp}{s₁:Shared}{vs:List Value}{ns:List Int}(KX:K.In s₁.heap)(hns:s₁.heap.Ns mainGlobals mg)(hb:s₁.heap.Ns builtinsNs mb)(hbb:∀x:Str,x≠"__name__"->mb x=bootBuiltins x)(hlim:s₁.heap.NoLimit)(hg:s₁.gens=#[])(hbm:rX mg s₁.heap)(hC:W.CodeHd s₁.heap cN TN)(hT:s₁.heap.get? TN=some (W.tabObj #[]))(hKT:W.noTabs K=true)(ha:s₁.heap.get? a=some {cls:=.type "list", data:=.seq vs.toArray})(hi:IntsAre vs ns)(hl:ns.length <= sizeLine)(hr:eU k callerA)(F:∀base:Heap,K.In base->base.Ns mainGlobals mg->rX mg base->W.CodeHd base cN TN->gO P w K mg base CX k fa fd [x] sp)(hbind:∀(s:Shared)(u:Value),BindsTo s fd ⟨[u],[]⟩ [(x,u)])(hsp:∀H:Hp,aEc H TN->H TN=some (.tbl #[])->SqL K H a (ns.map V.int)->sp [.ref a] H (fun v _=>v=.bl true) fun _ _ _=>False)(hCX:∀H e s',CX [] H s₁ (fun _ _ _=>False) e s'->False): codeAny (model P w) callerA (.call (.ref fa) ⟨[.ref a],[]⟩) (fun r s'=>r=.ok (.ret (.bool true))/\OldK s₁.heap s'.heap/\s'.os=s₁.os/\AllBare s'.gens) s₁:=by
 have rv:=iV hi;have lenV:=hi.length;have naT:a≠TN:=fun z=>by rw[z,hT] at ha;cases ha
 have core:∀H:Hp,aEc H TN->H TN=some (.tbl #[])->SqL K H a (ns.map V.int)->HOk P w H s₁.heap->(∀b,H b≠none->b=a\/b=TN)->(H a≠none->K.lookup a=none) ->codeAny (model P w) callerA (.call (.ref fa) ⟨[.ref a],[]⟩) (fun r s'=>r=.ok (.ret (.bool true))/\OldK s₁.heap s'.heap/\s'.os=s₁.os/\AllBare s'.gens) s₁:=by
   intro H hO hTT hS hok hA hK;have base_of:∀{b:Addr}{o:Obj},s₁.heap.get? b=some o->H b=none->(zM s₁.heap H).get? b=some o:=fun e n=>aBl e n;have nolist:∀{b:Addr}{o:Obj},s₁.heap.get? b=some o->o≠{cls:=.type "list", data:=.seq vs.toArray}->o≠W.tabObj #[]->H b=none:=fun {b o} e n1 n2=>by
     cases q:H b with
     |none=>rfl
     |some u=>
       rcases hA b (by rw[q];simp) with e'|e'
       . subst e';rw[ha] at e;cases e;exact absurd rfl n1
       . subst e';rw[hT] at e;cases e;exact absurd rfl n2
   have noA:∀{b:Addr}{o:Obj}{es:Array DictEntry}{ep:Nat},s₁.heap.get? b=some o->o.data=.dict es ep->H b=none:=fun {b o es ep} e d=>nolist e (fun z=>by rw[z] at d;cases d) (fun z=>by rw[z] at d;cases d);have nsK:∀{b:Addr}{m:Str->Option Value},s₁.heap.Ns b m->(zM s₁.heap H).Ns b m:=fun {b m} ⟨o,es,ep,e,d,r⟩=>⟨o,es,ep,base_of e (noA e d),d,r⟩;have hKb:K.In (zM s₁.heap H):=fun b o e=>base_of (KX b o e) (by
     cases q:H b with
     |none=>rfl
     |some u=>
       rcases hA b (by rw[q];simp) with e'|e'
       . subst e';rw[hK (by rw[q];simp)] at e;cases e
       . subst e';have h2:=List.all_eq_true.mp hKT (b,o) (W.mem_of_lookupK e);have e3:=KX b o e;rw[hT] at e3;cases e3;exact absurd (show false=true from h2) Bool.false_ne_true)
   have hM:Mod K mg (zM s₁.heap H):=⟨hKb,nsK hns,⟨mb,nsK hb,hbb⟩,let ⟨mc,h1,h2⟩:=hlim;⟨mc,nsK h1,h2⟩⟩;have e0:aAl P w K mg (zM s₁.heap H) callerA [] s₁ H:=⟨rfl,hM,fun b o e=>aDq e,Nat.le_of_eq (zL _ _),trivial,fun b hb=>absurd (show b∈([]:List Addr) from hb) (by simp),hok,.of_eq hg⟩;have hB2:rX mg (zM s₁.heap H):=by
     obtain⟨bm,ob,b1,b2,b3,b4,b5,b6⟩:=hbm;exact⟨bm,ob,b1,b2,base_of b3 (nolist b3 (fun z=>by rw[z] at b4;exact absurd (Value.type.inj b4) (by decide)) (fun z=>by rw[z] at b4;cases b4)),b4,b5,b6⟩
   have hC2:W.CodeHd (zM s₁.heap H) cN TN:=by
     obtain⟨o,vs',file,tf,flags,tg,inF,text,tt,e1,r1,r⟩:=hC;exact⟨o,vs',file,tf,flags,tg,inF,text,tt,base_of e1 (nolist e1 (fun z=>by rw[z] at r1;exact absurd (Value.type.inj r1) (by decide)) (fun z=>by rw[z] at r1;cases r1)),r1,r⟩
   refine codeAny_mono ((F _ hKb (nsK hns) hB2 hC2).run callerA [] s₁ H ⟨[.ref a],[]⟩ [.ref a] [.ref a] _ _ hr e0 (hbind s₁ (.ref a)) (.cons rfl .nil) (hsp H hO hTT hS)) fun r s' h=>?_;cases r with
   |error e=>exact(hCX H e s' h).elim
   |ok fl=>
     cases fl with
     |next=>exact False.elim h
     |brk=>exact False.elim h
     |cont=>exact False.elim h
     |ret u=>
       obtain⟨v,H',os,bare,un,hok',r',q⟩:=h;have q':v=.bl true:=q;subst q';obtain rfl:u=Value.bool true:=r';have old:∀b o,s₁.heap.get? b=some o->b≠TN->s'.heap.get? b=some o:=fun b o e hb=>by
         cases q:H b with
         |none=>exact un.keep b o e q (by intro z;exact absurd (show b∈([]:List Addr) from z) (by simp)) (by simp)
         |some u=>
           rcases hO b with z|⟨ob,xs,z⟩|⟨z,_⟩
           . rw[q] at z;cases z
           . have z2:=un.frzs b ob _ z;obtain⟨e1,_⟩:=hok b _ z;obtain⟨e2,_⟩:=hok' b _ z2;rw[e] at e1;cases e1;exact e2
           . exact absurd z hb
       obtain⟨more,hm⟩:=un.tbls TN #[] hTT;have htN:s'.heap.get? TN=some (W.tabObj (#[]++more)):=hok' TN _ hm;refine⟨rfl,⟨fun b o e=>?_,fun b o e=>?_⟩,os,bare⟩
       . by_cases hb':b=TN
         . subst hb';rw[hT] at e;cases e;exact .inr (.inl ⟨(hC.tab hT).isCodeTable,rfl,#[],#[]++more,rfl,by rw[Array.empty_append];exact htN⟩)
         . exact .inl (old b o e hb')
       . by_cases hb':b=TN
         . subst hb';exact⟨_,htN⟩
         . exact⟨o,old b o e hb'⟩
 cases hk:K.lookup a with
 |some o=>
   have e:=KX a o hk;rw[ha] at e;cases e;refine core (fun b=>if b=TN then some (.tbl #[]) else none) (fun b=>?_) (if_pos rfl) (.inr ⟨_,vs.toArray,_,hk,rfl,rfl,rfl,by rw[List.size_toArray,lenV];exact hl,by simpa using rv⟩) (fun b u z=>?_) (fun b z=>?_) fun z=>absurd (if_neg naT) z
   . by_cases hb:b=TN
     . exact .inr (.inr ⟨hb,if_pos hb⟩)
     . exact .inl (if_neg hb)
   . by_cases hb:b=TN
     . have z':=(if_pos hb).symm.trans z;cases z';subst hb;exact hT
     . have z':=(if_neg hb).symm.trans z;cases z'
   . by_cases hb:b=TN
     . exact .inr hb
     . exact absurd (if_neg hb) z
 |none=>
   refine core (fun b=>if b=TN then some (.tbl #[]) else if b=a then some (.frz {cls:=.type "list", data:=.seq vs.toArray} (.lst (ns.map V.int))) else none) (fun b=>?_) (if_pos rfl) (.inl (.inr ⟨{cls:=.type "list", data:=.seq vs.toArray},by dsimp only;rw[if_neg naT,if_pos rfl]⟩)) (fun b u z=>?_) (fun b z=>?_) fun _=>hk
   . by_cases hb:b=TN
     . exact .inr (.inr ⟨hb,if_pos hb⟩)
     . by_cases hb2:b=a
       . exact .inr (.inl ⟨_,_,by dsimp only;rw[if_neg hb,if_pos hb2]⟩)
       . exact .inl (by dsimp only;rw[if_neg hb,if_neg hb2])
   . by_cases hb:b=TN
     . have z':=(if_pos hb).symm.trans z;cases z';subst hb;exact hT
     . by_cases hb2:b=a
       . have z':(if b=TN then some (HO.tbl #[]) else if b=a then some (.frz {cls:=.type "list", data:=.seq vs.toArray} (.lst (ns.map V.int))) else none)=some u:=z;rw[if_neg hb,if_pos hb2] at z';cases z';subst hb2;exact⟨ha,by rw[List.length_map];exact hl,vs,_,rv,ha⟩
       . have z':(if b=TN then some (HO.tbl #[]) else if b=a then some (.frz {cls:=.type "list", data:=.seq vs.toArray} (.lst (ns.map V.int))) else none)=some u:=z;rw[if_neg hb,if_neg hb2] at z';cases z'
   . by_cases hb:b=TN
     . exact .inr hb
     . by_cases hb2:b=a
       . exact .inl hb2
       . exact absurd (show(if b=TN then some (HO.tbl #[]) else if b=a then _ else none)=none by rw[if_neg hb,if_neg hb2]) z
theorem aAn{l:W.OpenLaw}{n k:Nat}{q:Program}{loose:List Str}{XP:(Str->Option Value)->Heap->Prop}{YP:World->Heap->Prop}{d dN:DefRec}{nm:Str}{K:Params->W.Frag}{CX:World->CXT}{sp:World->Addr->Sp}{x:Str}(hn:l.most=some n)(hn2:n <= sizeLine)(hdf:d.params.defaults=[])(hr:eU k callerA)(hY:∀(w:World)(h:Heap),YP w h->(K w.params).In h)(hrec:(recsOf q).find? (fun e=>e.name==nm)=some dN)(F:∀(w:World)(mg:Str->Option Value)(fa:Addr)(h:Heap),(K w.params).In h->h.Ns mainGlobals mg->mg d.name=some (.ref fa) ->
     ∃(fd:FuncData)(cN TN:Addr),W.tabIn (K w.params) nm=some (cN,TN)/\W.noTabs (K w.params)=true/\(∀(s:Shared)(u:Value),BindsTo s fd ⟨[u],[]⟩ [(x,u)]) /\
       ∀base:Heap,(K w.params).In base->base.Ns mainGlobals mg->rX mg base->W.CodeHd base cN TN->gO l.prog w (K w.params) mg base (CX w) k fa fd [x] (sp w TN))(hsp:∀(w:World)(H:Hp)(a TN:Addr)(ns:List Int),ns.length <= n->aEc H TN->H TN=some (.tbl #[])->SqL (K w.params) H a (ns.map V.int)->sp w TN [.ref a] H (fun v _=>v=.bl true) fun _ _ _=>False)(hCX:∀(w:World)(H:Hp)(s:Shared)(e:Value)(s':Shared),CX w [] H s (fun _ _ _=>False) e s'->False):
   W.WalkO q loose XP YP l.row.toRowW d [] (fun f vs=>PySem.call f vs):=by
 refine Att.attach_call hn hdf fun w s₀ s₁ mg mb fa o pm cd doc a vs ns G Y ho hd hcd hmg hobj hints hlen hg=>?_;have KX:=hY w _ Y;obtain⟨fd,cN,TN,ht,hK,hb,hF⟩:=F w mg fa _ KX G.T.g hmg;obtain⟨hC,hT⟩:=W.tab_of G.T KX hrec ht;exact yZ KX G.T.g G.T.b G.T.builtins G.T.nolimit hg G.T.bmain hC hT hK hobj hints (Nat.le_trans hlen hn2) hr hF hb (fun H hO hTT hS=>hsp w H a TN ns hlen hO hTT hS) fun H e s'=>hCX w H s₁ e s'
variable{X:Cx}
end L2
namespace Hf
def kF{α:Type}(f:Nat->α)(i:Nat)(v:α):Nat->α:=fun j=>if j=i then v else f j
theorem bK{α:Type}{f:Nat->α}{i:Nat}{v:α}:kF f i v i=v:=by unfold kF;rw[if_pos rfl]
theorem bN{α:Type}{f:Nat->α}{i j:Nat}{v:α}(h:j≠i):kF f i v j=f j:=by unfold kF;rw[if_neg h]
def tab{α:Type}(n:Nat)(f:Nat->α):List α:=(List.range n).map f
theorem cV{α:Type}(n:Nat)(f:Nat->α):(tab n f).length=n:=by simp[tab]
theorem cY{α:Type}{n:Nat}{f:Nat->α}{i:Nat}(h:i<n):(tab n f)[i]?=some (f i):=by
 unfold tab;rw[List.getElem?_map,List.getElem?_range h];rfl
theorem nX{α:Type}{n:Nat}{f:Nat->α}{i:Nat}(h:n <= i):(tab n f)[i]?=none:=by
 rw[List.getElem?_eq_none_iff,cV];exact h
theorem jT{α:Type}{n:Nat}{f:Nat->α}{i:Nat}{v:α}(h:(tab n f)[i]?=some v):i<n/\v=f i:=by
 by_cases hi:i<n
 . rw[cY hi] at h;exact⟨hi,(Option.some.inj h).symm⟩
 . rw[nX (by omega)] at h;cases h
theorem sB{α:Type}{n:Nat}{f:Nat->α}{l:List α}(hl:l.length=n)(h:∀i,i<n->l[i]?=some (f i)):l=tab n f:=by
 refine List.ext_getElem? fun i=>?_;by_cases hi:i<n
 . rw[h i hi,cY hi]
 . rw[nX (by omega),List.getElem?_eq_none_iff];omega
theorem aCx{α:Type}{n:Nat}{f:Nat->α}{i:Nat}{v:α}(h:i<n):(tab n f).set i v=tab n (kF f i v):=by
 refine sB (by rw[List.length_set,cV]) fun j hj=>?_;rw[List.getElem?_set,cV];by_cases e:i=j
 . subst e;rw[if_pos rfl,if_pos h,bK]
 . rw[if_neg e,cY hj,bN (fun z=>e z.symm)]
theorem lF{α:Type}{n:Nat}{f g:Nat->α}(h:∀i,i<n->f i=g i):tab n f=tab n g:=List.map_congr_left fun i hi=>h i (List.mem_range.mp hi)
theorem iM{α β:Type}{n:Nat}{f:Nat->α}(g:α->β):(tab n f).map g=tab n (fun i=>g (f i)):=by
 unfold tab;rw[List.map_map];rfl
theorem kN:∀(m:Nat)(l:List Nat),l.Nodup->(∀x∈l,x<m)->l.length <= m
 |0,[],_,_=>Nat.le_refl _
 |0,x::_,_,h=>absurd (h x (List.mem_cons_self ..)) (Nat.not_lt_zero _)
 |m+1,l,hn,h=>by
   by_cases hm:m∈l
   . have e1:(l.erase m).length=l.length - 1:=List.length_erase_of_mem hm;have e2:=kN m (l.erase m) (hn.erase m) fun x hx=>by
       have h1:=(List.Nodup.mem_erase_iff hn).mp hx;have:=h x h1.2;have:=h1.1;omega
     omega
   . have:=kN m l hn fun x hx=>by
       have:=h x hx;have:x≠m:=fun z=>hm (z▸hx);omega
     omega
theorem vS{m:Nat}{l:List Nat}(hn:l.Nodup)(h:∀x∈l,x<m)(hl:m <= l.length){t:Nat}(ht:t<m):t∈l:=by
 refine Decidable.byContradiction fun hc=>?_;have:=kN m (t::l) (List.nodup_cons.mpr ⟨hc,hn⟩) fun x hx=>by
   rcases List.mem_cons.mp hx with rfl|hx
   . exact ht
   . exact h x hx
 simp only[List.length_cons] at this;omega
theorem qN:∀{m:Nat}{l:List Nat},(∀u,u<m->u∈l)->m <= l.length
 |0,_,_=>Nat.zero_le _
 |m+1,l,h=>by
   have hm:=h m (Nat.lt_succ_self m);have:=qN (m:=m) (l:=l.erase m) fun u hu=>(List.mem_erase_of_ne (by omega)).mpr (h u (by omega));rw[List.length_erase_of_mem hm] at this;have:=List.length_pos_of_mem hm;omega
def aEi(m:Nat)(R:Nat->Nat->Option Int)(p:Nat->Int)(h t:Nat):Prop:=∃c,R h t=some c/\∀t' c',t'<m->R h t'=some c'->c+p t <= c'+p t'
structure eS (m n:Nat) (R:Nat->Nat->Option Int) (p:Nat->Int) (tk hd:Nat->Option Nat):Prop where
 a:∀h t,h<n->tk h=some t->t<m/\hd t=some h/\aEi m R p h t
 b:∀h t,t<m->hd t=some h->h<n/\tk h=some t
theorem eS.inj{m n:Nat}{R:Nat->Nat->Option Int}{p:Nat->Int}{tk hd:Nat->Option Nat}(S:eS m n R p tk hd){h t t':Nat}(ht:t<m)(ht':t'<m)(e:hd t=some h)(e':hd t'=some h):t=t':=by
 have h1:=(S.b h t ht e).2;have h2:=(S.b h t' ht' e').2;exact Option.some.inj (h1.symm.trans h2)
structure eC (R:Nat->Nat->Option Int) (p:Nat->Int) (h:Nat) (b:Int) (L:List Nat) (far:Nat->Option Int) (thr:Nat->Option Nat) (far':Nat->Option Int) (thr':Nat->Option Nat):Prop where
 out:∀t,t∉L->far' t=far t/\thr' t=thr t
 ins:∀t,t∈L->(far' t=far t/\thr' t=thr t/\∀c,R h t=some c->∃d,far t=some d/\d <= b+c+p t) \/
   ∃c,R h t=some c/\far' t=some (b+c+p t)/\thr' t=some h/\∀d,far t=some d->b+c+p t<d
theorem eC.nil{R p h b far thr}:eC R p h b [] far thr far thr:=⟨fun _ _=>⟨rfl,rfl⟩,fun _ ht=>(nomatch ht)⟩
theorem eC.stay{R p h b L far thr far' thr' t}(K:eC R p h b L far thr far' thr')(ht:t∉L)(e:∀c,R h t=some c->∃d,far t=some d/\d <= b+c+p t):eC R p h b (L++[t]) far thr far' thr':=by
 refine⟨fun u hu=>K.out u fun z=>hu (List.mem_append_left _ z),fun u hu=>?_⟩;rcases List.mem_append.mp hu with hu|hu
 . exact K.ins u hu
 . rw[List.mem_singleton.mp hu];exact .inl ⟨(K.out t ht).1,(K.out t ht).2,e⟩
theorem eC.put{R p h b L far thr far' thr' t c}(K:eC R p h b L far thr far' thr')(ht:t∉L)(e:R h t=some c)(hd:∀d,far t=some d->b+c+p t<d): eC R p h b (L++[t]) far thr (kF far' t (some (b+c+p t))) (kF thr' t (some h)):=by
 refine⟨fun u hu=>?_,fun u hu=>?_⟩
 . have hn:u≠t:=fun z=>hu (z▸List.mem_append_right _ (List.mem_singleton.mpr rfl));rw[bN hn,bN hn];exact K.out u fun z=>hu (List.mem_append_left _ z)
 . by_cases hn:u=t
   . subst hn;exact .inr ⟨c,e,bK,bK,hd⟩
   . rw[bN hn,bN hn];rcases List.mem_append.mp hu with hu|hu
     . exact K.ins u hu
     . exact absurd (List.mem_singleton.mp hu) hn
theorem eC.le{R p h b L far thr far' thr' t d}(K:eC R p h b L far thr far' thr')(e:far t=some d):∃d',far' t=some d'/\d' <= d:=by
 by_cases ht:t∈L
 . rcases K.ins t ht with⟨h1,_,_⟩|⟨c,_,h2,_,h4⟩
   . exact⟨d,h1.trans e,Int.le_refl _⟩
   . exact⟨_,h2,Int.le_of_lt (h4 d e)⟩
 . exact⟨d,(K.out t ht).1.trans e,Int.le_refl _⟩
structure SI (m:Nat) (R:Nat->Nat->Option Int) (p:Nat->Int) (hd:Nat->Option Nat) (hand:Nat) (far:Nat->Option Int) (thr:Nat->Option Nat) (ahead reached:List Nat) (bef:Nat->Option Int):Prop where
 cov:∀t,t<m->t∈ahead\/t∈reached
 aLt:∀t,t∈ahead->t<m
 rLt:∀t,t∈reached->t<m
 dis:∀t,t∈ahead->t∉reached
 aN:ahead.Nodup
 rN:reached.Nodup
 b0:bef hand=some 0
 exp:∀t,t∈reached->∃h d c,hd t=some h/\far t=some d/\R h t=some c/\bef h=some (d - c - p t)
 frm:∀h b,bef h=some b->h=hand\/∃t,t∈reached/\hd t=some h
 way:∀t d,far t=some d->∃h b c,thr t=some h/\bef h=some b/\R h t=some c/\d=b+c+p t
 ear:∀t h,thr t=some h->h=hand\/∃(i:Nat)(u:Nat),reached[i]?=some u/\hd u=some h/\∀j:Nat,reached[j]?=some t->i<j
 opt:∀h b t c,bef h=some b->t<m->R h t=some c->∃d,far t=some d/\d <= b+c+p t
 mon:∀t t' d d',t∈reached->t'∈ahead->far t=some d->far t'=some d'->d <= d'
theorem SI.first{m R p hd hand far thr}(K:eC R p hand 0 (List.range m) (fun _=>none) (fun _=>none) far thr): SI m R p hd hand far thr (List.range m) [] (fun h=>if h=hand then some 0 else none) where
 cov t ht:=.inl (List.mem_range.mpr ht)
 aLt t ht:=List.mem_range.mp ht
 rLt t ht:=nomatch ht
 dis t _:=fun z=>nomatch z
 aN:=List.nodup_range
 rN:=List.nodup_nil
 b0:=if_pos rfl
 exp t ht:=nomatch ht
 frm h b e:=by
   by_cases z:h=hand
   . exact .inl z
   . simp only[if_neg z] at e;cases e
 way t d e:=by
   by_cases ht:t∈List.range m
   . rcases K.ins t ht with⟨h1,_,_⟩|⟨c,h1,h2,h3,_⟩
     . rw[h1] at e;cases e
     . rw[h2] at e;exact⟨hand,0,c,h3,if_pos rfl,h1,(Option.some.inj e).symm⟩
   . rw[(K.out t ht).1] at e;cases e
 ear t h e:=by
   by_cases ht:t∈List.range m
   . rcases K.ins t ht with⟨_,h1,_⟩|⟨c,_,_,h3,_⟩
     . rw[h1] at e;cases e
     . rw[h3] at e;exact .inl (Option.some.inj e).symm
   . rw[(K.out t ht).2] at e;cases e
 opt h b t c e ht hc:=by
   by_cases z:h=hand
   . simp only[if_pos z] at e;cases e;subst z;rcases K.ins t (List.mem_range.mpr ht) with⟨_,_,h3⟩|⟨c',h1,h2,_,_⟩
     . obtain⟨d,h4,_⟩:=h3 c hc;cases h4
     . rw[hc] at h1;cases h1;exact⟨_,h2,Int.le_refl _⟩
   . simp only[if_neg z] at e;cases e
 mon t t' d d' ht:=nomatch ht
theorem nK{l:List Nat}(hn:l.Nodup){t u:Nat}:u∈l.erase t↔u≠t/\u∈l:=List.Nodup.mem_erase_iff hn
theorem nZ{l:List Nat}{t u:Nat}{j:Nat}(h:(l++[t])[j]?=some u):l[j]?=some u\/(j=l.length/\u=t):=by
 by_cases hj:j<l.length
 . rw[List.getElem?_append_left hj] at h;exact .inl h
 . rw[List.getElem?_append_right (by omega)] at h;by_cases e:j - l.length=0
   . rw[e] at h;exact .inr ⟨by omega,(Option.some.inj h).symm⟩
   . rw[List.getElem?_eq_none_iff.mpr (by simp only[List.length_cons,List.length_nil];omega)] at h;cases h
theorem vA{l:List Nat}{t u:Nat}{j:Nat}(h:l[j]?=some u):(l++[t])[j]?=some u:=by
 have hj:j<l.length:=by
   refine Decidable.byContradiction fun z=>?_;rw[List.getElem?_eq_none_iff.mpr (by omega)] at h;cases h
 rw[List.getElem?_append_left hj];exact h
theorem qU{l:List Nat}{u:Nat}{j:Nat}(h:l[j]?=some u):j<l.length:=by
 refine Decidable.byContradiction fun z=>?_;rw[List.getElem?_eq_none_iff.mpr (by omega)] at h;cases h
theorem mF{l:List Nat}(hN:l.Nodup){i j x:Nat}(a:l[i]?=some x)(b:l[j]?=some x):i=j:=by
 have hp:=List.pairwise_iff_getElem.mp hN;obtain⟨h1,e1⟩:=List.getElem?_eq_some_iff.mp a;obtain⟨h2,e2⟩:=List.getElem?_eq_some_iff.mp b;rcases Nat.lt_trichotomy i j with z|z|z
 . exact absurd (e1.trans e2.symm) (hp i j h1 h2 z)
 . exact z
 . exact absurd (e2.trans e1.symm) (hp j i h2 h1 z)
theorem SI.next{m R p hd hand far thr ahead reached bef}(S:SI m R p hd hand far thr ahead reached bef){t h:Nat}{d c:Int}{far' thr'}(hinj:∀u u',u<m->u'<m->∀g,hd u=some g->hd u'=some g->u=u')(ht:t∈ahead)(hf:far t=some d)(hmin:∀u e,u∈ahead->far u=some e->d <= e)(hh:hd t=some h)(hne:h≠hand)(hc:R h t=some c)(hfit:∀t' c',t'<m->R h t'=some c'->c+p t <= c'+p t')(K:eC R p h (d - c - p t) (ahead.erase t) far thr far' thr'): SI m R p hd hand far' thr' (ahead.erase t) (reached++[t]) (kF bef h (some (d - c - p t))):=by
 have hmem:=@nK ahead S.aN t;have hte:t∉ahead.erase t:=fun z=>(hmem.mp z).1 rfl;have hft:far' t=far t:=(K.out t hte).1;have hbn:∀g b,bef g=some b->g≠h:=fun g b e z=>by
   subst z;rcases S.frm g b e with z|⟨u,hu,e'⟩
   . exact hne z
   . have:=hinj u t (S.rLt u hu) (S.aLt t ht) g e' hh;subst this;exact S.dis u ht hu
 have hre:∀u,u∈reached->u∉ahead.erase t:=fun u hu z=>S.dis u ((hmem.mp z).2) hu;refine⟨fun u hu=>?_,fun u hu=>S.aLt u (hmem.mp hu).2,fun u hu=>?_,fun u hu z=>?_,S.aN.erase t,?_,?_,fun u hu=>?_,fun g b e=>?_,fun u e he=>?_,fun u g e=>?_,fun g b u c' e hu hc'=>?_,fun u u' e e' hu hu' he he'=>?_⟩
 . rcases S.cov u hu with z|z
   . by_cases e:u=t
     . exact .inr (List.mem_append_right _ (List.mem_singleton.mpr e))
     . exact .inl (hmem.mpr ⟨e,z⟩)
   . exact .inr (List.mem_append_left _ z)
 . rcases List.mem_append.mp hu with z|z
   . exact S.rLt u z
   . rw[List.mem_singleton.mp z];exact S.aLt t ht
 . rcases List.mem_append.mp z with z|z
   . exact S.dis u (hmem.mp hu).2 z
   . exact(hmem.mp hu).1 (List.mem_singleton.mp z)
 . rw[List.nodup_append];refine⟨S.rN,by simp,fun a ha b hb=>?_⟩;rw[List.mem_singleton.mp hb];intro z;exact S.dis t ht (z▸ha)
 . rw[bN (fun z=>hne z.symm)];exact S.b0
 . rcases List.mem_append.mp hu with z|z
   . obtain⟨g,d',c',h1,h2,h3,h4⟩:=S.exp u z;refine⟨g,d',c',h1,(K.out u (hre u z)).1.trans h2,h3,?_⟩;rw[bN (hbn g _ h4)];exact h4
   . rw[List.mem_singleton.mp z];exact⟨h,d,c,hh,hft.trans hf,hc,bK⟩
 . by_cases z:g=h
   . subst z;exact .inr ⟨t,List.mem_append_right _ (List.mem_singleton.mpr rfl),hh⟩
   . rw[bN z] at e;rcases S.frm g b e with z|⟨u,hu,e'⟩
     . exact .inl z
     . exact .inr ⟨u,List.mem_append_left _ hu,e'⟩
 . have old:far u=some e->thr' u=thr u->∃g b c,thr' u=some g/\kF bef h (some (d - c - p t)) g=kF bef h (some (d - c - p t)) g/\True:=fun _ _=>by
     obtain⟨g,b,c',h1,_⟩:=S.way u e ‹_›;exact⟨g,b,c',by rw[‹thr' u=thr u›];exact h1,rfl,trivial⟩
   by_cases hu:u∈ahead.erase t
   . rcases K.ins u hu with⟨h1,h2,_⟩|⟨c',h1,h2,h3,_⟩
     . rw[h1] at he;obtain⟨g,b,c',k1,k2,k3,k4⟩:=S.way u e he;exact⟨g,b,c',h2.trans k1,by rw[bN (hbn g _ k2)];exact k2,k3,k4⟩
     . rw[h2] at he;exact⟨h,_,c',h3,bK,h1,(Option.some.inj he).symm⟩
   . rw[(K.out u hu).1] at he;obtain⟨g,b,c',k1,k2,k3,k4⟩:=S.way u e he;exact⟨g,b,c',(K.out u hu).2.trans k1,by rw[bN (hbn g _ k2)];exact k2,k3,k4⟩
 . have old:thr u=some g->g=hand\/∃(i:Nat)(v:Nat),(reached++[t])[i]?=some v/\hd v=some g/\∀j:Nat,(reached++[t])[j]?=some u->i<j:=fun e=>by
     rcases S.ear u g e with z|⟨i,v,h1,h2,h3⟩
     . exact .inl z
     . refine .inr ⟨i,v,vA h1,h2,fun j hj=>?_⟩;rcases nZ hj with z|⟨z,_⟩
       . exact h3 j z
       . have:=qU h1;omega
   by_cases hu:u∈ahead.erase t
   . rcases K.ins u hu with⟨_,h2,_⟩|⟨c',_,_,h3,_⟩
     . exact old (h2.symm.trans e)
     . rw[h3] at e;cases e;refine .inr ⟨reached.length,t,by rw[List.getElem?_append_right (Nat.le_refl _),Nat.sub_self];rfl,hh,fun j hj=>?_⟩;rcases nZ hj with z|⟨_,z⟩
       . exact absurd (List.mem_of_getElem? z) (S.dis u (hmem.mp hu).2)
       . exact absurd z (hmem.mp hu).1
   . exact old ((K.out u hu).2.symm.trans e)
 . by_cases z:g=h
   . subst z;rw[bK] at e;cases e;rcases S.cov u hu with z|z
     . by_cases e:u=t
       . subst e;rw[hc] at hc';cases hc';exact⟨d,hft.trans hf,by omega⟩
       . rcases K.ins u (hmem.mpr ⟨e,z⟩) with⟨h1,_,h3⟩|⟨c2,h1,h2,_,_⟩
         . obtain⟨d',k1,k2⟩:=h3 c' hc';exact⟨d',h1.trans k1,k2⟩
         . rw[hc'] at h1;cases h1;exact⟨_,h2,Int.le_refl _⟩
     . obtain⟨_,d',_,_,k2,_,_⟩:=S.exp u z;have k5:=S.mon u t d' d z ht k2 hf;have k6:=hfit u c' hu hc';exact⟨d',(K.out u (hre u z)).1.trans k2,by omega⟩
   . rw[bN z] at e;obtain⟨d',k1,k2⟩:=S.opt g b u c' e hu hc';obtain⟨d2,k3,k4⟩:=K.le k1;exact⟨d2,k3,by omega⟩
 . have hle:e <= d:=by
     rcases List.mem_append.mp hu with z|z
     . rw[(K.out u (hre u z)).1] at he;exact S.mon u t e d z ht he hf
     . rw[List.mem_singleton.mp z,hft,hf] at he;cases he;exact Int.le_refl _
   have hu2:=hmem.mp hu';rcases K.ins u' hu' with⟨h1,_,_⟩|⟨c',h1,h2,_,_⟩
   . rw[h1] at he';have:=hmin u' e' hu2.2 he';omega
   . rw[h2] at he';cases he';have:=hfit u' c' (S.aLt u' hu2.2) h1;omega
def cR(reached:List Nat)(far:Nat->Option Int)(g:Int)(p:Nat->Int):Nat->Int:=fun t=>if t∈reached then p t+(g - (far t).getD 0) else p t
structure aFu (m n:Nat) (R:Nat->Nat->Option Int) (p':Nat->Int) (tk hd:Nat->Option Nat) (hand:Nat) (thr:Nat->Option Nat) (reached:List Nat):Prop where
 rLt:∀t,t∈reached->t<m
 rN:reached.Nodup
 old:∀h t,h<n->tk h=some t->aEi m R p' h t
 way:∀(i:Nat)t,reached[i]?=some t->∃h,thr t=some h/\h<n/\aEi m R p' h t/\(h=hand\/∃(j:Nat)(u:Nat),j<i/\reached[j]?=some u/\hd u=some h)
theorem SI.goal{m n R p tk hd hand far thr ahead reached bef}(S:SI m R p hd hand far thr ahead reached bef)(B:eS m n R p tk hd)(hhn:hand<n)(hfree:tk hand=none){t:Nat}{g:Int}(ht:t∈ahead)(hf:far t=some g)(hmin:∀u e,u∈ahead->far u=some e->g <= e):aFu m n R (cR (reached++[t]) far g p) tk hd hand thr (reached++[t]):=by
 have hin:∀u,u∈reached++[t]->∃d,far u=some d/\d <= g:=fun u hu=>by
   rcases List.mem_append.mp hu with z|z
   . obtain⟨_,d,_,_,k2,_,_⟩:=S.exp u z;exact⟨d,k2,S.mon u t d g z ht k2 hf⟩
   . rw[List.mem_singleton.mp z];exact⟨g,hf,Int.le_refl _⟩
 have hup:∀u,p u <= cR (reached++[t]) far g p u:=fun u=>by
   unfold cR;by_cases z:u∈reached++[t]
   . obtain⟨d,k1,k2⟩:=hin u z;rw[if_pos z,k1];show p u <= p u+(g - d);omega
   . rw[if_neg z];exact Int.le_refl _
 have hlow:∀h b u c,bef h=some b->u<m->R h u=some c->g - b <= c+cR (reached++[t]) far g p u:=fun h b u c e hu hc=>by
   obtain⟨d,k1,k2⟩:=S.opt h b u c e hu hc;unfold cR;by_cases z:u∈reached++[t]
   . rw[if_pos z,k1];show g - b <= c+(p u+(g - d));omega
   . rw[if_neg z];have hua:u∈ahead:=by
       rcases S.cov u hu with y|y
       . exact y
       . exact absurd (List.mem_append_left _ y) z
     have:=hmin u d hua k1;omega
 refine⟨fun u hu=>?_,?_,fun h u hh e=>?_,fun i u hu=>?_⟩
 . rcases List.mem_append.mp hu with z|z
   . exact S.rLt u z
   . rw[List.mem_singleton.mp z];exact S.aLt t ht
 . rw[List.nodup_append];refine⟨S.rN,by simp,fun a ha b hb=>?_⟩;rw[List.mem_singleton.mp hb];intro z;exact S.dis t ht (z▸ha)
 . obtain⟨k1,k2,c,k3,k4⟩:=B.a h u hh e;by_cases z:u∈reached
   . obtain⟨h',d,c',j1,j2,j3,j4⟩:=S.exp u z;rw[k2] at j1;cases j1;rw[k3] at j3;cases j3;refine⟨c,k3,fun t' c' ht' hc'=>?_⟩;have:=hlow h _ t' c' j4 ht' hc';have e2:cR (reached++[t]) far g p u=p u+(g - d):=by
       unfold cR;rw[if_pos (List.mem_append_left _ z),j2];rfl
     omega
   . refine⟨c,k3,fun t' c' ht' hc'=>?_⟩;have h1:=k4 t' c' ht' hc';have h2:=hup t';by_cases y:u=t
     ·
       subst y;have e2:cR (reached++[u]) far g p u=p u:=by
         unfold cR;rw[if_pos (List.mem_append_right _ (List.mem_singleton.mpr rfl)),hf];show p u+(g - g)=p u;omega
       omega
     . have e2:cR (reached++[t]) far g p u=p u:=by
         unfold cR;rw[if_neg fun x=>(List.mem_append.mp x).elim z fun x=>y (List.mem_singleton.mp x)]
       omega
 . have hmem:u∈reached++[t]:=List.mem_of_getElem? hu;obtain⟨d,k1,k2⟩:=hin u hmem;obtain⟨h,b,c,j1,j2,j3,j4⟩:=S.way u d k1;have hlt:h<n:=by
     rcases S.frm h b j2 with z|⟨v,hv,z⟩
     . rw[z];exact hhn
     . exact(B.b h v (S.rLt v hv) z).1
   refine⟨h,j1,hlt,⟨c,j3,fun t' c' ht' hc'=>?_⟩,?_⟩
   . have:=hlow h b t' c' j2 ht' hc';have e2:cR (reached++[t]) far g p u=p u+(g - d):=by
       unfold cR;rw[if_pos hmem,k1];rfl
     omega
   . rcases S.ear u h j1 with z|⟨j,v,y1,y2,y3⟩
     . exact .inl z
     . refine .inr ⟨j,v,?_,vA y1,y2⟩;rcases nZ hu with z|⟨z,_⟩
       . exact y3 i z
       . have:=qU y1;omega
structure MI (m n:Nat) (R:Nat->Nat->Option Int) (p:Nat->Int) (hand:Nat) (tk0:Nat->Option Nat) (reached:List Nat) (cur:Option Nat) (tk hd:Nat->Option Nat):Prop where
 a:∀h u,h<n->tk h=some u->u<m/\cur≠some u/\hd u=some h/\aEi m R p h u
 b:∀h u,u<m->cur≠some u->hd u=some h->h<n/\tk h=some u
 kp:∀h,h<n->tk0 h≠none->tk h≠none
 c:cur=none->tk hand≠none
 d:∀u,cur=some u->tk hand=none/\∃i:Nat,reached[i]?=some u/\∀h,h<n->tk h=tk0 h\/∃(j:Nat)(v:Nat),i <= j/\reached[j]?=some v/\tk0 h=some v
theorem MI.first{m n R p p' tk hd hand thr reached t}(G:aFu m n R p' tk hd hand thr reached)(B:eS m n R p tk hd)(hfree:tk hand=none)(hl:reached[reached.length - 1]?=some t)(hn:hd t=none): MI m n R p' hand tk reached (some t) tk hd where
 a h u hh e:=by
   obtain⟨k1,k2,_⟩:=B.a h u hh e;refine⟨k1,fun z=>?_,k2,G.old h u hh e⟩;cases z;rw[hn] at k2;cases k2
 b h u hu _ e:=B.b h u hu e
 kp h _ e:=e
 c e:=nomatch e
 d u e:=by cases e;exact⟨hfree,_,hl,fun h _=>.inl rfl⟩
theorem MI.next{m n R p p' tk0 hd0 hand thr reached t tk hd}(G:aFu m n R p' tk0 hd0 hand thr reached)(B:eS m n R p tk0 hd0)(hfree:tk0 hand=none)(hhn:hand<n)(M:MI m n R p' hand tk0 reached (some t) tk hd): ∃h,thr t=some h/\h<n/\t<m/\MI m n R p' hand tk0 reached (tk h) (kF tk h (some t)) (kF hd t (some h))/\(∀u,tk h=some u->∃i j:Nat,reached[i]?=some t/\reached[j]?=some u/\j<i):=by
 obtain⟨d0,i,d1,d2⟩:=M.d t rfl;obtain⟨h,g1,g2,g3,g4⟩:=G.way i t d1;have htm:t<m:=G.rLt t (List.mem_of_getElem? d1);have hback:h=hand/\tk h=none\/∃(j:Nat)(u:Nat),j<i/\reached[j]?=some u/\tk h=some u/\tk0 h=some u:=by
   rcases g4 with z|⟨j,u,k1,k2,k3⟩
   . exact .inl ⟨z,z▸d0⟩
   . have k4:=(B.b h u (G.rLt u (List.mem_of_getElem? k2)) k3).2;refine .inr ⟨j,u,k1,k2,?_,k4⟩;rcases d2 h g2 with z|⟨j',v,y1,y2,y3⟩
     . exact z.trans k4
     . rw[k4] at y3;cases y3;have:=mF G.rN y2 k2;omega
 have hl:∀u,tk h=some u->u≠t:=fun u e z=>by
   subst z;exact(M.a h u g2 e).2.1 rfl
 refine⟨h,g1,g2,htm,⟨fun g u hg e=>?_,fun g u hu hc e=>?_,fun g hg e=>?_,fun e=>?_,fun u e=>?_⟩,fun u e=>?_⟩
 . by_cases z:g=h
   . subst z;rw[bK] at e;cases e;exact⟨htm,fun z=>hl _ z rfl,bK,g3⟩
   . rw[bN z] at e;obtain⟨k1,k2,k3,k4⟩:=M.a g u hg e;have hut:u≠t:=fun y=>k2 (by rw[y]);refine⟨k1,fun y=>?_,by rw[bN hut];exact k3,k4⟩;have:=(M.a h u g2 y).2.2.1;rw[k3] at this;exact z (Option.some.inj this)
 . by_cases z:u=t
   . subst z;rw[bK] at e;cases e;exact⟨g2,bK⟩
   . rw[bN z] at e;obtain⟨k1,k2⟩:=M.b g u hu (fun y=>z (Option.some.inj y).symm) e;refine⟨k1,?_⟩;rw[bN fun y=>by subst y;exact hc k2];exact k2
 . by_cases z:g=h
   . subst z;rw[bK];exact fun y=>nomatch y
   . rw[bN z];exact M.kp g hg e
 . rcases hback with⟨z,_⟩|⟨j,u,_,_,z,_⟩
   . subst z;rw[bK];exact fun y=>nomatch y
   . rw[e] at z;cases z
 . rcases hback with⟨_,z⟩|⟨j,u',k1,k2,k3,k4⟩
   . rw[e] at z;cases z
   . rw[e] at k3;cases k3;have hnh:hand≠h:=fun z=>by rw[z,k4] at hfree;cases hfree
     refine⟨by rw[bN hnh];exact d0,j,k2,fun g hg=>?_⟩;by_cases z:g=h
     . subst z;exact .inr ⟨j,u,Nat.le_refl _,k2,k4⟩
     . rw[bN z];rcases d2 g hg with y|⟨j',v,y1,y2,y3⟩
       . exact .inl y
       . exact .inr ⟨j',v,by omega,y2,y3⟩
 . rcases hback with⟨_,z⟩|⟨j,u',k1,k2,k3,k4⟩
   . rw[e] at z;cases z
   . rw[e] at k3;cases k3;exact⟨i,j,d1,k2,k1⟩
theorem MI.last{m n R p hand tk0 reached tk hd}(M:MI m n R p hand tk0 reached none tk hd):eS m n R p tk hd/\tk hand≠none/\∀h,h<n->tk0 h≠none->tk h≠none:=⟨⟨fun h t hh e=>let ⟨a,_,b,c⟩:=M.a h t hh e;⟨a,b,c⟩,fun h t ht e=>M.b h t ht (fun z=>nomatch z) e⟩,M.c rfl,M.kp⟩
theorem SI.stuck{m n R p tk hd hand far thr ahead reached bef}(S:SI m R p hd hand far thr ahead reached bef)(B:eS m n R p tk hd)(hhn:hand<n)(hfree:tk hand=none)(hno:∀t,t∈ahead->far t=none): (∀t,t∈reached->∃h,hd t=some h/\h<n/\h≠hand)/\(∀t t' h,t∈reached->t'∈reached->hd t=some h->hd t'=some h->t=t') /\ (∀h u c,(h=hand\/∃t,t∈reached/\hd t=some h)->u<m->R h u=some c->u∈reached):=by
 have hold:∀t,t∈reached->∃h,hd t=some h/\h<n/\h≠hand:=fun t ht=>by
   obtain⟨h,_,_,k1,_⟩:=S.exp t ht;obtain⟨k2,k3⟩:=B.b h t (S.rLt t ht) k1;exact⟨h,k1,k2,fun z=>by rw[z,hfree] at k3;cases k3⟩
 refine⟨hold,fun t t' h ht ht' e e'=>B.inj (S.rLt t ht) (S.rLt t' ht') e e',fun h u c hh hu hc=>?_⟩;have hb:∃b,bef h=some b:=by
   rcases hh with z|⟨t,ht,z⟩
   . exact⟨0,z▸S.b0⟩
   . obtain⟨h',d,c',k1,_,_,k4⟩:=S.exp t ht;rw[z] at k1;cases k1;exact⟨_,k4⟩
 obtain⟨b,hb⟩:=hb;obtain⟨d,k1,_⟩:=S.opt h b u c hb hu hc;rcases S.cov u hu with z|z
 . rw[hno u z] at k1;cases k1
 . exact z
theorem eS.all{m n R p tk hd}(B:eS m n R p tk hd)(h:∀i,i<n->tk i≠none)(hmn:m <= n):n=m/\∀t,t<m->∃i,i<n/\tk i=some t:=by
 have hval:∀i,i<n->∃t,tk i=some t:=fun i hi=>by
   cases e:tk i with
   |none=>exact absurd e (h i hi)
   |some t=>exact⟨t,rfl⟩
 let l:=(List.range n).map fun i=>(tk i).getD 0
 have hlen:l.length=n:=by simp[l]
 have hnd:l.Nodup:=by
   refine(List.pairwise_map).mpr ?_;refine List.Pairwise.imp_of_mem ?_ (List.pairwise_lt_range (n:=n));intro a b ha hb hab e;have ha:=List.mem_range.mp ha;have hb:=List.mem_range.mp hb;obtain⟨t,e1⟩:=hval a ha;obtain⟨u,e2⟩:=hval b hb;rw[e1,e2] at e;have e:t=u:=e;subst e;have k1:=(B.a a t ha e1).2.1;have k2:=(B.a b t hb e2).2.1;rw[k1] at k2;have:=Option.some.inj k2;omega
 have hlt:∀x∈l,x<m:=fun x hx=>by
   obtain⟨i,hi,rfl⟩:=List.mem_map.mp hx;obtain⟨t,e1⟩:=hval i (List.mem_range.mp hi);rw[e1];exact(B.a i t (List.mem_range.mp hi) e1).1
 have hle:=kN m l hnd hlt;refine⟨by omega,fun t ht=>?_⟩;have:=vS hnd hlt (by omega) ht;obtain⟨i,hi,e⟩:=List.mem_map.mp this;obtain⟨u,e1⟩:=hval i (List.mem_range.mp hi);rw[e1] at e;have e:u=t:=e;subst e;exact⟨i,List.mem_range.mp hi,e1⟩
end Hf
namespace L2
open PySem PySem.Spec PyProof.Rows
section
variable{M:Model}{A:Around}{E:Value->Shared->Prop}{s:Shared}{base:Heap}{D:Addr->Prop}{env:Env}{outer:List Env}{L e:Addr}
theorem rF{cls fl:Value}{Q:Unit->Shared->Prop}(hfr:A.frames=some (env::outer))(hl:s.heap.FunFrames base (env::outer))(hf:env.frame=some L)(ht:Tr D s.heap e cls fl)(hD:∀b,D b->∃o,s.heap.get? b=some o)(h:∀h' fl',Kp (frs (env::outer)) D s.heap h'->Tr D h' e cls fl'->Q () {s with heap:=h'}):wpAny M A (noteFrame (.ref e) env) Q E s:=rE hfr hl hf ht hD fun h' fl' kp tr _=>h h' fl' kp tr
theorem wJ{cls:Value}{Q:Unit->Shared->Prop}(hn:∀Q':Unit->Shared->Prop,(∀h' fl',Kp (frs (env::outer)) D s.heap h'->Tr D h' e cls fl'->Q' () {s with heap:=h'})->wpAny M A (noteFrame (.ref e) env) Q' E s)(h:∀h',Kp (frs (env::outer)) D s.heap h'->Tr D h' e cls .none->Q () {s with heap:=h'}):wpAny M A (leaving env (.ref e)) Q E s:=by
 unfold leaving;refine wpAny_bind (hn _ fun h1 fl1 k1 t1=>?_);exact lD (s:={s with heap:=h1}) (fs:=frs (env::outer)) t1 fun h2 k2 _ t2=>h h2 (k1.trans k2) t2
theorem aBs{cls fl:Value}{fs:List Addr}{fr:Option Addr}{Q:Unit->Shared->Prop}(ht:Tr D s.heap e cls fl)(h:∀h',Kp fs D s.heap h'->Tr D h' e cls (fr.elim Value.none fun f=>rawInt f)->Q () {s with heap:=h'}):wpAny M A (setFlight (.ref e) fr) Q E s:=by
 obtain⟨oe,vs,T,oT,ts,he,hc,hdn,hd,h1,hDe,hDT,hTe,hT,hdT,h3⟩:=ht;have z3:3<ts.size:=(Array.getElem?_eq_some_iff.mp h3).1;have other:∀b,b≠T->(s.heap.update T (Obj.mapFields (·.setIfInBounds 3 (fr.elim Value.none fun f=>rawInt f)))).get? b=s.heap.get? b:=fun b hb=>Heap.get?_update_other _ _ (Ne.symm hb);unfold setFlight;refine wpAny_bind (wpAny_field he hd h1 (nV (by simp) (wpAny_setField hT hdT z3 ?_)));refine(h _ (Kp.of fun b o d e=>(other b fun z=>hDT (z▸d)).trans e) ?_);exact⟨oe,vs,T,_,_,(other e (Ne.symm hTe)).trans he,hc,hdn,hd,h1,hDe,hDT,hTe,Heap.get?_update_self _ hT (Obj.isFreed_of_fields (Obj.data_mapFields hdT _)),Obj.data_mapFields hdT _,by simp[z3]⟩
end
section
variable{P:Program}{w:World}{fs ex:List Addr}{H H':Hp}{h0 h h':Heap}{D:Addr->Prop}
theorem aDx(hok:HOk P w H' h)(hfs:∀b∈fs,H' b=none)(hD:∀b u,H' b=some u->D b)(k:Kp fs D h h'):HOk P w H' h':=fun b o e=>
 (hok b o e).stay (fun c v hc q=>by
   have hs:∃u,H' c=some u:=by
     rcases hc with z|z
     . exact⟨o,z▸e⟩
     . exact⟨_,z⟩
   obtain⟨u,hu⟩:=hs;refine k.keep c v (hD c u hu) (fun z=>?_) q;rw[hfs c z] at hu;cases hu) (fun _ q=>q) fun _ _ q=>q
theorem aEk(un:Un fs ex H H' h0 h)(hD:∀b o,h0.get? b=some o->b∉ex->D b)(k:Kp fs D h h'):Un fs ex H H' h0 h' where
 keep:=fun b o e n hb hx=>k.keep b o (hD b o e hx) hb (un.keep b o e n hb hx)
 slot:=fun b o e n hb hx=>by
   obtain⟨sl,e1⟩:=un.slot b o e n hb hx;obtain⟨sl2,e2⟩:=k.slot b _ (hD b o e hx) e1;exact⟨sl2,e2⟩
 free:=un.free
 there:=fun b o e hx=>by
   obtain⟨o',e1⟩:=un.there b o e hx;obtain⟨sl,e2⟩:=k.slot b o' (hD b o e hx) e1;exact⟨_,e2⟩
 tups:=un.tups
 frzs:=un.frzs
 tbls:=un.tbls
end
def aCp(X:Cx)(E:XK):Prop:=∀(pins:List (Addr×Obj))(σ:St)(H:Hp)(s:Shared)(e:Addr)(cls fl:Value),Inv X pins σ H s->Tr (Wd X.s₀.heap H) s.heap e cls fl->E cls none H->X.xe (.ref e) s
section
variable{P:Program}{w:World}{K:W.Frag}{mg:Str->Option Value}{base:Heap}{N:List Str}{qual:Str}{scope:Scope}{f:Addr}{cd:Value}{A:Around}{outer:List Env}{s:Shared}{H:Hp}{E:XK}
theorem wE:aCp (cxE P w K mg base N qual scope f cd A outer s H E) E:=by
 intro pins σ H' s' e cls fl I ht hE;refine wJ (D:=Wd s.heap H') (fun Q' k=>rF (D:=Wd s.heap H') (L:=s.heap.objs.size) I.ok.frames I.stack rfl ht (fun b d=>?_) k) fun h' kp tr=>?_
 . rcases d with⟨o,q⟩|⟨o,q⟩
   . exact I.base.there b o q (fun z=>absurd (show b∈([]:List Addr) from z) (by simp))
   . exact(I.hok b o q).there
 have nl:∀b,Wd s.heap H' b->b≠s.heap.objs.size:=fun b d z=>by
   rcases d with⟨o,q⟩|⟨o,q⟩
   . exact Nat.lt_irrefl _ (z▸Heap.lt_size q)
   . have z2:H' s.heap.objs.size=none:=I.free;rw[z,z2] at q;cases q
 have kp':Kp (frs outer) (Wd s.heap H') s'.heap h':=⟨fun b o d nb q=>kp.keep b o d (fun hm=>?_) q,kp.slot⟩
 . exact⟨e,cls,H',rfl,I.os,I.bare,⟨aCw I.base kp',zK I.hok (fun b hb=>I.stkFree b (List.mem_cons_of_mem _ hb)) kp',tr⟩,hE⟩
 . rcases List.mem_cons.mp (show b∈s.heap.objs.size::frs outer from hm) with z|z
   . exact nl b d z
   . exact nb z
end
def Std(s:Shared):Addr->Prop:=fun b=>∃o,s.heap.get? b=some o
section
variable{X:Cx}{pins:List (Addr×Obj)}{σ:St}{H:Hp}{s:Shared}{E:XK}
theorem Inv.std{h':Heap}(I:Inv X pins σ H s)(k:Kp (frs X.stack) (Std s) s.heap h'):Inv X pins σ H {s with heap:=h'}:=I.call' (s':={s with heap:=h'}) (ch:=[]) rfl (aEk Un.refl (fun b o e _=>⟨o,e⟩) k) (aDx I.hok I.stkFree (fun b u e=>(I.hok b u e).there) k) I.bare fun b z=>absurd z (by simp)
def aIa(X:Cx)(E:XK)(e:Value)(s':Shared):Prop:=∃(pins:List (Addr×Obj))(σ:St)(H:Hp)(s0:Shared)(a C:Addr)(h':Heap)(args:List Value),e=.ref a/\s'={s0 with heap:=h'}/\Inv X pins σ H s0/\Heap.MadeExcOf s0.heap h' a (.ref C) args/\E (.ref C) none H
def aI9(X:Cx)(E:XK)(e:Value)(s':Shared):Prop:=∃(pins:List (Addr×Obj))(σ:St)(H:Hp)(s0:Shared)(a:Addr)(cls fl:Value)(h':Heap),e=.ref a/\s'={s0 with heap:=h'}/\Inv X pins σ H s0/\Kp (frs X.stack) (Std s0) s0.heap h'/\Tr (Std s0) h' a cls fl/\E cls none H
def Cx.lv(X:Cx)(E:XK):Cx:=X.wish fun e s'=>aIa X E e s'\/aI9 X E e s'
theorem yB{C:Addr}:vI (X.lv E) E C:=fun pins σ H s a h' args I hx hE=>.inl ⟨pins,σ,H,s,a,C,h',args,rfl,rfl,I.unwish,hx,hE⟩
theorem aA8{M:Model}{A:Around}{env:Env}{Ex:Value->Shared->Prop}{a:Addr}{cls fl:Value}{D:Addr->Prop}{fs:List Addr}(t:Tr D s.heap a cls fl)(h:∀h' fl',Kp fs D s.heap h'->Tr D h' a cls fl'->Ex (.ref a) {s with heap:=h'}):cameBackBy M A env Ex (.ref a) s:=by
 obtain⟨oe,vs,T,oT,ts,he,hc,hdn,hd,h1,dZ⟩:=id t;unfold cameBackBy;refine wpAny_bind (wpAny_field he hd h1 ?_);rw[if_neg (show ¬ (Value.ref T==Value.none)=true from by simp)];exact aBs (fs:=fs) t fun h' k t'=>h h' _ k t'
theorem aF4(hst:X.stack=X.env::X.outer)(hfm:X.env.frame=some X.env.locals):PassesOwn (model X.prog X.w) X.A X.env (X.lv E).xe:=by
 rintro e s' (h|h)
 . obtain⟨pins,σ,H,s0,a,C,h',args,rfl,rfl,I,hx,hE⟩:=h;have I2:=I.kept (t':=s0.toks) hx.keeps;obtain⟨t,he,_,_⟩:=hx.there;have k0:Kp (frs X.stack) (Std s0) s0.heap h':=Kp.of fun b o _ q=>hx.keeps b o q;unfold notedBy;refine rJ (D:=Std s0) (s:={s0 with heap:=h'}) (by rw[I2.ok.frames,hst]) (hst▸I2.stack) hfm he rfl rfl rfl (fun d=>?_) (fun b d=>?_) fun h2 k2 t2=>?_
   . obtain⟨o,q⟩:=d;rw[hx.new] at q;cases q
   . obtain⟨o,q⟩:=d;exact⟨o,hx.keeps b o q⟩
   . rw[<- hst] at k2;exact aA8 (s:={s0 with heap:=h2}) (fs:=frs X.stack) t2 fun h3 fl3 k3 t3=>.inr ⟨pins,σ,H,s0,a,_,fl3,h3,rfl,rfl,I,(k0.trans k2).trans k3,t3,hE⟩
 . obtain⟨pins,σ,H,s0,a,cls,fl,h',rfl,rfl,I,k0,t0,hE⟩:=h;have I2:=I.std k0;unfold notedBy;refine rF (D:=Std s0) (s:={s0 with heap:=h'}) (by rw[I2.ok.frames,hst]) (hst▸I2.stack) hfm t0 (fun b d=>?_) fun h2 fl2 k2 t2=>?_
   . obtain⟨o,q⟩:=d;obtain⟨sl,q'⟩:=k0.slot b o ⟨o,q⟩ q;exact⟨_,q'⟩
   . rw[<- hst] at k2;exact aA8 (s:={s0 with heap:=h2}) (fs:=frs X.stack) t2 fun h3 fl3 k3 t3=>.inr ⟨pins,σ,H,s0,a,cls,fl3,h3,rfl,rfl,I,(k0.trans k2).trans k3,t3,hE⟩
theorem aGk{st:Stmt}{t:TS}(hex:X.ex=[])(Lv:aCp X E)(R:∀C,vI X E C)(h:PS (X.lv E) st t):PS X st t:=by
 intro pins s σ H D I hw;refine wpAny_mono (h pins s σ H D (I.wish _) hw) (fun _ _ q=>q.unwish) fun e s' q=>?_;rcases q with q|q
 . obtain⟨pins,σ,H,s0,a,C,h',args,rfl,rfl,I,hx,hE⟩:=q;exact R C pins σ H s0 a h' args I hx hE
 . obtain⟨pins,σ,H,s0,a,cls,fl,h',rfl,rfl,I,k0,t0,hE⟩:=q;refine Lv pins σ H _ a cls fl (I.std k0) (t0.mono fun b d=>?_) hE;rcases d with⟨o,q⟩|⟨o,q⟩
   . exact I.base.there b o q (fun z=>by rw[hex] at z;exact absurd z (by simp))
   . exact(I.hok b o q).there
end
inductive PH (X:Cx):List ExceptHandler->List (Addr×TS)->Prop
 |nil:PH X [] []
 |cons {x:Str} {np hpos:Pos} {b₀:Stmt} {suite:List Stmt} {CD:Addr} {ts:TS} {hs:List ExceptHandler} {ws:List (Addr×TS)} (hm:X.mg x=some (.ref CD)) (hg:Gl X x) (hdb:(x==("__debug__":Str))=false)
     (h:∀(a:Addr)(pn:List (Addr×Obj))(xe:Value->Shared->Prop),PSs (X.hnd a pn xe) (b₀::suite) ts) (dZ:PH X hs ws):PH X (.ExceptHandler (some (.Name x np)) none (b₀::suite) hpos::hs) ((CD,ts)::ws)
def aGz(K:W.Frag)(C:Addr)(R:TS->Prop):List (Addr×TS)->Prop
 |[]=>False
 |(CD,ts)::ws=>(W.exmOne K (.ref C) (.ref CD)=some true/\R ts)\/(W.exmOne K (.ref C) (.ref CD)=some false/\aGz K C R ws)
def aE1(K:W.Frag)(ws:List (Addr×TS))(D:wU):St->XK:=fun σ cls _ H=>∃C,cls=.ref C/\aGz K C (fun ts=>ts D σ H) ws
def aG5(K:W.Frag)(tb:(St->XK)->TS)(ws:List (Addr×TS)):TS:=fun D σ H=>tb (aE1 K ws D) D σ H
section
variable{X:Cx}{pins:List (Addr×Obj)}{σ:St}{H:Hp}{s:Shared}
theorem yG{a C:Addr}{H1 H':Hp}{s0 s1:Shared}{D:wU}{σ':St}(I0:X.calm=true->X.A.handled=none)(hfs:∀b∈frs X.stack,H' b=none)(at_:∀(h:Heap)(fv:Value),Fl X.prog X.w (frs X.stack) H1 s0.heap H' h a (.ref C) fv->Inv X pins σ' H' {s1 with heap:=h})(far:∀{oe:Obj}{h:Heap},Fl X.prog X.w (frs X.stack) H1 s0.heap H' h a (.ref C) .none->h.get? a=some oe->∀p∈X.pn++pins,({s1 with heap:=h}:Shared).heap.get? p.1=some p.2/\H' p.1=none/\p.1≠X.env.locals/\p.1∉X.fs/\∀v,p.2.data≠.cell v):
   ∀{hs:List ExceptHandler}{ws:List (Addr×TS)},PH X hs ws->∀{h3:Heap},Fl X.prog X.w (frs X.stack) H1 s0.heap H' h3 a (.ref C) .none->aGz X.K C (fun ts=>ts D σ' H') ws ->
     wpAny (model X.prog X.w) X.A (handleBy (.ref a) X.env hs) (SP X pins D) X.xe {s1 with heap:=h3}
 |_,_,.nil,h3,_,p=>p.elim
 |_,_,.cons hm hg hdb hsu dZ,h3,f3,p=>by
   have I3:=at_ h3 _ f3;have J3:Inv (X.hnd a [] fun _ _=>False) [] σ' H' {s1 with heap:=h3}:=I3.toHnd fun p z=>absurd z (by simp);refine wpAny_handleBy_cons (codeAny_handlers_test (mJ (X:=X.hnd a [] fun _ _=>False) J3 hg hm ?_ hdb)) (by intro z;cases z);obtain⟨oe,vs,T,oT,ts',he,hcl,hdn,hd,h1,hDe,rst⟩:=f3.tr;rcases p with⟨hx,q⟩|⟨hx,q⟩
   . refine(W.exm_one (M:=model X.prog X.w) (h:=h3) I3.kIn (hcl▸(W.Looks.ld he).andThen .now) hx).at ?_;refine codeAny_handlers_suite ?_;refine lD (s:={s1 with heap:=h3}) (fs:=frs X.stack) f3.tr fun h4 k4 e4 t4=>?_;have f4:=f3.kp hfs k4 t4;have I4:=at_ h4 _ f4;have J4:Inv (X.hnd a (X.pn++pins) fun _ _=>False) [] σ' H' {s1 with heap:=h4}:=I4.toHnd fun p hp=>I4.pin p hp;have bk:∀{xe:Value->Shared->Prop}{σ6:St}{H6:Hp}{s6:Shared},Inv (X.hnd a (X.pn++pins) xe) [] σ6 H6 s6->Inv X pins σ6 H6 s6:=fun J=>J.ofHnd I0 fun p hp=>hp;refine wpAny_mono (hsu a (X.pn++pins) _ [] _ _ H' D (J4.wish _) q) (fun f6 s6 q6=>?_) fun _ _ z=>z;cases f6 with
     |next=>obtain⟨σ6,H6,J6,q6⟩:=q6;exact⟨σ6,H6,bk J6,q6⟩
     |brk=>obtain⟨σ6,H6,J6,q6⟩:=q6;exact⟨σ6,H6,bk J6,q6⟩
     |cont=>obtain⟨σ6,H6,J6,q6⟩:=q6;exact⟨σ6,H6,bk J6,q6⟩
     |ret u=>obtain⟨v,σ6,H6,J6,r6,q6⟩:=q6;exact⟨v,σ6,H6,bk J6,r6,q6⟩
   . refine(W.exm_one (M:=model X.prog X.w) (h:=h3) I3.kIn (hcl▸(W.Looks.ld he).andThen .now) hx).at ?_;exact yG I0 hfs at_ far dZ f3 q
theorem aD8{body:List Stmt}{h₀:ExceptHandler}{hs:List ExceptHandler}{pos:Pos}{tb:(St->XK)->TS}{ws:List (Addr×TS)}(hst:X.stack=X.env::X.outer)(hfr:X.env.frame=some X.env.locals)(hb:∀(pins:List (Addr×Obj))(E:St->XK),PSs (X.tryB pins E) body (tb E))(hh:PH X (h₀::hs) ws):PS X (.Try body (h₀::hs) [] [] pos) (aG5 X.K tb ws):=by
 intro pins s σ H D I h;refine wpAny_Try_except (wpAny_mono (hb pins _ [] s σ H D (I.toTry _) h) (fun fl s1 q=>?_) fun e s1 q=>?_)
 . cases fl with
   |next=>obtain⟨σ',H',I',q⟩:=q;exact wpAny_execs_nil ⟨σ',H',I'.ofTry.pn2,q⟩
   |brk=>obtain⟨σ',H',I',q⟩:=q;exact⟨σ',H',I'.ofTry.pn2,q⟩
   |cont=>obtain⟨σ',H',I',q⟩:=q;exact⟨σ',H',I'.ofTry.pn2,q⟩
   |ret u=>obtain⟨v,σ',H',I',r,q⟩:=q;exact⟨v,σ',H',I'.ofTry.pn2,r,q⟩
 obtain⟨pins',σ',H1,s0,I1',a,cls,H',rfl,os,bare,fl,C,rfl,q⟩:=q;have I1:Inv X pins σ' H1 s0:=I1'.pn2;have hfs:∀b∈frs X.stack,H' b=none:=fun b hb=>by
   obtain⟨_,o,ho,_⟩:=I1.stack.mem hb;exact fl.un.free b o ho (I1.stkFree b hb) (by simp)
 have at_:∀(h:Heap)(fv:Value),Fl X.prog X.w (frs X.stack) H1 s0.heap H' h a (.ref C) fv->Inv X pins σ' H' {s1 with heap:=h}:=fun h fv z=>
   I1.call' (s':={s1 with heap:=h}) (ch:=[]) os z.un z.hok bare fun b z=>absurd z (by simp)
 refine rG (D:=Wd s0.heap H') (L:=X.env.locals) (by rw[I1.ok.frames,hst]) (hst▸(at_ _ _ fl).stack) hfr fl.tr fl.dom fun h2 k2 t2=>?_;have f2:=fl.kp hfs (hst▸k2) t2;refine lD (s:={s1 with heap:=h2}) (fs:=frs X.stack) f2.tr fun h3 k3 _ t3=>?_;exact yG I.ok.hd hfs at_ (fun f _ p hp=>(at_ _ _ f).pin p hp) hh (f2.kp hfs k3 t3) q
end
section
variable{X:Cx}
def aEy:V->List V->Hp->VK->Prop:=fun x vs H Q=>∃(l:Addr)(ns:List Int)(y:Int)(j:Nat),x=.ref l/\vs=[.int y]/\H l=some (.lst (ns.map V.int))/\ns[j]?=some y/\(∀m:Nat,m<j->ns[m]?≠some y)/\Q (.int (j:Int)) H
theorem aBd:MtM X "list.index" aEy:=by
 intro pins s σ H x vs v us Q I rx rv h;obtain⟨l,ns,y,j,rfl,rfl,hH,h1,h2,q⟩:=h;cases rx;obtain⟨u,rfl,ru⟩:=rv.one;obtain⟨ty,rfl⟩:=ru;obtain⟨z,its,n,r,hl,e⟩:=I.lstM hH;rw[List.length_map] at hl;have at_:∀(m:Nat)(w:Value),its[m]?=some w->∃t,∃h:m<ns.length,w=.int ns[m] t:=fun m w e1=>by
   have hm:m<ns.length:=by have:=(List.getElem?_eq_some_iff.mp e1).1;omega
   obtain⟨w',e3,t,e4⟩:=r.get (show(ns.map V.int)[m]?=some (.int ns[m]) by rw[List.getElem?_map,List.getElem?_eq_getElem hm];rfl);rw[e1] at e3;cases e3;exact⟨t,hm,e4⟩
 obtain⟨hj,ej⟩:=List.getElem?_eq_some_iff.mp h1;have hjn:j<its.toArray.size:=by rw[List.size_toArray];omega
 have small:(j:Int)<2 ^ 63 - 1:=by
   have l:=nL;rw[List.length_map] at z;have:j<sizeLine:=Nat.lt_of_lt_of_le hj z;omega
 refine call_meets PySem.F.slot_list_index ⟨_,e,rfl⟩ PySem.F.entry_list_index (PySem.F.args_list_index_2 _ _) (PySem.MeetsSeq.list_index l its.toArray n (.int y ty) (isI y) (fun w hw=>?_) j hjn small ?_ (fun m hm hmj=>?_)) ⟨e,?_⟩
 . obtain⟨m,hm,e1⟩:=List.getElem_of_mem (show w∈its by simpa using hw);obtain⟨t,h',rfl⟩:=at_ m w (by rw[List.getElem?_eq_getElem hm,e1]);exact PySem.MeetsSeq.EqGives.int _ y t ty
 . obtain⟨t,h',e2⟩:=at_ j its.toArray[j] (by simp);rw[e2];show(ns[j]==y)=true;simpa using ej
 . obtain⟨t,h',e2⟩:=at_ m its.toArray[m] (by simp);rw[e2];show(ns[m]==y)=false;have:=h2 m hmj;rw[List.getElem?_eq_getElem h'] at this;simpa using this
 . exact⟨.int (j:Int),H,I.tok _,⟨_,rfl⟩,q⟩
end
section
variable{κ:Type}[DecidableEq κ]
def lA(kvs:List (κ×V))(k:κ):Option V:=(kvs.find? fun kv=>decide (kv.1=k)).map (·.2)
def sL(kvs:List (κ×V))(k:κ)(v:V):List (κ×V):=if(kvs.any fun kv=>decide (kv.1=k))=true then kvs.map (fun kv=>if kv.1=k then(kv.1,v) else kv) else kvs++[(k,v)]
def tI(kvs:List (κ×V))(k:κ):List (κ×V):=kvs.filter fun kv=>decide (kv.1≠k)
theorem iW{p:κ×V}{r:List (κ×V)}{k:κ}(e:p.1=k):lA (p::r) k=some p.2:=by simp[lA,List.find?_cons,e]
theorem iX{p:κ×V}{r:List (κ×V)}{k:κ}(e:¬ p.1=k):lA (p::r) k=lA r k:=by simp[lA,List.find?_cons,e]
theorem kZ(k:κ):∀kvs:List (κ×V),(kvs.any fun kv=>decide (kv.1=k))=(lA kvs k).isSome
 |[]=>rfl
 |p::r=>by
   rw[List.any_cons];by_cases e:p.1=k
   . simp only[iW e,decide_eq_true e,Bool.true_or,Option.isSome_some]
   . rw[iX e,decide_eq_false e,Bool.false_or];exact kZ k r
theorem mI(kvs:List (κ×V))(k:κ)(v:V):(sL kvs k v).length <= kvs.length+1:=by
 unfold sL;split
 . rw[List.length_map];omega
 . rw[List.length_append,List.length_cons,List.length_nil];omega
theorem uP{kvs:List (κ×V)}{k:κ}(v:V)(h:lA kvs k=none):sL kvs k v=kvs++[(k,v)]:=by
 unfold sL;rw[kZ,h];exact if_neg (by decide)
theorem pY.isSome_eq{o:Option V}{u:Option Value}(r:pY o u):o.isSome=u.isSome:=by
 cases o with
 |none=>cases u with
   |none=>rfl
   |some _=>exact(show False from r).elim
 |some _=>cases u with
   |none=>exact(show False from r).elim
   |some _=>rfl
theorem pY.getD{o:Option V}{u:Option Value}{d:V}{d':Value}(r:pY o u)(rd:bY d d'):bY (o.getD d) (u.getD d'):=by
 cases o with
 |none=>cases u with
   |none=>exact rd
   |some _=>exact(show False from r).elim
 |some _=>cases u with
   |none=>exact(show False from r).elim
   |some _=>exact r
theorem KV.val{kvs:List (κ×V)}{vs:List (κ×Value)}(r:KV kvs vs)(k:κ):pY (lA kvs k) (valueAt vs k):=by
 unfold KV at r;induction r with
 |nil=>exact True.intro
 |@cons p q ps qs h t ih=>
   obtain⟨h1,h2⟩:=h;by_cases e:p.1=k
   . have e':q.1=k:=h1.symm.trans e;have b:valueAt (q::qs) k=some q.2:=by simp[valueAt,List.find?_cons,e']
     rw[iW e,b];exact h2
   . have e':¬ q.1=k:=fun z=>e (h1.trans z);have b:valueAt (q::qs) k=valueAt qs k:=by simp[valueAt,List.find?_cons,e']
     rw[iX e,b];exact ih
theorem KV.any{kvs:List (κ×V)}{vs:List (κ×Value)}(r:KV kvs vs)(k:κ):(kvs.any fun kv=>decide (kv.1=k))=vs.any fun kv=>decide (kv.1=k):=by
 unfold KV at r;induction r with
 |nil=>rfl
 |cons h t ih=>rw[List.any_cons,List.any_cons,ih,h.1]
theorem KV.repl{kvs:List (κ×V)}{vs:List (κ×Value)}(r:KV kvs vs)(k:κ){y:V}{u:Value}(ry:bY y u): KV (kvs.map fun kv=>if kv.1=k then(kv.1,y) else kv) (vs.map fun kv=>if kv.1=k then(kv.1,u) else kv):=by
 unfold KV at r ⊢;induction r with
 |nil=>exact .nil
 |@cons p q ps qs h t ih=>
   rw[List.map_cons,List.map_cons];refine .cons ?_ ih;obtain⟨h1,h2⟩:=h;by_cases e:p.1=k
   . rw[if_pos e,if_pos (h1.symm.trans e)];exact⟨h1,ry⟩
   . rw[if_neg e,if_neg (fun z=>e (h1.trans z))];exact⟨h1,h2⟩
theorem KV.put{kvs:List (κ×V)}{vs:List (κ×Value)}(r:KV kvs vs)(k:κ){y:V}{u:Value}(ry:bY y u):KV (sL kvs k y) (stored vs k u):=by
 unfold sL stored;rw[r.any k];by_cases e:(vs.any fun kv=>decide (kv.1=k))=true
 . rw[if_pos e,if_pos e];exact r.repl k ry
 . rw[if_neg e,if_neg e];exact Paired.snoc r ⟨rfl,ry⟩
theorem KV.drop{kvs:List (κ×V)}{vs:List (κ×Value)}(r:KV kvs vs)(k:κ):KV (tI kvs k) (without vs k):=by
 unfold KV at r ⊢;unfold tI without;induction r with
 |nil=>exact .nil
 |@cons p q ps qs h t ih=>
   obtain⟨h1,h2⟩:=h;rw[List.filter_cons,List.filter_cons];by_cases e:p.1=k
   . have a:¬ decide (p.1≠k)=true:=by simp[e]
     have b:¬ decide (q.1≠k)=true:=by simp[h1.symm.trans e]
     rw[if_neg a,if_neg b];exact ih
   . have e':¬ q.1=k:=fun z=>e (h1.trans z);have a:decide (p.1≠k)=true:=by simp[e]
     have b:decide (q.1≠k)=true:=by simp[e']
     rw[if_pos a,if_pos b];exact .cons ⟨h1,h2⟩ ih
theorem KV.keys{kvs:List (κ×V)}{vs:List (κ×Value)}(r:KV kvs vs):kvs.map (·.1)=vs.map (·.1):=by
 unfold KV at r;induction r with
 |nil=>rfl
 |cons h t ih=>rw[List.map_cons,List.map_cons,ih,h.1]
theorem KV.length{kvs:List (κ×V)}{vs:List (κ×Value)}(r:KV kvs vs):kvs.length=vs.length:=Paired.length r
theorem aBu(kvs:List (κ×V))(k:κ):(tI kvs k).length <= kvs.length:=List.length_filter_le _ _
end
theorem wF{P:Program}{w:World}{k:Key}{u:Value}(r:bY (kV k) u):(cD P w).is k u=true:=by
 cases k with
 |inl i=>obtain⟨t,e⟩:=(show ∃t,u=Value.int i t from r);subst e;exact mG P w i t
 |inr x=>obtain⟨t,e⟩:=(show ∃t,u=Value.str x t from r);subst e;exact sW P w x t
theorem qZ{P:Program}{w:World}:∀{ks:List Key}{us:List Value},bO (ks.map kV) us->ItemsAre (cD P w) ks us
 |[],_,r=>by rw[List.map_nil] at r;cases r;exact .nil
 |k::ks,_,r=>by
   rw[List.map_cons] at r;cases r with
   |cons h t=>exact .cons (wF h) (qZ t)
abbrev KT(H:Hp):List (List Key×V)->List (List Key×Addr×Value)->Prop:=Paired fun p q=>p.1=q.1/\H q.2.1=some (.tup (p.1.map kV))/\bY p.2 q.2.2
theorem KT.val{H:Hp}{kvs:List (List Key×V)}{xs:List (List Key×Addr×Value)}(r:KT H kvs xs)(k:List Key):pY (lA kvs k) ((atKey xs k).map (·.2)):=by
 induction r with
 |nil=>exact True.intro
 |@cons p q ps qs h t ih=>
   obtain⟨h1,_,h2⟩:=h;by_cases e:p.1=k
   . have e':q.1=k:=h1.symm.trans e;have b:atKey (q::qs) k=some q.2:=by simp[atKey,List.find?_cons,e']
     rw[iW e,b];exact h2
   . have e':¬ q.1=k:=fun z=>e (h1.trans z);have b:atKey (q::qs) k=atKey qs k:=by simp[atKey,List.find?_cons,e']
     rw[iX e,b];exact ih
theorem KT.repl{H:Hp}{kvs:List (List Key×V)}{xs:List (List Key×Addr×Value)}(r:KT H kvs xs)(k:List Key){y:V}{u:Value}(ry:bY y u): KT H (kvs.map fun kv=>if kv.1=k then(kv.1,y) else kv) (xs.map (putAt k u)):=by
 induction r with
 |nil=>exact .nil
 |@cons p q ps qs h t ih=>
   rw[List.map_cons,List.map_cons];refine .cons ?_ ih;obtain⟨h1,h2,h3⟩:=h;unfold putAt;by_cases e:p.1=k
   . rw[if_pos e,if_pos (h1.symm.trans e)];exact⟨h1,h2,ry⟩
   . rw[if_neg e,if_neg (fun z=>e (h1.trans z))];exact⟨h1,h2,h3⟩
theorem KT.put{H:Hp}{kvs:List (List Key×V)}{xs:List (List Key×Addr×Value)}(r:KT H kvs xs)(k:List Key){b:Addr}{y:V}{u:Value}(hb:H b=some (.tup (k.map kV)))(ry:bY y u): KT H (sL kvs k y) (storedH xs k b u):=by
 have e:(kvs.any fun kv=>decide (kv.1=k))=(atKey xs k).isSome:=by
   rw[kZ,(r.val k).isSome_eq,Option.isSome_map]
 unfold sL storedH;rw[e];by_cases q:(atKey xs k).isSome=true
 . rw[if_pos q,if_pos q];exact r.repl k ry
 . rw[if_neg q,if_neg q];exact Paired.snoc r ⟨rfl,hb,ry⟩
theorem KT.keeps{H H':Hp}{kvs:List (List Key×V)}{xs:List (List Key×Addr×Value)}(r:KT H kvs xs)(ht:∀b ys,H b=some (.tup ys)->H' b=some (.tup ys)):KT H' kvs xs:=Paired.mapP r fun _ _ z=>⟨z.1,ht _ _ z.2.1,z.2.2⟩
section
variable{P:Program}{w:World}{H:Hp}{h:Heap}{a:Addr}
theorem aEw{u:HO}(ok:HOk P w H h)(e:Rd H a u):bZ P w H h a u:=e.ok ok
theorem wM{kvs:List (Key×V)}(ok:HOk P w H h)(e:Rd H a (.dK kvs)):kvs.length <= sizeLine/\(a==sysModules)=false/\∃vs,KV kvs vs/\h.DictOf (cD P w) a vs:=show bZ P w H h a (.dK kvs) from aEw ok e
theorem aE2{kvs:List (Key×V)}(ok:HOk P w H h)(e:H a=some (.dK kvs)):kvs.length <= sizeLine/\(a==sysModules)=false/\∃vs,KV kvs vs/\h.DictOf (cD P w) a vs:=wM ok (.inl e)
theorem qY{ks:List Key}(ok:HOk P w H h)(e:H a=some (.tup (ks.map kV))):(tupleKind (cD P w)).is h ks a:=by
 obtain⟨_,its,r,o,h1,h2,n,h3⟩:=(show bZ P w H h a (.tup (ks.map kV)) from ok a _ e);exact⟨o,its.toArray,n,h1,h2,h3,by simpa using qZ r⟩
theorem wL{kvs:List (List Key×V)}(ok:HOk P w H h)(e:Rd H a (.dT kvs)):kvs.length <= sizeLine/\(a==sysModules)=false /\ ∃xs,KT H kvs xs/\h.DictOfH (tupleKind (cD P w)) a xs:=by
 obtain⟨z,y,xs,r,o,es,ep,h1,h2,h3,h4,h5⟩:=(show bZ P w H h a (.dT kvs) from aEw ok e);refine⟨z,y,xs,r,o,es,ep,h1,h2,h3,h4,fun x hx=>?_,h5⟩;have all:∀{l:List (List Key×V)}{m:List (List Key×Addr×Value)},KT H l m->∀x∈m,(tupleKind (cD P w)).is h x.1 x.2.1:=by
   intro l m q;induction q with
   |nil=>intro x hx;exact nomatch hx
   |@cons p q ps qs hq t ih=>
     intro x hx;rcases List.mem_cons.mp hx with e|hx
     . subst e;exact qY ok (by rw[<- hq.1];exact hq.2.1)
     . exact ih x hx
 exact all r x hx
theorem aGu{kvs:List (List Key×V)}(ok:HOk P w H h)(e:H a=some (.dT kvs)):kvs.length <= sizeLine/\(a==sysModules)=false /\ ∃xs,KT H kvs xs/\h.DictOfH (tupleKind (cD P w)) a xs:=wL ok (.inl e)
end
def pZ(H:Hp)(a:Addr)(y:V)(r:Option V):Prop:=(∃kvs k,Rd H a (.dK kvs)/\y=kV k/\r=lA kvs k)\/∃kvs k b,Rd H a (.dT kvs)/\y=.ref b/\H b=some (.tup (k.map kV))/\r=lA kvs k
def aCr(H:Hp)(a:Addr)(y v:V)(H':Hp):Prop:=(∃kvs k,H a=some (.dK kvs)/\y=kV k/\kvs.length<sizeLine/\H'=upd H a (.dK (sL kvs k v))) \/ ∃kvs k b,H a=some (.dT kvs)/\y=.ref b/\H b=some (.tup (k.map kV))/\kvs.length<sizeLine/\H'=upd H a (.dT (sL kvs k v))
theorem pZ.k{H:Hp}{a:Addr}{kvs:List (Key×V)}{k:Key}(e:H a=some (.dK kvs)):pZ H a (kV k) (lA kvs k):=.inl ⟨kvs,k,.inl e,rfl,rfl⟩
theorem pZ.t{H:Hp}{a b:Addr}{kvs:List (List Key×V)}{k:List Key}(e:H a=some (.dT kvs))(eb:H b=some (.tup (k.map kV))):pZ H a (.ref b) (lA kvs k):=.inr ⟨kvs,k,b,.inl e,rfl,eb,rfl⟩
theorem aCr.k{H:Hp}{a:Addr}{kvs:List (Key×V)}{k:Key}{v:V}(e:H a=some (.dK kvs))(hl:kvs.length<sizeLine):aCr H a (kV k) v (upd H a (.dK (sL kvs k v))):=.inl ⟨kvs,k,e,rfl,hl,rfl⟩
theorem aCr.t{H:Hp}{a b:Addr}{kvs:List (List Key×V)}{k:List Key}{v:V}(e:H a=some (.dT kvs))(eb:H b=some (.tup (k.map kV)))(hl:kvs.length<sizeLine): aCr H a (.ref b) v (upd H a (.dT (sL kvs k v))):=.inr ⟨kvs,k,b,e,rfl,eb,hl,rfl⟩
section
variable{X:Cx}{pins:List (Addr×Obj)}{σ:St}{H:Hp}{s:Shared}{a:Addr}{y v:V}{u r:Value}{o:Option V}{A:Around}{E:Value->Shared->Prop}
theorem Inv.big(I:Inv X pins σ H s):sysModules<s.heap.objs.size:=by
 have h:mainGlobals<s.heap.objs.size:=(I.mod.glob.keeps I.bk).lt;exact Nat.lt_trans (by decide) h
theorem aA4{Q:Value->Shared->Prop}(hu:A.units+1<cLine)(I:Inv X pins σ H s)(g:pZ H a y (some v))(ry:bY y u)(h:∀w' s',Inv X pins σ H s'->bY v w'->Q w' s'): wpAny (model X.prog X.w) A (getItem (.ref a) u) Q E s:=by
 rcases g with⟨kvs,k,e,ey,l⟩|⟨kvs,k,b,e,ey,eb,l⟩
 . subst ey;obtain⟨z,hd,vs,rel,dd⟩:=wM I.hok e;obtain⟨w',hw,rw'⟩:=pY.some_of (v:=v) (o:=valueAt vs k) (by rw[l];exact rel.val k);exact wpAny_getItem_of (wF ry) dd.mapOf hw (h w' _ (I.tok _) rw')
 . subst ey;cases (show u=Value.ref b from ry);obtain⟨z,hd,xs,rel,dd⟩:=wL I.hok e;obtain⟨w',hw,rw'⟩:=pY.some_of (v:=v) (o:=(atKey xs k).map (·.2)) (by rw[l];exact rel.val k);obtain⟨p,hp,hp2⟩:=Option.map_eq_some_iff.mp hw;refine wpAny_getItem_heap (tupleKind_room_in1 hu) (qY I.hok eb) dd hp ?_;rw[hp2];exact h w' _ (I.tok _) rw'
theorem aE3{Q:Value->Shared->Prop}(hu:A.units+1<cLine)(I:Inv X pins σ H s)(g:pZ H a y o)(ry:bY y u)(h:∀s',Inv X pins σ H s'->Q (.bool (!o.isSome)) s'): wpAny (model X.prog X.w) A (compareOp .NotIn u (.ref a)) Q E s:=by
 rcases g with⟨kvs,k,e,ey,l⟩|⟨kvs,k,b,e,ey,eb,l⟩
 . subst ey;obtain⟨z,hd,vs,rel,dd⟩:=wM I.hok e;refine wpAny_notIn_of (wF ry) hd dd.mapOf ?_;rw[<- (rel.val k).isSome_eq,<- l];exact h _ (I.tok _)
 . subst ey;cases (show u=Value.ref b from ry);obtain⟨z,hd,xs,rel,dd⟩:=wL I.hok e;refine wpAny_notIn_heap (tupleKind_room_in1 hu) (qY I.hok eb) hd dd ?_;have q:=(rel.val k).isSome_eq;rw[Option.isSome_map] at q;rw[<- q,<- l];exact h _ (I.tok _)
theorem tK{h':Heap}{t':Nat}{ob:HO}(I:Inv X pins σ H s)(mu:Mut (H a))(hs:Heap.SameBut a s.heap h')(he:∃q,h'.get? a=some q)(new:bZ X.prog X.w (upd H a ob) h' a ob): Inv X pins σ (upd H a ob) {s with heap:=h',toks:=t'}:=I.write (x:=a) (e:=a) mu (.inl rfl) (fun b q hb z=>(hs.2 b hb).trans z) he new
theorem zX{P:Program}{w:World}{H':Hp}{h':Heap}{kvs:List (Key×V)}{vs:List (Key×Value)}(z:kvs.length <= sizeLine)(hd:(a==sysModules)=false)(rel:KV kvs vs)(dd:h'.DictOf (cD P w) a vs): bZ P w H' h' a (.dK kvs):=⟨z,hd,vs,rel,dd⟩
theorem aA3{H':Hp}{Q:Unit->Shared->Prop}(hu:A.units+1<cLine)(I:Inv X pins σ H s)(g:aCr H a y v H')(ry:bY y u)(rv:bY v r)(h:∀s',Inv X pins σ H' s'->Q () s'): wpAny (model X.prog X.w) A (setItem (.ref a) u r) Q E s:=by
 rcases g with⟨kvs,k,e,ey,l,eH⟩|⟨kvs,k,b,e,ey,eb,l,eH⟩
 . subst ey eH;obtain⟨z,hd,vs,rel,dd⟩:=aE2 I.hok e;have hz:vs.length <= sizeLine:=by rw[<- rel.length];exact z
   have hl:(sL kvs k v).length <= sizeLine:=by have:=mI kvs k v;omega
   refine wpAny_setItem_pairs (hsz:=hz) (wF ry) dd fun h' dd' hs=>h _ ?_;have he:∃q,h'.get? a=some q:=let ⟨q,_,_,hq,_⟩:=dd';⟨q,hq⟩;exact tK I (by rw[e];exact True.intro) hs he (zX hl hd (rel.put k rv) dd')
 . subst ey eH;cases (show u=Value.ref b from ry);obtain⟨z,hd,xs,rel,dd⟩:=aGu I.hok e;have hz:xs.length <= sizeLine:=by rw[<- Paired.length rel];exact z
   have hl:(sL kvs k v).length <= sizeLine:=by have:=mI kvs k v;omega
   refine wpAny_setItem_heap (hsz:=hz) (tupleKind_room_in1 hu) (qY I.hok eb) dd fun h' dd' hs=>h _ ?_;obtain⟨q,es,ep,hq,h2,h3,h4,_,h5⟩:=dd';refine tK I (by rw[e];exact True.intro) hs ⟨q,hq⟩ ⟨hl,hd,_,(rel.put k eb rv).keeps fun c ys ec=>?_,q,es,ep,hq,h2,h3,h4,h5⟩;rw[aE (bS ec e (fun z=>nomatch z))];exact ec
end
section
variable{X:Cx}{pins:List (Addr×Obj)}{σ:St}{H:Hp}{s:Shared}{a:Addr}{kvs:List (Key×V)}{k:Key}{u:Value}{A:Around}{E:Value->Shared->Prop}
theorem aGv{v:V}{more:List Value}{Q:Value->Shared->Prop}(I:Inv X pins σ H s)(e:H a=some (.dK kvs))(ry:bY (kV k) u)(l:lA kvs k=some v)(hm:more=[]\/∃x,more=[x])(h:∀w' s',Inv X pins σ (upd H a (.dK (tI kvs k))) s'->bY v w'->Q w' s'):wpAny (model X.prog X.w) A (call (.builtin "dict.pop") (.ref a::u::more)) Q E s:=by
 obtain⟨z,hd,vs,rel,dd⟩:=aE2 I.hok e;obtain⟨w',hw,rw'⟩:=pY.some_of (v:=v) (o:=valueAt vs k) (by rw[<- l];exact rel.val k);have hp:(keyPart u).isSome=true:=by
   cases k with
   |inl i=>obtain⟨t,q⟩:=(show ∃t,u=Value.int i t from ry);subst q;rfl
   |inr x=>obtain⟨t,q⟩:=(show ∃t,u=Value.str x t from ry);subst q;rfl
 have ha:argsOk "dict.pop" ⟨.ref a::u::more,[]⟩:=by
   rcases hm with q|⟨x,q⟩
   . subst q;exact PySem.F.args_dict_pop_2 _ _
   . subst q;exact PySem.F.args_dict_pop_3 _ _ _
 refine call_meetsIn PySem.F.slot_dict_pop dd.typeIs PySem.F.entry_dict_pop ha (meets_dict_pop_there (cD X.prog X.w) a (wF ry) more hm hp) ⟨vs,w',dd,by rw[<- rel.length];exact z,hw,fun h' dd' hs=>h w' _ ?_ rw'⟩;have he:∃q,h'.get? a=some q:=let ⟨q,_,_,hq,_⟩:=dd';⟨q,hq⟩;exact tK I (by rw[e];exact True.intro) hs he (zX (Nat.le_trans (aBu kvs k) z) hd (rel.drop k) dd')
end
def aHh(i:Expr):Prop:=∀ov iv,subscripted i false ov iv=operate [ov,iv] (getItem ov iv)
theorem aD1{prog:Program}{w:World}{A:Around}{E:Value->Shared->Prop}{s:Shared}{env:Env}{value slice:Expr}{pos:Pos}{T id:String}{Q:Value->Shared->Prop}(hl:typeLookup (.type T) "__getitem__"=pure (some (.builtin id)))(hs:aHh slice)(h:wpAny (model prog w) A (eval value env) (fun o s₁=>wpAny (model prog w) A (eval slice env) (fun i s₂=>s₂.TypeIs o T/\wpAny (model prog w) A (getItem o i) Q E s₂) E s₁) E s): wpAny (model prog w) A (eval (.Subscript value slice pos) env) Q E s:=by
 refine Subscript_ (wpAny_mono h (fun o s₁ h₁=>wpAny_mono h₁ (fun i s₂ h₂=>?_) fun _ _ x=>x) fun _ _ x=>x);obtain⟨hT,h₂⟩:=h₂;unfold subscriptTail;refine wpAny_bind ?_;rw[getitemInPython_of_ne hT.not_modules];refine wpAny_bind (wpAny_specialOf hT hl ?_);have fin:wpAny (model prog w) A (subscripted slice false o i) (fun r s₃=>wpAny (model prog w) A (letTemporaryGo value o r >>= fun _=>pure r) Q E s₃) E s₂:=by
   rw[hs o i];exact wpAny_operating (wpAny_mono h₂ (fun r s₃ h₃=>wpAny_bind (wpAny_letTemporaryGo (wpAny_pure h₃))) fun _ _ x=>x)
 first
   |exact wpAny_pure (wpAny_bind fin)
   |exact wpAny_bind (wpAny_pure (wpAny_bind fin))
   |exact wpAny_bind fin
theorem tJ{X:Cx}{pins:List (Addr×Obj)}{σ:St}{H:Hp}{s:Shared}{a:Addr}{y:V}{o:Option V}(I:Inv X pins σ H s)(g:pZ H a y o):s.TypeIs (.ref a) "dict":=by
 rcases g with⟨kvs,k,e,_,_⟩|⟨kvs,k,b,e,_,_,_⟩
 . obtain⟨_,_,vs,_,dd⟩:=wM I.hok e;exact dd.typeIs
 . obtain⟨_,_,xs,_,dd⟩:=wL I.hok e;exact dd.typeIs
def aG9(td ty:TE):TE:=fun σ H Q=>td σ H fun x H1=>ty σ H1 fun y H2=>∃a v,x=.ref a/\pZ H2 a y (some v)/\Q v H2
def aD0(ty td:TE):TE:=fun σ H Q=>ty σ H fun y H1=>td σ H1 fun x H2=>∃a o,x=.ref a/\pZ H2 a y o/\Q (.bl (!o.isSome)) H2
def aGh(td ty tv:TE):TS:=fun D σ H=>tv σ H fun v H1=>td σ H1 fun x H2=>ty σ H2 fun y H3=>∃a H4,x=.ref a/\aCr H3 a y v H4/\D.nx σ H4
section
variable{X:Cx}{o i e value:Expr}{pos pos' tpos:Pos}{td ty tv:TE}
theorem oX(hu:X.A.units+1<cLine)(ho:PE X o td)(hi:PE X i ty)(hs:aHh i):PE X (.Subscript o i pos) (aG9 td ty):=by
 intro pins s σ H Q I h;refine aD1 PySem.F.slot_dict_getitem.lookup hs (thn (ho pins s σ H _ I h) fun u s1 ⟨x,H1,I1,rx,q1⟩=>thn (hi pins s1 σ H1 _ I1 q1) fun iv s2 ⟨y,H2,I2,ry,a,v,ex,g,q2⟩=>?_);subst ex;obtain rfl:u=Value.ref a:=rx;exact⟨tJ I2 g,aA4 hu I2 g ry fun w' s3 I3 rw'=>⟨v,H2,I3,rw',q2⟩⟩
theorem qQ(hu:X.A.units+1<cLine)(hi:PE X i ty)(ho:PE X o td):PC X .NotIn i o (aD0 ty td):=by
 intro pins s σ H Q I h;refine thn (hi pins s σ H _ I h) fun iv s1 ⟨y,H1,I1,ry,q1⟩=>thn (ho pins s1 σ H1 _ I1 q1) fun u s2 ⟨x,H2,I2,rx,a,ov,ex,g,q2⟩=>?_;subst ex;obtain rfl:u=Value.ref a:=rx;exact aE3 hu I2 g ry fun s3 I3=>⟨.bl (!ov.isSome),H2,I3,rfl,q2⟩
theorem yC(hu:X.A.units+1<cLine)(ho:PE X o td)(hi:PE X i ty)(hv:PE X value tv)(hs:swapsWith value (some (.Subscript o i pos')) pos.line X.env=pure false): PS X (.Assign [.Subscript o i pos'] value pos) (aGh td ty tv):=by
 intro pins s σ H D I h;refine wpAny_Assign_Subscript (thn (hv pins s σ H _ I h) fun r s1 ⟨v,H1,I1,rv,q1⟩=>thn (ho pins s1 σ H1 _ I1 q1) fun u s2 ⟨x,H2,I2,rx,q2⟩=>thn (hi pins s2 σ H2 _ I2 q2) fun iv s3 ⟨y,H3,I3,ry,a,H4,ex,g,q3⟩=>?_) hs;subst ex;obtain rfl:u=Value.ref a:=rx;exact aA3 hu I3 g ry rv fun s4 I4=>⟨σ,H4,I4,q3⟩
end
theorem aBv{P:Program}{w:World}{H:Hp}(h:Heap)(hb:sysModules<h.objs.size):bZ P w H (h.push {cls:=.type "dict", data:=.dict #[]}) h.objs.size (.dK []):=⟨Nat.zero_le _,beq_eq_false_iff_ne.mpr (Ne.symm (Nat.ne_of_lt hb)),[],.nil,Heap.DictOf.new h⟩
def aEr:TE:=fun _ H Q=>∀p,H p=none->Q (.ref p) (upd H p (.dK []))
section
variable{X:Cx}{pos:Pos}
theorem oW:PE X (.Dict [] [] pos) aEr:=fun pins s σ H Q I h=>
 wpAny_Dict_empty ⟨.ref s.heap.objs.size,_,I.laid (a:=s.heap.objs.size) (o:=.dK []) (t':=s.toks) (fun _ _ q=>Heap.get?_push_of_some _ q) (Nat.le_refl _) (aBv s.heap I.big),rfl,h _ (I.hok.fresh (Nat.le_refl _))⟩
end
structure M1 (X:Cx) (o:Expr) (m:Str) (apos:Pos) (e:Expr) (cpos:Pos):Prop where
 base:attributeBase o m X.env (eval o X.env)=eval o X.env
 few:((backTo cpos (starEach [e] X.env)).all (fun x=>!x.1) && (backToKw cpos (keywordEach [] X.env)).all (fun x=>x.1.isSome)
   && decide (([e]:List Expr).length+([]:List Keyword).length+(if([]:List Keyword).isEmpty then 0 else 1)<30))=true
 line:(apos.endLine==cpos.line)=true
 trees:backTo cpos (starEach [e] X.env)=[(false,eval e X.env)]
def IsD(H:Hp)(a:Addr):Prop:=(∃kvs,Rd H a (.dK kvs))\/∃kvs,Rd H a (.dT kvs)
theorem aCk{X:Cx}{pins:List (Addr×Obj)}{σ:St}{H:Hp}{s:Shared}{a:Addr}(I:Inv X pins σ H s)(d:IsD H a): s.TypeIs (.ref a) "dict"/\(∀b,Value.ref a=.ref b->∃ob,s.heap.get? b=some ob/\ob.dict=none)/\(a==sysModules)=false:=by
 rcases d with⟨kvs,e⟩|⟨kvs,e⟩
 . obtain⟨_,hd,vs,_,dd⟩:=wM I.hok e;refine⟨dd.typeIs,fun b q=>?_,hd⟩;cases q;obtain⟨ob,_,_,h1,h2,_⟩:=dd;exact⟨ob,h1,h2.2.1⟩
 . obtain⟨_,hd,xs,_,dd⟩:=wL I.hok e;refine⟨dd.typeIs,fun b q=>?_,hd⟩;cases q;obtain⟨ob,_,_,h1,h2,_⟩:=dd;exact⟨ob,h1,h2.2.1⟩
section
variable{X:Cx}{pins:List (Addr×Obj)}{σ:St}{H:Hp}{s:Shared}{a:Addr}{y d:V}{u r:Value}{o:Option V}{A:Around}{E:Value->Shared->Prop}
theorem aFm{Q:Value->Shared->Prop}(hu:A.units+1<cLine)(I:Inv X pins σ H s)(g:pZ H a y o)(ry:bY y u)(h:∀w' s',Inv X pins σ H s'->bY (o.getD .non) w'->Q w' s'): wpAny (model X.prog X.w) A (call (.builtin "dict.get") [.ref a,u]) Q E s:=by
 rcases g with⟨kvs,k,e,ey,l⟩|⟨kvs,k,b,e,ey,eb,l⟩
 . subst ey;obtain⟨z,hd,vs,rel,dd⟩:=wM I.hok e;refine call_meetsIn PySem.F.slot_dict_get dd.typeIs PySem.F.entry_dict_get (PySem.F.args_dict_get_2 _ _) (meets_dict_get (cD X.prog X.w) a (wF ry) hd) ⟨_,dd.mapOf,h _ _ (I.tok _) ?_⟩;rw[l];exact(rel.val k).getD rfl
 . subst ey;cases (show u=Value.ref b from ry);obtain⟨z,hd,xs,rel,dd⟩:=wL I.hok e;refine call_meetsIn PySem.F.slot_dict_get dd.typeIs PySem.F.entry_dict_get (PySem.F.args_dict_get_2 _ _) (meetsH_dict_get (tupleKind (cD X.prog X.w)) a b hd) ⟨tupleKind_room_in1 hu,k,xs,qY I.hok eb,dd,h _ _ (I.tok _) ?_⟩;rw[l];exact(rel.val k).getD rfl
end
def aEs(td ty:TE):TE:=fun σ H Q=>td σ H fun x H1=>∃a,x=.ref a/\IsD H1 a/\ty σ H1 fun y H2=>∃o,pZ H2 a y o/\Q (o.getD .non) H2
def aEq(td ty:TE):TE:=fun σ H Q=>td σ H fun x H1=>∃a,x=.ref a/\IsD H1 a/\ty σ H1 fun y H2=>∃kvs k v,H2 a=some (.dK kvs)/\y=kV k/\lA kvs k=some v/\Q v (upd H2 a (.dK (tI kvs k)))
section
variable{X:Cx}{o e f:Expr}{apos cpos:Pos}{td ty tx:TE}
theorem aB0(hu:X.A.units+1<cLine)(ho:PE X o td)(he:PE X e ty)(m:M1 X o "get" apos e cpos):PE X (.Call (.Attribute o "get" apos) [e] [] cpos) (aEs td ty):=by
 intro pins s σ H Q I h;refine wpAny_Call_method m.base m.few m.line PySem.F.plainAttrs_dict PySem.F.slot_dict_get PySem.F.type_dict_get (thn (ho pins s σ H _ I h) fun u s1 ⟨x,H1,I1,rx,a,ex,d,q1⟩=>?_);subst ex;obtain rfl:u=Value.ref a:=rx;obtain⟨t1,t2,_⟩:=aCk I1 d;refine⟨t1,t2,?_⟩;rw[m.trees];refine Calls.callWith_builtin rfl (Calls.evalArgs_plain (Calls.spliced_cons (thn (he pins s1 σ H1 _ I1 q1) fun iv s2 ⟨y,H2,I2,ry,ov,g,q2⟩=>Calls.spliced_nil ?_)));exact aFm hu I2 g ry fun w' s3 I3 rw'=>⟨_,H2,I3,rw',q2⟩
theorem uR(ho:PE X o td)(he:PE X e ty)(m:M1 X o "pop" apos e cpos):PE X (.Call (.Attribute o "pop" apos) [e] [] cpos) (aEq td ty):=by
 intro pins s σ H Q I h;refine wpAny_Call_method m.base m.few m.line PySem.F.plainAttrs_dict PySem.F.slot_dict_pop PySem.F.type_dict_pop (thn (ho pins s σ H _ I h) fun u s1 ⟨x,H1,I1,rx,a,ex,d,q1⟩=>?_);subst ex;obtain rfl:u=Value.ref a:=rx;obtain⟨t1,t2,_⟩:=aCk I1 d;refine⟨t1,t2,?_⟩;rw[m.trees];refine Calls.callWith_builtin rfl (Calls.evalArgs_plain (Calls.spliced_cons (thn (he pins s1 σ H1 _ I1 q1) fun iv s2 ⟨y,H2,I2,ry,kvs,k,v,ea,ey,l,q2⟩=>Calls.spliced_nil ?_)));subst ey;exact aGv I2 ea ry l (.inl rfl) fun w' s3 I3 rw'=>⟨v,_,I3,rw',q2⟩
end
section
variable{κ:Type}[DecidableEq κ]
theorem aCv{kvs:List (κ×V)}{k:κ}{v:V}(h:lA kvs k=some v):k∈kvs.map (·.1):=by
 have q:(kvs.any fun kv=>decide (kv.1=k))=true:=by
   rw[kZ,h]
   all_goals rfl
 obtain⟨p,hp,e⟩:=List.any_eq_true.mp q;exact List.mem_map.mpr ⟨p,hp,of_decide_eq_true e⟩
end
theorem aFe{k:Key}{v:Value}(h:sY k v=true):bY (kV k) v:=by
 rcases bV h with⟨i,t,rfl,rfl⟩|⟨x,t,rfl,rfl⟩
 . exact⟨t,rfl⟩
 . exact⟨t,rfl⟩
theorem qX{P:Program}{w:World}{kvs:List (Key×V)}{vs:List (Key×Value)}{acc:Array Value}(rel:KV kvs vs)(its:ItemsOf (fun i v=>∃k x,vs[i]?=some (k,x)/\(cD P w).is k v=true) acc vs.length):bO (kvs.map fun kv=>kV kv.1) acc.toList:=by
 have len:=rel.length;refine sA (by rw[List.length_map,Array.length_toList (xs:=acc),its.1];exact len) fun i x u e1 e2=>?_;obtain⟨k,y,e3,e4⟩:=its.2 i u (by rw[<- Array.getElem?_toList];exact e2);have e5:(kvs.map (·.1))[i]?=some k:=by rw[rel.keys,List.getElem?_map,e3];rfl
 rw[List.getElem?_map] at e5 e1;cases e6:kvs[i]? with
 |none=>rw[e6] at e5;cases e5
 |some p=>
   rw[e6] at e5 e1;cases e5;cases e1;exact aFe e4
section
variable{prog:Program}{w:World}{A:Around}{E:Value->Shared->Prop}{s:Shared}
theorem tN{T:String}{r d:Addr}{n:Nat}{P:Nat->Value->Prop}{OK:Heap->Prop}{Q:List Value->Shared->Prop}(S:W.KdlSrc prog w T r d n P OK)(calm:A.handled=none)(ok:OK s.heap)(hn:n <= sizeLine)(h:∀(h':Heap)tk(acc:Array Value),(∀b o,s.heap.get? b=some o->h'.get? b=some o)->s.heap.objs.size <= h'.objs.size->ItemsOf P acc n->Q acc.toList {s with heap:=h',toks:=tk}): wpAny (model prog w) A (collect (.ref r)) Q E s:=by
 obtain⟨lr,ld⟩:=S.there _ ok;unfold collect;refine wpAny_bind (wpAny_runValue (codeAny_builtin PySem.F.entry_proto_collect ?_));rw[show A.under (.builtin "proto.collect" ⟨[.ref r],[]⟩)=A.in1 from Around.under_plainId PySem.F.plain_proto_collect _];refine wpAny_bind (m:=newList []) (wpAny_newObj_type (wpAny_pure ⟨plainId_quiet PySem.F.plain_list_iadd _,codeAny_builtin PySem.F.entry_list_iadd ?_⟩));rw[show A.under (.builtin "list.__iadd__" ⟨[.ref s.heap.objs.size,.ref r],[]⟩)=A.in1 from Around.under_plainId PySem.F.plain_list_iadd _];let h1:=s.heap.push {cls:=.type "list", data:=.seq ([]:List Value).toArray};show wpAny _ A.in1 (Builtin.List.listExtendWith (.ref s.heap.objs.size) (.ref r) (.ref s.heap.objs.size)) _ _ {s with heap:=h1};let R0:Result->Shared->Prop:=fun r s'=>r=.ok (.ret (.ref s.heap.objs.size))/\∃(h':Heap)(tk:Nat)(acc:Array Value)(c:Nat),s'={s with heap:=h',toks:=tk}/\(∀b o,b≠s.heap.objs.size->h1.get? b=some o->h'.get? b=some o)/\h'.get? s.heap.objs.size=some {cls:=.type "list", data:=.seq acc c}/\ItemsOf P acc n;have fin:∀s' r,R0 r s'->∃v,r=.ok (.ret v)/\v=.ref s.heap.objs.size/\wpAny (model prog w) A (do let o <- load s.heap.objs.size;match o.data with|.seq xs _=>pure xs.toList|_=>unsupported "internal:collect") Q E s':=by
   rintro s' r ⟨rfl,h',tk,acc,c,rfl,keep,o',its⟩;refine⟨_,rfl,rfl,wpAny_bind (wpAny_load o' (wpAny_pure ?_))⟩;exact h h' tk acc (fun b o e=>keep b o (Nat.ne_of_lt (Heap.lt_size e)) (Heap.get?_push_of_some _ e)) (Nat.le_of_lt (Heap.lt_size o')) its
 refine wpAny_mono (W.kdl_extend (R:=R0) (s:={s with heap:=h1}) S calm (S.keep _ _ ok fun b _ o e=>Heap.get?_push_of_some _ e) s.heap.objs.size (Nat.ne_of_gt lr) (Nat.ne_of_gt ld) _ _ (Heap.get?_push_size _ rfl) (fun h' tk acc c' keep o' its=>⟨rfl,h',tk,acc,c',rfl,keep,o',its⟩) hn) (fun f s' q=>?_) fun e s' q=>?_
 . match f,q with
   |.done f,q=>
     obtain⟨v,e1,e2,q2⟩:=fin s' _ q;cases e1;subst e2;exact q2
   |.again c,q=>
     refine⟨q.1,codeAny_mono q.2 fun r s2 z=>?_⟩;obtain⟨v,e1,e2,q⟩:=fin s2 _ z;subst e1 e2;exact q
 . obtain⟨z,_⟩:=q;cases z
theorem vP{T:String}{r d:Addr}{n:Nat}{P:Nat->Value->Prop}{OK:Heap->Prop}{Q:Value->Shared->Prop}{ns:List Int}(S:W.KdlSrc prog w T r d n P OK)(calm:A.handled=none)(ok:OK s.heap)(hn:n<64)(num:∀acc:Array Value,ItemsOf P acc n->IntsAre acc.toList ns)(h:∀(h':Heap)tk L(out:Array Value)(ns':List Int)c,(∀b o,s.heap.get? b=some o->h'.get? b=some o)->s.heap.objs.size <= L->h'.get? L=some (seqObj "list" out c)->IntsAre out.toList ns'->ns'.Perm ns->ns'.Pairwise (· <= ·)->Q (.ref L) {s with heap:=h',toks:=tk}): wpAny (model prog w) A (call (.builtin "sorted") [.ref r]) Q E s:=by
 refine PySem.Calls.call_function_entry kind_sorted plain_sorted entry_sorted (args_sorted1 _) ?_;unfold Builtin.«sorted»;refine wpAny_bind (m:=checkCount "sorted" 1 1 _) (wpAny_pure (wpAny_bind (tN S (by simp[calm]) ok (Nat.le_of_lt (Nat.lt_of_lt_of_le hn (by decide))) fun h1 tk acc old big its=>?_)));have IA:=num acc its;have la:acc.toList.length<64:=by rw[Array.length_toList,its.1];exact hn
 refine wpAny_bind (wpAny_newList (hsz:=Nat.le_of_lt (Nat.lt_of_lt_of_le la (by decide))) ?_);have oL:(h1.push {cls:=.type "list", data:=.seq acc.toList.toArray}).get? h1.objs.size=some (seqObj "list" acc.toList.toArray 0):=Heap.get?_push_size _ rfl;refine wpAny_bind (wpAny_holding (wpAny_call_entry slot_list_sort ⟨_,oL,rfl⟩ entry_list_sort (list_sort_tree oL IA la fun out ns' a1 a2 a3=>⟨_,rfl,?_⟩) (args_list_sort _)));obtain⟨c,o'⟩:=sortedHeap_at (out:=out) oL;refine wpAny_pure ⟨_,rfl,h _ tk _ out ns' c (fun b o e=>?_) big o' a1 a2 a3⟩;have e1:=old b o e;have bl:b<h1.objs.size:=Heap.lt_size e1;rw[sortedHeap_old (Nat.ne_of_lt bl) (by rw[Heap.size_push];exact Nat.lt_succ_of_lt bl)];exact Heap.get?_push_of_some _ e1
end
section
variable{X:Cx}
theorem vE{pins:List (Addr×Obj)}{σ:St}{H:Hp}{s:Shared}{a:Addr}{kvs:List (Key×V)}(I:Inv X pins σ H s)(e:H a=some (.dK kvs)): ∃vs ep,KV kvs vs/\kvs.length <= sizeLine/\(a==sysModules)=false/\s.heap.DictAt (cD X.prog X.w) a vs ep:=by
 obtain⟨z,hd,vs,rel,o,es,ep,h1,r⟩:=aE2 I.hok e;exact⟨vs,ep,rel,z,hd,o,es,h1,r⟩
theorem wR(hc:X.calm=true):iA X (.type "list") (fun xs H Q=>∃(a:Addr)(kvs:List (Key×V)),xs=[.ref a]/\H a=some (.dK kvs)/\∀l,H l=none->Q (.ref l) (upd H l (.lst (kvs.map fun kv=>kV kv.1)))):=by
 intro pins s σ H xs us Q I r h;obtain⟨a,kvs,rfl,ha,q⟩:=h;obtain⟨u,rfl,rx⟩:=nW r;cases rx;obtain⟨vs,ep,rel,z,hd,D⟩:=vE I ha;refine W.kdl_call (W.kdl_dict hd) (I.ok.hd hc) D (by rw[<- rel.length];exact z) fun h' tk acc c keep o its=>?_;exact⟨.ref s.heap.objs.size,_,I.laid (t':=tk) keep (Nat.le_refl _) (show bZ X.prog X.w _ _ _ (.lst _) from⟨by rw[List.length_map];exact z,acc.toList,c,qX rel its,o⟩),rfl,q _ (I.hok.fresh (Nat.le_refl _))⟩
theorem rO(hc:X.calm=true):iA X (.builtin "sorted") (fun xs H Q=>∃(a:Addr)(kvs:List (Key×V))(ns:List Int),xs=[.ref a]/\H a=some (.dK kvs)/\kvs.map (·.1)=ns.map Sum.inl/\ns.length<64 /\ ∀l(ns':List Int),H l=none->ns'.Perm ns->ns'.Pairwise (· <= ·)->Q (.ref l) (upd H l (.lst (ns'.map V.int)))):=by
 intro pins s σ H xs us Q I r h;obtain⟨a,kvs,ns,rfl,ha,hk,hn,q⟩:=h;obtain⟨u,rfl,rx⟩:=nW r;cases rx;obtain⟨vs,ep,rel,z,hd,D⟩:=vE I ha;have len:kvs.length=ns.length:=by have:=congrArg List.length hk;simpa using this
 refine vP (ns:=ns) (W.kdl_dict hd) (I.ok.hd hc) D (by rw[<- rel.length];omega) (fun acc its=>?_) fun h' tk l out ns' c old big ol IA p1 p2=>?_
 . have v:=qX rel its;have e:(kvs.map fun kv=>kV kv.1)=ns.map V.int:=by
     have:(kvs.map fun kv=>kV kv.1)=(kvs.map (·.1)).map kV:=by rw[List.map_map];rfl
     rw[this,hk,List.map_map];rfl
   rw[e] at v;exact nM v
 . exact⟨.ref l,_,I.laid (t':=tk) old big (show bZ X.prog X.w _ _ _ (.lst (ns'.map V.int)) from⟨by rw[List.length_map,p1.length_eq];exact Nat.le_of_lt (Nat.lt_of_lt_of_le hn (by decide)),out.toList,c,iV IA,ol⟩),rfl,q l ns' (I.hok.fresh big) p1 p2⟩
end
open PySem
abbrev aCu(f0:Value)(b:Bool)(TI TO:Addr):Obj:={cls:=.type "zip", data:=.fields #[f0,.bool b,.bool false,.ref TI,.ref TO]}
section
variable{prog:Program}{w:World}{A:Around}{E:Value->Shared->Prop}{s:Shared}
theorem aGy{a:Addr}{o:Obj}{Q:Option Obj->Shared->Prop}(ho:s.heap.get? a=some o)(h:Q (some o) s):wpAny (model prog w) A (loadIfAlive a) Q E s:=by
 intro Γ hG p;unfold loadIfAlive;rw[Sem.wp_loadIfAlive,ho,Sem.wp_pure];exact h
theorem uV{z TI TO T:Addr}{b:Bool}{oT:Obj}{Q:Bool->Shared->Prop}(hz:s.heap.get? z=some (aCu (rawInt T) b TI TO))(hT:s.heap.get? T=some oT)(h:∀h',h'.get? z=some (aCu (rawInt T) true TI TO)->Heap.SameBut z s.heap h'->Q false {s with heap:=h'}):wpAny (model prog w) A (Builtin.SmallTypes.ownedTupleIsFree (.ref z)) Q E s:=by
 unfold Builtin.SmallTypes.ownedTupleIsFree;refine wpAny_bind (wpAny_field hz rfl (x:=rawInt T) rfl ?_);show wpAny _ _ (loadIfAlive ((T:Int).toNat) >>= _) _ _ _;rw[Int.toNat_natCast];refine wpAny_bind (aGy hT ?_);refine wpAny_bind (wpAny_field hz rfl (x:=.bool b) rfl ?_);cases b with
 |true=>exact wpAny_pure (h s.heap hz ⟨rfl,fun _ _=>rfl⟩)
 |false=>exact wpAny_bind (wpAny_setField_rec hz (by simp) fun h' hz' sb=>wpAny_pure (h h' hz' sb))
theorem zN{z TI TO T i1 i2 l1 l2:Addr}{b:Bool}{oT:Obj}{k1 k2:Nat}{xs ys:Array Value}{x y:Value}{Q:Value->Shared->Prop}(D:ZipApart z TI TO i1 i2 l1 l2)(hz:s.heap.get? z=some (aCu (rawInt T) b TI TO))(hT:s.heap.get? T=some oT)(hTI:IsPair s.heap TI (.ref i1) (.ref i2))(h1:s.heap.IsListIter i1 l1 k1)(h2:s.heap.IsListIter i2 l2 k2)(hl1:s.heap.IsList l1 xs)(hl2:s.heap.IsList l2 ys)(hx:xs[k1]?=some x)(hy:ys[k2]?=some y)(h:∀h',h'.get? z=some (aCu (rawInt T) true TI TO)->h'.IsListIter i1 l1 (k1+1)->h'.IsListIter i2 l2 (k2+1)->IsPair h' s.heap.objs.size x y->h'.objs.size=s.heap.objs.size+1 -> (∀c o,c≠z->c≠i1->c≠i2->s.heap.get? c=some o->h'.get? c=some o)->Q (.ref s.heap.objs.size) {s with heap:=h'}): wpAny (model prog w) A (Builtin.«zip.__next__» ⟨[.ref z],[]⟩) (fun fin s'=>∃v,fin=.done (.ret v)/\Q v s') E s:=by
 refine wpAny_bind (m:=field (.ref z) 2) (wpAny_field hz rfl (x:=.bool false) rfl ?_);refine wpAny_bind (m:=field (.ref z) 3) (wpAny_field hz rfl (x:=.ref TI) rfl (wpAny_bind (wpAny_seqItems hTI rfl ?_)));refine wpAny_bind (m:=Builtin.SmallTypes.ownedTupleIsFree (.ref z)) (uV hz hT fun h3 z3 b3=>?_);rw[if_neg (show ¬ false=true from fun q=>nomatch q)];have k3:=b3.extBut;refine wpAny_bind ?_;rw[<- Array.forIn_toList];show wpAny _ _ (forIn [Value.ref i1,Value.ref i2] _ _) _ _ _;simp only[List.forIn_cons,List.forIn_nil];refine wpAny_bind (wpAny_bind (wpAny_holding (wpAny_bind (m:=Builtin.SmallTypes.nextOf (.ref i1)) (wpAny_nextOf_list_item (s:={s with heap:=h3}) (h1.extBut k3 D.i1z) (hl1.extBut k3 D.l1z) hx fun h4 g4 b4=>wpAny_pure (wpAny_pure ?_)))));have k4:=b4.extBut;refine wpAny_bind (wpAny_bind (wpAny_holding (wpAny_bind (m:=Builtin.SmallTypes.nextOf (.ref i2)) (wpAny_nextOf_list_item (s:={s with heap:=h4}) ((h2.extBut k3 D.i2z).extBut k4 D.i12.symm) ((hl2.extBut k3 D.l2z).extBut k4 D.l2i1) hy fun h5 g5 b5=>wpAny_pure (wpAny_pure (wpAny_pure ?_))))));have k5:=b5.extBut;have sz:h5.objs.size=s.heap.objs.size:=by rw[b5.1];show h4.objs.size=_;rw[b4.1];show h3.objs.size=_;rw[b3.1]
 have old:∀c o,c≠z->c≠i1->c≠i2->s.heap.get? c=some o->h5.get? c=some o:=fun c o c1 c2 c3 e=>k5 c o c3 (k4 c o c2 (k3 c o c1 e));have pu:∀c o,h5.get? c=some o->(h5.push {cls:=.type "tuple", data:=.seq #[x,y]}).get? c=some o:=fun c o e=>Heap.get?_push_of_some _ e;refine wpAny_bind (m:=newTuple [x,y]) (wpAny_newTuple (wpAny_pure ⟨_,rfl,?_⟩));show Q (.ref h5.objs.size) {s with heap:=h5.push {cls:=.type "tuple", data:=.seq #[x,y]}};rw[sz];refine h _ (pu _ _ (k5 _ _ D.i2z.symm (k4 _ _ D.i1z.symm z3))) ((g4.extBut k5 D.i12).at fun o e=>pu _ _ e) (g5.at fun o e=>pu _ _ e) ?_ (by rw[Heap.size_push,sz]) fun c o c1 c2 c3 e=>pu c o (old c o c1 c2 c3 e);rw[<- sz];exact Heap.get?_push_size _ rfl
theorem aBm{z TI TO T i1 i2 l1 l2:Addr}{b:Bool}{oT:Obj}{k1 k2:Nat}{xs ys:Array Value}{Q:Fin->Shared->Prop}(calm:A.handled=none)(D:ZipApart z TI TO i1 i2 l1 l2)(hz:s.heap.get? z=some (aCu (rawInt T) b TI TO))(hT:s.heap.get? T=some oT)(hTI:IsPair s.heap TI (.ref i1) (.ref i2))(h1:s.heap.IsListIter i1 l1 k1)(h2:s.heap.IsListIter i2 l2 k2)(hl1:s.heap.IsList l1 xs)(hl2:s.heap.IsList l2 ys)(no:xs[k1]?=none\/ys[k2]?=none)(h:∀h' e,(∀c o,c≠z->c≠i1->c≠i2->s.heap.get? c=some o->h'.get? c=some o)->(∃o,h'.get? e=some o/\o.cls=.type "StopIteration")->E (.ref e) {s with heap:=h'}): wpAny (model prog w) A (Builtin.«zip.__next__» ⟨[.ref z],[]⟩) Q E s:=by
 refine wpAny_bind (m:=field (.ref z) 2) (wpAny_field hz rfl (x:=.bool false) rfl ?_);refine wpAny_bind (m:=field (.ref z) 3) (wpAny_field hz rfl (x:=.ref TI) rfl (wpAny_bind (wpAny_seqItems hTI rfl ?_)));refine wpAny_bind (m:=Builtin.SmallTypes.ownedTupleIsFree (.ref z)) (uV hz hT fun h3 z3 b3=>?_);rw[if_neg (show ¬ false=true from fun q=>nomatch q)];have k3:=b3.extBut;refine wpAny_bind ?_;rw[<- Array.forIn_toList];show wpAny _ _ (forIn [Value.ref i1,Value.ref i2] _ _) _ _ _;simp only[List.forIn_cons,List.forIn_nil];cases hx:xs[k1]? with
 |none=>exact wpAny_bind (wpAny_bind (wpAny_holding (wpAny_bind (m:=Builtin.SmallTypes.nextOf (.ref i1)) (wpAny_nextOf_list_end (s:={s with heap:=h3}) calm (h1.extBut k3 D.i1z) (hl1.extBut k3 D.l1z) hx fun h4 e k4 st=>h h4 e (fun c o c1 c2 _ q=>k4 c o c2 (k3 c o c1 q)) st))))
 |some x=>
   refine wpAny_bind (wpAny_bind (wpAny_holding (wpAny_bind (m:=Builtin.SmallTypes.nextOf (.ref i1)) (wpAny_nextOf_list_item (s:={s with heap:=h3}) (h1.extBut k3 D.i1z) (hl1.extBut k3 D.l1z) hx fun h4 g4 b4=>wpAny_pure (wpAny_pure ?_)))));have k4:=b4.extBut;have hy:ys[k2]?=none:=no.resolve_left fun q=>by rw[hx] at q;cases q
   exact wpAny_bind (wpAny_bind (wpAny_holding (wpAny_bind (m:=Builtin.SmallTypes.nextOf (.ref i2)) (wpAny_nextOf_list_end (s:={s with heap:=h4}) calm ((h2.extBut k3 D.i2z).extBut k4 D.i12.symm) ((hl2.extBut k3 D.l2z).extBut k4 D.l2i1) hy fun h5 e k5 st=>h h5 e (fun c o c1 c2 c3 q=>k5 c o c3 (k4 c o c2 (k3 c o c1 q))) st))))
structure ZS (h:Heap) (z TI TO i1 i2 a b:Addr) (i:Nat):Prop where
 ti:IsPair h TI (.ref i1) (.ref i2)
 it1:h.IsListIter i1 a i
 it2:h.IsListIter i2 b i
 ob:(IsZip h z TI TO .none/\∃u v,IsPair h TO u v)\/∃(T:Addr)(f:Bool)(oT:Obj),h.get? z=some (aCu (rawInt T) f TI TO)/\h.get? T=some oT/\T≠z/\T≠TO/\T≠i1/\T≠i2
theorem ZS.stay{h h':Heap}{z TI TO i1 i2 a b:Addr}{i:Nat}(x:ZS h z TI TO i1 i2 a b i)(k:∀c o,h.get? c=some o->h'.get? c=some o):ZS h' z TI TO i1 i2 a b i:=⟨k _ _ x.ti,x.it1.at fun o e=>k _ _ e,x.it2.at fun o e=>k _ _ e,x.ob.imp (fun⟨p,u,v,q⟩=>⟨k _ _ p,u,v,k _ _ q⟩) fun⟨T,f,oT,p,q,r⟩=>⟨T,f,oT,k _ _ p,k _ _ q,r⟩⟩
theorem tX{z TI TO i1 i2 l1 l2:Addr}{i:Nat}{xs ys:Array Value}{x y:Value}{Q:Option Value->Shared->Prop}(D:ZipApart z TI TO i1 i2 l1 l2)(Z:ZS s.heap z TI TO i1 i2 l1 l2 i)(hl1:s.heap.IsList l1 xs)(hl2:s.heap.IsList l2 ys)(hx:xs[i]?=some x)(hy:ys[i]?=some y)(h:∀h',ZS h' z TI TO i1 i2 l1 l2 (i+1)->IsPair h' s.heap.objs.size x y->h'.objs.size=s.heap.objs.size+1->(∀c o,c≠z->c≠TO->c≠i1->c≠i2->s.heap.get? c=some o->h'.get? c=some o)->Q (some (.ref s.heap.objs.size)) {s with heap:=h'}): wpAny (model prog w) A (pyNext (.ref z)) Q E s:=by
 have lt:∀{c:Addr}{o:Obj},s.heap.get? c=some o->s.heap.objs.size≠c:=fun e=>Nat.ne_of_gt (Heap.lt_size e);have n1:s.heap.objs.size≠i1:=by obtain⟨o,e,_⟩:=Z.it1;exact lt e
 have n2:s.heap.objs.size≠i2:=by obtain⟨o,e,_⟩:=Z.it2;exact lt e
 rcases Z.ob with⟨hz,u,v,hTO⟩|⟨T,f,oT,hz,hT,t1,t2,t3,t4⟩
 . refine wpAny_pyNext_zip_item D hz Z.ti hTO Z.it1 Z.it2 hl1 hl2 hx hy fun h' a1 a2 a3 a4 a5 a6 a7=>h h' ⟨a7 _ _ D.TIz D.TITO D.TIi1 D.TIi2 Z.ti,a3,a4,.inr ⟨_,false,_,a1,a5,lt hz,lt hTO,n1,n2⟩⟩ a5 a6 a7
 . have ty:s.TypeIs (.ref z) "zip":=⟨_,hz,rfl⟩;unfold pyNext;refine wpAny_bind (wpAny_attempt (wpAny_callSpecial?_slot (name:=Str.ofString "__next__") ty F.slot_zip_next (wpAny_call_entry F.slot_zip_next ty F.entry_zip_next (zN D hz hT Z.ti Z.it1 Z.it2 hl1 hl2 hx hy fun h' a1 a3 a4 a5 a6 a7=>wpAny_pure ?_) (F.args_zip_next_1 _))));exact h h' ⟨a7 _ _ D.TIz D.TIi1 D.TIi2 Z.ti,a3,a4,.inr ⟨T,true,oT,a1,a7 _ _ t1 t3 t4 hT,t1,t2,t3,t4⟩⟩ a5 a6 fun c o c1 _ c3 c4 e=>a7 c o c1 c3 c4 e
theorem tW{z TI TO i1 i2 l1 l2:Addr}{i:Nat}{xs ys:Array Value}{Q:Option Value->Shared->Prop}(calm:A.handled=none)(D:ZipApart z TI TO i1 i2 l1 l2)(Z:ZS s.heap z TI TO i1 i2 l1 l2 i)(hl1:s.heap.IsList l1 xs)(hl2:s.heap.IsList l2 ys)(no:xs[i]?=none\/ys[i]?=none)(h:∀h',(∀c o,c≠z->c≠TO->c≠i1->c≠i2->s.heap.get? c=some o->h'.get? c=some o)->Q none {s with heap:=h'}):wpAny (model prog w) A (pyNext (.ref z)) Q E s:=by
 rcases Z.ob with⟨hz,u,v,hTO⟩|⟨T,f,oT,hz,hT,t1,t2,t3,t4⟩
 . exact wpAny_pyNext_zip_end calm D hz Z.ti hTO Z.it1 Z.it2 hl1 hl2 no h
 . have ty:s.TypeIs (.ref z) "zip":=⟨_,hz,rfl⟩;unfold pyNext;refine wpAny_bind (wpAny_attempt (wpAny_callSpecial?_slot (name:=Str.ofString "__next__") ty F.slot_zip_next (wpAny_call_entry F.slot_zip_next ty F.entry_zip_next (aBm calm D hz hT Z.ti Z.it1 Z.it2 hl1 hl2 no fun h' e k st=>?_) (F.args_zip_next_1 _))));exact wpAny_bind (wpAny_isInstance (T := "StopIteration") (b:=true) st isSubtype_stop (wpAny_pure (h h' fun c o c1 _ c3 c4 q=>k c o c1 c3 c4 q)))
end
structure kW (h:Heap) (low:Nat) (xs ys:Array Value) (ts:List Addr):Prop where
 pair:∀(j:Nat)t,ts[j]?=some t->∃x y,xs[j]?=some x/\ys[j]?=some y/\IsPair h t x y
 low:∀t∈ts,low <= t
 nd:ts.Nodup
theorem kW.stay{h h':Heap}{low:Nat}{xs ys:Array Value}{ts:List Addr}(p:kW h low xs ys ts)(k:∀t∈ts,∀o,h.get? t=some o->h'.get? t=some o):kW h' low xs ys ts:=⟨fun j t e=>let ⟨x,y,a,b,c⟩:=p.pair j t e;⟨x,y,a,b,k t (List.mem_of_getElem? e) _ c⟩,p.low,p.nd⟩
theorem kW.lt{h:Heap}{low:Nat}{xs ys:Array Value}{ts:List Addr}(p:kW h low xs ys ts){t:Addr}(ht:t∈ts):t<h.objs.size:=by
 obtain⟨j,hj⟩:=List.mem_iff_getElem?.mp ht;obtain⟨x,y,_,_,c⟩:=p.pair j t hj;exact Heap.lt_size c
theorem kW.snoc{h:Heap}{low:Nat}{xs ys:Array Value}{ts:List Addr}{t:Addr}{x y:Value}(p:kW h low xs ys ts)(hx:xs[ts.length]?=some x)(hy:ys[ts.length]?=some y)(ht:IsPair h t x y)(hl:low <= t)(hn:t∉ts):kW h low xs ys (ts++[t]):=by
 refine⟨fun j u e=>?_,fun u hu=>?_,?_⟩
 . by_cases hj:j<ts.length
   . rw[List.getElem?_append_left hj] at e;exact p.pair j u e
   . rw[List.getElem?_append_right (by omega)] at e;have h0:j - ts.length=0:=by
       have:=(List.getElem?_eq_some_iff.mp e).1;simp at this;omega
     rw[h0] at e;cases e;have hj':j=ts.length:=by omega
     subst hj';exact⟨x,y,hx,hy,ht⟩
 . rcases List.mem_append.mp hu with q|q
   . exact p.low u q
   . rw[List.mem_singleton.mp q];exact hl
 . refine List.nodup_append.mpr ⟨p.nd,List.pairwise_singleton _ _,fun a ha b hb q=>?_⟩;rw[List.mem_singleton.mp hb] at q;exact hn (q▸ha)
section
variable{prog:Program}{w:World}{A:Around}{R:Result->Shared->Prop}
def aCs(S z TI TO i1 i2 l1 l2:Addr):Prop:=S≠z/\S≠TI/\S≠TO/\S≠i1/\S≠i2/\S≠l1/\S≠l2
theorem aBt{S z TI TO i1 i2 l1 l2:Addr}{xs ys:Array Value}{res:Value}{low:Nat}(calm:A.handled=none)(D:ZipApart z TI TO i1 i2 l1 l2)(ap:aCs S z TI TO i1 i2 l1 l2)(lows:S<low/\z<low/\TI<low/\TO<low/\i1<low/\i2<low)(small:min xs.size ys.size <= sizeLine):
   ∀(left:Nat)(s:Shared)(acc:Array Value)(c:Nat)(ts:List Addr),ts.length+left=min xs.size ys.size->ZS s.heap z TI TO i1 i2 l1 l2 ts.length->s.heap.IsList l1 xs->s.heap.IsList l2 ys->low <= s.heap.objs.size ->
     s.heap.get? S=some {cls:=.type "list", data:=.seq acc c}->acc.toList=ts.map Value.ref->kW s.heap low xs ys ts ->
     (∀(h':Heap)acc' c' ts',ts'.length=min xs.size ys.size->h'.get? S=some {cls:=.type "list", data:=.seq acc' c'}->acc'.toList=ts'.map Value.ref->kW h' low xs ys ts'->(∀b o,b<low->b≠S->b≠z->b≠TO->b≠i1->b≠i2->s.heap.get? b=some o->h'.get? b=some o)->R (.ok (.ret res)) {s with heap:=h'}) ->
     codeAny (model prog w) A (.builtin "list.extend.loop" ⟨[.ref S,.ref z,res],[]⟩) R s:=by
 obtain⟨a1,a2,a3,a4,a5,a6,a7⟩:=ap;obtain⟨w1,w2,w3,w4,w5,w6⟩:=lows;have far:∀{a b:Addr},low <= a->b<low->a≠b:=fun p q=>Nat.ne_of_gt (Nat.lt_of_lt_of_le q p);intro left;induction left with
 |zero=>
   intro s acc c ts hk Z hl1 hl2 big hS ha T k;refine codeAny_builtin F.entry_extend_loop ?_;rw[show A.under (.builtin "list.extend.loop" ⟨[.ref S,.ref z,res],[]⟩)=A.in1 from Around.under_plainId F.plain_extend_loop _];have no:xs[ts.length]?=none\/ys[ts.length]?=none:=by
     rcases Nat.le_total xs.size ys.size with q|q
     . exact .inl (Array.getElem?_eq_none (by omega))
     . exact .inr (Array.getElem?_eq_none (by omega))
   refine wpAny_bind (m:=pyNext (.ref z)) (tW (by simp[calm]) D Z hl1 hl2 no fun h' kp=>wpAny_pure (k h' acc c ts (by omega) (kp _ _ a1 a3 a4 a5 hS) ha (T.stay fun t ht o e=>?_) fun b o _ b1 b2 b3 b4 b5 e=>kp b o b2 b3 b4 b5 e));exact kp t o (far (T.low t ht) w2) (far (T.low t ht) w4) (far (T.low t ht) w5) (far (T.low t ht) w6) e
 |succ left ih=>
   intro s acc c ts hk Z hl1 hl2 big hS ha T k;refine codeAny_builtin F.entry_extend_loop ?_;rw[show A.under (.builtin "list.extend.loop" ⟨[.ref S,.ref z,res],[]⟩)=A.in1 from Around.under_plainId F.plain_extend_loop _];have lx:ts.length<xs.size:=by omega
   have ly:ts.length<ys.size:=by omega
   have hx:xs[ts.length]?=some xs[ts.length]:=Array.getElem?_eq_getElem lx;have hy:ys[ts.length]?=some ys[ts.length]:=Array.getElem?_eq_getElem ly;have accl:acc.size=ts.length:=by rw[<- Array.length_toList,ha,List.length_map]
   refine wpAny_bind (m:=pyNext (.ref z)) (tX D Z hl1 hl2 hx hy fun h1 Z1 P1 sz kp=>?_);have hS1:=kp _ _ a1 a3 a4 a5 hS;have up:∀b o,b≠S->h1.get? b=some o->(h1.update S (Obj.mapSeq (·.push (.ref s.heap.objs.size)))).get? b=some o:=fun b o nb e=>(Heap.get?_update_other _ _ (Ne.symm nb)).trans e;have big1:s.heap.objs.size≠S:=far big w1;have T1:kW h1 low xs ys ts:=T.stay fun t ht o e=>by
     exact kp t o (far (T.low t ht) w2) (far (T.low t ht) w4) (far (T.low t ht) w5) (far (T.low t ht) w6) e
   have new:s.heap.objs.size∉ts:=fun q=>Nat.lt_irrefl _ (T.lt q);have T2:=T1.snoc hx hy P1 big new;refine wpAny_bind (m:=updateSeq S (·.push (.ref s.heap.objs.size))) (wpAny_updateSeq (s:={s with heap:=h1}) hS1 rfl (wpAny_pure ⟨plainId_quiet F.plain_extend_loop _,?_⟩) (by rw[accl];omega) (by show(acc.push _).size <= sizeLine+1;rw[Array.size_push,accl];omega));refine ih {s with heap:=h1.update S (Obj.mapSeq (·.push (.ref s.heap.objs.size)))} (acc.push (.ref s.heap.objs.size)) _ (ts++[s.heap.objs.size]) (by rw[List.length_append,List.length_singleton];omega) ?_ ((hl1.at fun o e=>kp _ _ D.l1z D.l1TO D.l1i1 D.l1i2 e).at fun o e=>up _ _ (Ne.symm a6) e) ((hl2.at fun o e=>kp _ _ D.l2z D.l2TO D.l2i1 D.l2i2 e).at fun o e=>up _ _ (Ne.symm a7) e) ?_ (Heap.get?_update_self _ hS1 rfl) (by rw[Array.toList_push,ha,List.map_append];rfl) (T2.stay fun t ht o e=>up t o ?_ e) ?_
   . rw[List.length_append,List.length_singleton];refine⟨up _ _ (Ne.symm a2) Z1.ti,Z1.it1.at fun o e=>up _ _ (Ne.symm a4) e,Z1.it2.at fun o e=>up _ _ (Ne.symm a5) e,?_⟩;rcases Z1.ob with⟨p,u,v,q⟩|⟨T,f,oT,p,q,r⟩
     . exact .inl ⟨up _ _ (Ne.symm a1) p,u,v,up _ _ (Ne.symm a3) q⟩
     . by_cases eT:T=S
       . subst eT;exact .inr ⟨T,f,_,up _ _ (Ne.symm a1) p,Heap.get?_update_self _ hS1 rfl,r⟩
       . exact .inr ⟨T,f,oT,up _ _ (Ne.symm a1) p,up _ _ eT q,r⟩
   . show low <= (h1.update S _).objs.size;rw[(Heap.SameBut.update ..).1,sz];omega
   . rcases List.mem_append.mp ht with q|q
     . exact far (T.low t q) w1
     . rw[List.mem_singleton.mp q];exact big1
   . intro h' acc' c' ts' q1 q2 q3 q4 q5;exact k h' acc' c' ts' q1 q2 q3 q4 fun b o b0 b1 b2 b3 b4 b5 e=>q5 b o b0 b1 b2 b3 b4 b5 (up b o b1 (kp b o b2 b3 b4 b5 e))
end
theorem vM:typeLookup (.type "zip") "__len__"=pure none:=typeLookup_type ..▸builtinLookup_eq_fast ..▸by kernel_rfl
theorem rZ:typeLookup (.type "zip") "__length_hint__"=pure none:=typeLookup_type ..▸builtinLookup_eq_fast ..▸by kernel_rfl
section
variable{prog:Program}{w:World}{A:Around}{E:Value->Shared->Prop}{s:Shared}
theorem aBk{z:Addr}{Q:Bool->Shared->Prop}(ty:s.TypeIs (.ref z) "zip")(h:Q true s):wpAny (model prog w) A (Builtin.List.listLengthHint (.ref z)) Q E s:=by
 unfold Builtin.List.listLengthHint;refine wpAny_bind (wpAny_specialOf ty vM ?_);exact wpAny_bind (m:=specialOf (.ref z) (Str.ofString "__length_hint__")) (wpAny_specialOf ty rZ (wpAny_pure h))
theorem xA{L:Addr}{n:Nat}{Q:Unit->Shared->Prop}(o:s.heap.get? L=some {cls:=.type "list", data:=.seq #[] n})(h:∀h' n',Heap.SameBut L s.heap h'->h'.get? L=some {cls:=.type "list", data:=.seq #[] n'}->Q () {s with heap:=h'}):wpAny (model prog w) A (Builtin.List.listTouch (.ref L)) Q E s:=by
 have o1:=Heap.get?_update_self (Obj.mapSeq (·.push Value.none)) o rfl;have o2:=Heap.get?_update_self (Obj.mapSeq (·.pop)) o1 rfl;exact wpAny_bind (m:=updateSeq L (·.push .none)) (wpAny_updateSeq o rfl (wpAny_updateSeq (hz:=by seq_fits) o1 rfl (h _ _ ((Heap.SameBut.update ..).trans (Heap.SameBut.update ..)) o2)))
structure aAc (s:Shared) (z TO i1 i2:Addr) (xs ys:Array Value) (s':Shared):Prop where
 old:∀b o,b≠z->b≠TO->b≠i1->b≠i2->s.heap.get? b=some o->s'.heap.get? b=some o
 eq:∃h,s'={s with heap:=h}
 lst:∃(acc:Array Value)(c:Nat)(ts:List Addr),s'.heap.get? s.heap.objs.size=some {cls:=.type "list", data:=.seq acc c}/\acc.toList=ts.map Value.ref/\ts.length=min xs.size ys.size/\kW s'.heap (s.heap.objs.size+1) xs ys ts
theorem aBg{z TI TO i1 i2 l1 l2:Addr}{xs ys:Array Value}{Q:Value->Shared->Prop}(calm:A.handled=none)(D:ZipApart z TI TO i1 i2 l1 l2)(hz:IsZip s.heap z TI TO .none)(hTI:IsPair s.heap TI (.ref i1) (.ref i2))(hTO:∃u v,IsPair s.heap TO u v)(h1:s.heap.IsListIter i1 l1 0)(h2:s.heap.IsListIter i2 l2 0)(hl1:s.heap.IsList l1 xs)(hl2:s.heap.IsList l2 ys)(small:min xs.size ys.size <= sizeLine)(h:∀s',aAc s z TO i1 i2 xs ys s'->Q (.ref s.heap.objs.size) s'): wpAny (model prog w) A (call (.type "list") [.ref z]) Q E s:=by
 obtain⟨u,v,hTO⟩:=hTO;have lt:∀{c:Addr}{o:Obj},s.heap.get? c=some o->c<s.heap.objs.size:=fun e=>Heap.lt_size e;have n1:i1<s.heap.objs.size:=by obtain⟨o,e,_⟩:=h1;exact lt e
 have n2:i2<s.heap.objs.size:=by obtain⟨o,e,_⟩:=h2;exact lt e
 have n3:l1<s.heap.objs.size:=by obtain⟨o,e,_⟩:=hl1;exact lt e
 have n4:l2<s.heap.objs.size:=by obtain⟨o,e,_⟩:=hl2;exact lt e
 let g1:=s.heap.push {cls:=.type "list", data:=.seq #[]}
 have o1:g1.get? s.heap.objs.size=some {cls:=.type "list", data:=.seq #[]}:=Heap.get?_push_size _ rfl;let g2:=g1.update s.heap.objs.size (Obj.mapSeq fun _=>(#[]:Array Value));have o2:=Heap.get?_update_self (Obj.mapSeq fun _=>(#[]:Array Value)) o1 rfl;have k2:∀b o,s.heap.get? b=some o->g2.get? b=some o:=fun b o e=>(Heap.get?_update_other _ _ (Nat.ne_of_gt (Heap.lt_size e))).trans (Heap.get?_push_of_some _ e);have go:∀B:Around,B.handled=none->∀(R:Result->Shared->Prop),(∀s',aAc s z TO i1 i2 xs ys s'->R (.ok (.ret .none)) s') ->wpAny (model prog w) B.in1 (Builtin.List.listExtendWith (.ref s.heap.objs.size) (.ref z) .none) (fun fin s'=>match fin with|.done f=>R (.ok f) s'|.again c'=>c'.quiet=true/\codeAny (model prog w) B c' R s') (fun e s'=>R (.error e) s') {s with heap:=g2}:=fun B hB R hR=>by
   have ty:Shared.TypeIs {s with heap:=g2} (.ref z) "zip":=⟨_,k2 _ _ hz,rfl⟩;unfold Builtin.List.listExtendWith;refine wpAny_bind (wpAny_typeOf ty ?_);have no:¬ (Builtin.List.listSameRef (.ref s.heap.objs.size) (.ref z) || Value.type "zip"==Value.type "list" || Value.type "zip"==Value.type "tuple")=true:=by
     have:(s.heap.objs.size==z)=false:=by simpa using Nat.ne_of_gt (lt hz)
     simp[Builtin.List.listSameRef,this]
   rw[if_neg no];refine wpAny_bind (wpAny_pyIter_zip (s:={s with heap:=g2}) (k2 _ _ hz) (wpAny_bind (wpAny_holding (aBk ty ?_))));refine wpAny_ite_split (fun _=>?_) (fun q=>absurd (by simp) q);refine wpAny_bind (wpAny_rule (wpAny_bind (xA (s:={s with heap:=g2}) o2 fun g3 n3' sb3 o3=>wpAny_pure ⟨plainId_quiet F.plain_extend_loop _,?_⟩)));have k3:∀b o,s.heap.get? b=some o->g3.get? b=some o:=fun b o e=>(sb3.2 b (Nat.ne_of_lt (Heap.lt_size e))).trans (k2 b o e);have z3:ZS g3 z TI TO i1 i2 l1 l2 0:=⟨k3 _ _ hTI,h1.at fun o e=>k3 _ _ e,h2.at fun o e=>k3 _ _ e,.inl ⟨k3 _ _ hz,u,v,k3 _ _ hTO⟩⟩;have sz3:g3.objs.size=s.heap.objs.size+1:=by
     rw[sb3.1];show g2.objs.size=_;rw[(Heap.SameBut.update ..).1,Heap.size_push]
   have ls:∀{a:Addr},a<s.heap.objs.size->a<s.heap.objs.size+1:=fun q=>Nat.lt_succ_of_lt q;refine aBt (low:=s.heap.objs.size+1) hB D ⟨Nat.ne_of_gt (lt hz),Nat.ne_of_gt (lt hTI),Nat.ne_of_gt (lt hTO),Nat.ne_of_gt n1,Nat.ne_of_gt n2,Nat.ne_of_gt n3,Nat.ne_of_gt n4⟩ ⟨Nat.lt_succ_self _,ls (lt hz),ls (lt hTI),ls (lt hTO),ls n1,ls n2⟩ small (min xs.size ys.size) {s with heap:=g3} #[] n3' [] (Nat.zero_add _) z3 (hl1.at fun o e=>k3 _ _ e) (hl2.at fun o e=>k3 _ _ e) (by rw[sz3];exact Nat.le_refl _) o3 rfl ⟨fun j t e=>(by simp at e),fun t q=>(nomatch q),List.nodup_nil⟩ fun h' acc c ts q1 q2 q3 q4 q5=>hR _ ⟨fun b o b1 b2 b3 b4 e=>?_,⟨h',rfl⟩,acc,c,ts,q2,q3,q1,q4⟩;exact q5 b o (ls (lt e)) (Nat.ne_of_lt (lt e)) b1 b2 b3 b4 (k3 b o e)
 refine callType_codes (Q₁:=fun v s1=>v=.ref s.heap.objs.size/\s1={s with heap:=g1}) F.called_list (F.typeCall_list_1 _) F.entry_list_init (code_list_new _ ⟨rfl,rfl⟩) ?_;rintro _ _ ⟨rfl,rfl⟩;refine⟨⟨_,o1,rfl⟩,F.args_list_init_2 _ _,?_⟩;unfold Builtin.«list.__init__»;refine wpAny_bind (m:=Builtin.List.listItems (.ref s.heap.objs.size)) (wpAny_listItems o1 rfl ?_);refine wpAny_bind (m:=updateSeq s.heap.objs.size fun _=>#[]) (wpAny_updateSeq o1 rfl (wpAny_bind (wpAny_letGo ?_)));exact go A.in1 (by simp[calm]) _ fun s' d=>⟨rfl,h s' d⟩
end
theorem rY:typeLookup (.type "zip") "keys"=pure none:=typeLookup_type ..▸builtinLookup_eq_fast ..▸by kernel_rfl
theorem mQ:typeLookup (.type "zip") "__getattr__"=pure none:=typeLookup_type ..▸builtinLookup_eq_fast ..▸by kernel_rfl
theorem kR:entryFor table "zip.__getattribute__"=some Builtin.«object.__getattribute__»:=entryFor_alias (id' := "object.__getattribute__") (by kernel_rfl) (by decide +kernel) (by decide +kernel) (by kernel_rfl)
section
variable{prog:Program}{w:World}{A:Around}{E:Value->Shared->Prop}{s:Shared}
theorem aDr{z TI TO:Addr}{f0:Value}{b:Bool}{Q:Option Value->Shared->Prop}(calm:A.handled=none)(hz:s.heap.get? z=some (aCu f0 b TI TO))(h:∀h' tk,(∀c o,s.heap.get? c=some o->h'.get? c=some o)->Q none {s with heap:=h',toks:=tk}): wpAny (model prog w) A (getAttr? (.ref z) "keys") Q E s:=by
 have ty:∀tk,Shared.TypeIs {s with toks:=tk} (.ref z) "zip":=fun _=>⟨_,hz,rfl⟩;have f1:=sub_AttributeError;have f3:=F.slot_zip_getattribute.lookup;have f5:=mQ;unfold getAttr? getAttrBy? getAttrBy
 repeat (any_goals (first|assumption|exact ty _|wp_step))
 refine wpAny_of_eq (F.slot_zip_getattribute.bind (.ref z)) ?_;refine wpAny_call_entry F.slot_zip_getattribute (ty _) kR ?_ (F.args_zip_getattribute_2 _ _);have f2:=rY;have hname:(["__module__","__name__","__qualname__","__doc__","__annotations__"]:List Str).contains (Str.ofString "keys")=false:=by decide +kernel
 have hT:Shared.TypeIs {s with toks:=s.toks+1} (.ref z) "zip":=ty _;unfold Builtin.«object.__getattribute__»
 repeat (any_goals (first|assumption|wp_step|simp only[hname,Bool.false_eq_true,if_false]))
 refine wpAny_raiseAttrError (by simp[calm]) (fun h' tk e new=>?_) (attrMsg_fits (by decide +kernel) (by size_fits));obtain⟨t',u',he⟩:=new.there;have te:Shared.TypeIs {s with heap:=h',toks:=tk} (.ref e) "AttributeError":=⟨_,he,rfl⟩;unfold getattributeRaised
 repeat (any_goals (first|assumption|wp_step))
 exact h h' tk new.of.keeps
end
theorem fN:entryFor table "dict.update.loop"=some Builtin.«dict.update.loop»:=entryFor_of_tree (by kernel_rfl)
theorem cU:plainId "dict.update.loop"=true:=by decide +kernel
def qD{K:Type}[DecidableEq K](acc:List (K×Value)):List (K×Value)->List (K×Value)
 |[]=>acc
 |(k,v)::r=>qD (stored acc k v) r
def fQ{K:Type}(ks:Nat->K)(ys:Array Value)(i:Nat):Nat->List (K×Value)
 |0=>[]
 |n+1=>(ks i,ys[i]?.getD .none)::fQ ks ys (i+1) n
section
variable{prog:Program}{w:World}{K:Type}[DecidableEq K]{knd:KeyKind prog w K}{A:Around}{R:Result->Shared->Prop}
theorem vO{acc:List (K×Value)}{k:K}{v:Value}:(stored acc k v).length <= acc.length+1:=by
 unfold stored;split
 . rw[List.length_map];exact Nat.le_succ _
 . rw[List.length_append];exact Nat.le_refl _
theorem zT{d z TI TO i1 i2 l1 l2:Addr}{xs ys:Array Value}{ks:Nat->K}(calm:A.handled=none)(D:ZipApart z TI TO i1 i2 l1 l2)(ap:aCs d z TI TO i1 i2 l1 l2)(small:min xs.size ys.size <= sizeLine)(hk:∀(i:Nat)x,xs[i]?=some x->knd.is (ks i) x=true):
   ∀(left i:Nat)(s:Shared)(vs:List (K×Value))(c:Int),i+left=min xs.size ys.size->vs.length <= i->ZS s.heap z TI TO i1 i2 l1 l2 i->s.heap.IsList l1 xs->s.heap.IsList l2 ys->s.heap.DictOf knd d vs ->
     (∀(h':Heap)tk,h'.DictOf knd d (qD vs (fQ ks ys i left))->(∀b o,b≠d->b≠z->b≠TO->b≠i1->b≠i2->s.heap.get? b=some o->h'.get? b=some o)->R (.ok (.ret .none)) {s with heap:=h',toks:=tk}) ->
     codeAny (model prog w) A (.builtin "dict.update.loop" ⟨[.ref d,.ref z,rawInt c,.none],[]⟩) R s:=by
 obtain⟨a1,a2,a3,a4,a5,a6,a7⟩:=ap;intro left;induction left with
 |zero=>
   intro i s vs c hi hv Z hl1 hl2 hd k;refine codeAny_builtin fN ?_;rw[show A.under (.builtin "dict.update.loop" ⟨[.ref d,.ref z,rawInt c,.none],[]⟩)=A.in1 from Around.under_plainId cU _];have no:xs[i]?=none\/ys[i]?=none:=by
     rcases Nat.le_total xs.size ys.size with q|q
     . exact .inl (Array.getElem?_eq_none (by omega))
     . exact .inr (Array.getElem?_eq_none (by omega))
   refine wpAny_bind (m:=pyNext (.ref z)) (tW (by simp[calm]) D Z hl1 hl2 no fun h' kp=>?_);refine wpAny_bind (m:=Builtin.Dict.addKeywords d []) (wpAny_pure (wpAny_pure ?_));obtain⟨o,es,ep,e,r⟩:=hd;exact k h' s.toks ⟨o,es,ep,kp _ _ a1 a3 a4 a5 e,r⟩ fun b o _ b2 b3 b4 b5 e=>kp b o b2 b3 b4 b5 e
 |succ left ih=>
   intro i s vs c hi hv Z hl1 hl2 hd k;refine codeAny_builtin fN ?_;rw[show A.under (.builtin "dict.update.loop" ⟨[.ref d,.ref z,rawInt c,.none],[]⟩)=A.in1 from Around.under_plainId cU _];have lx:i<xs.size:=by omega
   have ly:i<ys.size:=by omega
   have hx:xs[i]?=some xs[i]:=Array.getElem?_eq_getElem lx;have hy:ys[i]?=some ys[i]:=Array.getElem?_eq_getElem ly;refine wpAny_bind (m:=pyNext (.ref z)) (tX D Z hl1 hl2 hx hy fun h1 Z1 P1 sz kp=>?_);have hd1:h1.DictOf knd d vs:=by
     obtain⟨o,es,ep,e,r⟩:=hd;exact⟨o,es,ep,kp _ _ a1 a3 a4 a5 e,r⟩
   have ty:Shared.TypeIs {s with heap:=h1} (.ref s.heap.objs.size) "tuple":=⟨_,P1,rfl⟩;refine wpAny_bind (wpAny_holding (wpAny_bind (m:=(Builtin.Dict.pairItems (.ref s.heap.objs.size)).tryCatch _) (wpAny_tryCatch ?_)));unfold Builtin.Dict.pairItems;refine wpAny_bind (wpAny_typeOf ty ?_);rw[if_pos (by decide)];refine wpAny_bind (wpAny_seqItems P1 rfl (wpAny_pure ?_));refine wpAny_holding (wpAny_dictSet_pairs (s:={s with heap:=h1}) (hk i _ hx) hd1 (fun h2 d2 sb=>wpAny_pure ⟨plainId_quiet cU _,?_⟩) (by omega));have up:∀b o,b≠d->h1.get? b=some o->h2.get? b=some o:=fun b o nb e=>(sb.2 b nb).trans e;have q:qD vs (fQ ks ys i (left+1))=qD (stored vs (ks i) ys[i]) (fQ ks ys (i+1) left):=by
     show qD (stored vs (ks i) (ys[i]?.getD .none)) _=_;rw[hy];rfl
   rw[q] at k;refine ih (i+1) {s with heap:=h2,toks:=s.toks+1} _ (c+1) (by omega) (Nat.le_trans vO (by omega)) ?_ ((hl1.at fun o e=>kp _ _ D.l1z D.l1TO D.l1i1 D.l1i2 e).at fun o e=>up _ _ (Ne.symm a6) e) ((hl2.at fun o e=>kp _ _ D.l2z D.l2TO D.l2i1 D.l2i2 e).at fun o e=>up _ _ (Ne.symm a7) e) d2 fun h' tk d' old=>k h' tk d' fun b o b1 b2 b3 b4 b5 e=>old b o b1 b2 b3 b4 b5 (up b o b1 (kp b o b2 b3 b4 b5 e));refine⟨up _ _ (Ne.symm a2) Z1.ti,Z1.it1.at fun o e=>up _ _ (Ne.symm a4) e,Z1.it2.at fun o e=>up _ _ (Ne.symm a5) e,?_⟩;rcases Z1.ob with⟨p,u,v,q⟩|⟨T,f,oT,p,q,r⟩
   . exact .inl ⟨up _ _ (Ne.symm a1) p,u,v,up _ _ (Ne.symm a3) q⟩
   . by_cases eT:T=d
     . subst eT;obtain⟨o2,_,_,e2,_⟩:=d2;exact .inr ⟨T,f,o2,up _ _ (Ne.symm a1) p,e2,r⟩
     . exact .inr ⟨T,f,oT,up _ _ (Ne.symm a1) p,up _ _ eT q,r⟩
end
section
variable{prog:Program}{w:World}{K:Type}[DecidableEq K]{knd:KeyKind prog w K}{A:Around}{E:Value->Shared->Prop}{s:Shared}
theorem aBw{z TI TO i1 i2 l1 l2:Addr}{xs ys:Array Value}{ks:Nat->K}{Q:Value->Shared->Prop}(calm:A.handled=none)(D:ZipApart z TI TO i1 i2 l1 l2)(hz:IsZip s.heap z TI TO .none)(hTI:IsPair s.heap TI (.ref i1) (.ref i2))(hTO:∃u v,IsPair s.heap TO u v)(h1:s.heap.IsListIter i1 l1 0)(h2:s.heap.IsListIter i2 l2 0)(hl1:s.heap.IsList l1 xs)(hl2:s.heap.IsList l2 ys)(small:min xs.size ys.size <= sizeLine)(hk:∀(i:Nat)x,xs[i]?=some x->knd.is (ks i) x=true)(h:∀(h':Heap)tk,h'.DictOf knd s.heap.objs.size (qD [] (fQ ks ys 0 (min xs.size ys.size)))->(∀b o,b≠z->b≠TO->b≠i1->b≠i2->s.heap.get? b=some o->h'.get? b=some o)->Q (.ref s.heap.objs.size) {s with heap:=h',toks:=tk}): wpAny (model prog w) A (call (.type "dict") [.ref z]) Q E s:=by
 obtain⟨u,v,hTO⟩:=hTO;have lt:∀{c:Addr}{o:Obj},s.heap.get? c=some o->c<s.heap.objs.size:=fun e=>Heap.lt_size e;have n1:i1<s.heap.objs.size:=by obtain⟨o,e,_⟩:=h1;exact lt e
 have n2:i2<s.heap.objs.size:=by obtain⟨o,e,_⟩:=h2;exact lt e
 have n3:l1<s.heap.objs.size:=by obtain⟨o,e,_⟩:=hl1;exact lt e
 have n4:l2<s.heap.objs.size:=by obtain⟨o,e,_⟩:=hl2;exact lt e
 let g1:=s.heap.push {cls:=.type "dict", data:=.dict #[]}
 have o1:g1.get? s.heap.objs.size=some {cls:=.type "dict", data:=.dict #[]}:=Heap.get?_push_size _ rfl;have k1:∀b o,s.heap.get? b=some o->g1.get? b=some o:=fun b o e=>Heap.get?_push_of_some _ e;refine callType_codes (Q₁:=fun v s1=>v=.ref s.heap.objs.size/\s1={s with heap:=g1}) F.kt_called_dict (F.kt_typeCall_dict_1 _) F.entry_dict_init (kt_code_dict_new _ ⟨rfl,rfl⟩) ?_;rintro _ _ ⟨rfl,rfl⟩;have td:Shared.TypeIs {s with heap:=g1} (.ref s.heap.objs.size) "dict":=⟨_,o1,rfl⟩;refine⟨td,F.args_dict_init_2 _ _,?_⟩;have tz:Shared.TypeIs {s with heap:=g1} (.ref z) "zip":=⟨_,k1 _ _ hz,rfl⟩;unfold Builtin.«dict.__init__»;refine wpAny_bind (m:=Builtin.Dict.selfAndRest "__init__" ⟨[.ref s.heap.objs.size,.ref z],[]⟩) ?_;unfold Builtin.Dict.selfAndRest;refine wpAny_bind (wpAny_notOrdered_dict td ?_);refine wpAny_bind (m:=Builtin.Dict.addrOf (.ref s.heap.objs.size)) (wpAny_pure (wpAny_pure ?_));show wpAny _ _ (Builtin.Dict.updateFrom "dict.__init__" s.heap.objs.size (.ref z) [] .none) _ _ _;unfold Builtin.Dict.updateFrom;refine wpAny_bind (wpAny_typeOf tz ?_);rw[if_pos (by decide)];refine wpAny_bind (aDr (s:={s with heap:=g1}) (by simp[calm]) (k1 _ _ hz) fun g2 tk2 k2=>?_);rw[if_pos (show(none:Option Value).isNone=true from rfl)];refine wpAny_bind (wpAny_rule (wpAny_bind (wpAny_pyIter_zip (s:={s with heap:=g2,toks:=tk2}) (k2 _ _ (k1 _ _ hz)) (wpAny_pure ⟨plainId_quiet cU _,?_⟩))));have k12:∀b o,s.heap.get? b=some o->g2.get? b=some o:=fun b o e=>k2 b o (k1 b o e);refine zT (by simp[calm]) D ⟨Nat.ne_of_gt (lt hz),Nat.ne_of_gt (lt hTI),Nat.ne_of_gt (lt hTO),Nat.ne_of_gt n1,Nat.ne_of_gt n2,Nat.ne_of_gt n3,Nat.ne_of_gt n4⟩ small hk (min xs.size ys.size) 0 {s with heap:=g2,toks:=tk2} [] 0 (Nat.zero_add _) (Nat.le_refl _) ⟨k12 _ _ hTI,h1.at fun o e=>k12 _ _ e,h2.at fun o e=>k12 _ _ e,.inl ⟨k12 _ _ hz,u,v,k12 _ _ hTO⟩⟩ (hl1.at fun o e=>k12 _ _ e) (hl2.at fun o e=>k12 _ _ e) ?_ fun h' tk d' old=>⟨rfl,h h' tk d' fun b o b1 b2 b3 b4 e=>old b o (Nat.ne_of_lt (lt e)) b1 b2 b3 b4 (k12 b o e)⟩;obtain⟨o,es,ep,e,r⟩:=Heap.DictOf.new (knd:=knd) s.heap;exact⟨o,es,ep,k2 _ _ e,r⟩
end
section
variable{X:Cx}
theorem Inv.trackMany{pins:List (Addr×Obj)}{σ:St}{s s1:Shared}{xs ys:List V}:∀{ts:List Addr}{H:Hp}(j:Nat),Inv X pins σ H s->(∀t∈ts,H t=none/\mY X pins H t/\X.s₀.heap.objs.size <= t)->ts.Nodup ->(∀(i:Nat)t,ts[i]?=some t->∃x y u v,xs[j+i]?=some x/\ys[j+i]?=some y/\bY x u/\bY y v/\IsPair s.heap t u v) ->∃H',Inv X pins σ H' s/\(∀b,b∉ts->H' b=H b)/\∀(i:Nat)t x y,ts[i]?=some t->xs[j+i]?=some x->ys[j+i]?=some y->H' t=some (.tup [x,y])
 |[],H,j,I,_,_,_=>⟨H,I,fun _ _=>rfl,fun i t x y e=>by simp at e⟩
 |t::ts,H,j,I,hf,nd,hp=>by
   obtain⟨nt,nd'⟩:=List.nodup_cons.mp nd;obtain⟨h0,f0,z0⟩:=hf t List.mem_cons_self;obtain⟨x,y,u,v,ex,ey,rx,ry,P⟩:=hp 0 t rfl;have I1:Inv X pins σ (upd H t (.tup [x,y])) s:=I.track h0 z0 f0.2.1 f0.2.2.2.2.1 f0.2.2.2.2.2 ⟨by show 2 <= sizeLine;decide,[u,v],.cons rx (.cons ry .nil),_,P,rfl,_,rfl⟩;obtain⟨H',I',off,at_⟩:∃H',Inv X pins σ H' s/\(∀b,b∉ts->H' b=upd H t (.tup [x,y]) b)/\∀(i:Nat)t x y,ts[i]?=some t->xs[j+1+i]?=some x->ys[j+1+i]?=some y->H' t=some (.tup [x,y]):=by
     refine Inv.trackMany (ts:=ts) (s1:=s1) (xs:=xs) (ys:=ys) (j+1) I1 (fun b hb=>?_) nd' (fun i b e=>?_)
     . have nb:b≠t:=fun z=>nt (z▸hb);obtain⟨q1,q2,q3⟩:=hf b (List.mem_cons_of_mem _ hb);have:upd H t (.tup [x,y]) b=none:=by rw[aE nb];exact q1
       exact⟨this,⟨this,q2.2⟩,q3⟩
     . have:=hp (i+1) b e;rw[show j+(i+1)=j+1+i by omega] at this;exact this
   . refine⟨H',I',fun b hb=>?_,fun i b x' y' e e1 e2=>?_⟩
     . rw[off b fun z=>hb (List.mem_cons_of_mem _ z),aE fun z=>hb (by rw[z];exact List.mem_cons_self)]
     . cases i with
       |zero=>
         cases e;rw[off t nt,aB];rw[ex] at e1;rw[ey] at e2;cases e1;cases e2;rfl
       |succ i=>exact at_ i b x' y' e (by rw[show j+1+i=j+(i+1) by omega];exact e1) (by rw[show j+1+i=j+(i+1) by omega];exact e2)
theorem vU{e1 e2:Expr}{ta:TA}{p1 p2 pos1 pos2:Pos}(hc:X.calm=true)(hgl:Gl X "list")(hml:X.mg "list"=none)(hgz:Gl X "zip")(hmz:X.mg "zip"=none)(ha:PA X [e1,e2] ta)(hs:starEach [e1,e2] X.env=[(false,eval e1 X.env),(false,eval e2 X.env)]:=by rfl)(hs1:starEach [e2] X.env=[(false,eval e2 X.env)]:=by rfl)(hs2:starEach [.Call (.Name "zip" p2) [e1,e2] [] pos2] X.env=[(false,eval (.Call (.Name "zip" p2) [e1,e2] [] pos2) X.env)]:=by rfl): PE X (.Call (.Name "list" p1) [.Call (.Name "zip" p2) [e1,e2] [] pos2] [] pos1) (fun σ H Q=>ta σ H fun vs H1=>∃(a b:Addr)(xs ys:List V),vs=[.ref a,.ref b]/\SqL X.K H1 a xs/\SqL X.K H1 b ys /\ ∀(l:Addr)(ts:List Addr)(H':Hp),Same H1 H'->H' l=some (.lst (ts.map V.ref))->ts.length=min xs.length ys.length->(∀(i:Nat)t x y,ts[i]?=some t->xs[i]?=some x->ys[i]?=some y->H' t=some (.tup [x,y]))->H1 l=none->(∀t∈ts,H1 t=none)->Q (.ref l) H'):=by
 intro pins s σ H Q I h;refine wpAny_Call_Name_kw (fT I hgl hml boot_list (PyProof.Rows.callWith_type1 ?_ hs2 rfl));rw[hs2];refine Calls.spliced_cons (Call_ (fT I hgz hmz boot_zip (PyProof.Rows.callWith_type1 (thn (ha pos2 pins s σ H _ I h) fun us s1 q0=>?_) (by rw[hs,hs1]) (by rw[hs1];rfl))));obtain⟨vs,H1,I1,r1,a,b,xs,ys,e0,hq,hq',q⟩:=q0;subst e0;obtain⟨u,u',rfl,ru,ru'⟩:=r1.two;cases ru;cases ru';obtain⟨its,rv,pl,hz⟩:=I1.list hq;obtain⟨its',rv',pl',hz'⟩:=I1.list hq';have len:=rv.length;have len':=rv'.length;refine call_zip_2 pl.isList pl'.isList fun h1 g1 g2 g3 g4 g5 g6 hk=>Calls.spliced_nil ?_;have la:a<s1.heap.objs.size:=by obtain⟨_,e,_⟩:=pl.isList;exact Heap.lt_size e
 have lb:b<s1.heap.objs.size:=by obtain⟨_,e,_⟩:=pl'.isList;exact Heap.lt_size e
 have nq:∀x y:Nat,x<y->x≠y:=fun x y h=>Nat.ne_of_lt h;have nq':∀x y:Nat,y<x->x≠y:=fun x y h=>Nat.ne_of_gt h;generalize hn:s1.heap.objs.size=n at la lb g1 g2 g3 g4 g5 g6;have D:ZipApart (n+4) (n+2) (n+3) n (n+1) a b:=⟨nq _ _ (by omega),nq _ _ (by omega),nq _ _ (by omega),nq _ _ (by omega),nq _ _ (by omega),nq' _ _ (by omega),nq' _ _ (by omega),nq' _ _ (by omega),nq' _ _ (by omega),nq _ _ (by omega),nq _ _ (Nat.lt_of_lt_of_le la (by omega)),nq _ _ (Nat.lt_of_lt_of_le la (by omega)),nq _ _ la,nq _ _ (Nat.lt_of_lt_of_le la (by omega)),nq _ _ (Nat.lt_of_lt_of_le lb (by omega)),nq _ _ (Nat.lt_of_lt_of_le lb (by omega)),nq _ _ lb,nq _ _ (Nat.lt_of_lt_of_le lb (by omega))⟩;refine aBg (s:={s1 with heap:=h1}) (I.ok.hd hc) D g1 g2 ⟨_,_,g3⟩ g4 g5 (pl.isList.at fun o e=>hk _ _ e) (pl'.isList.at fun o e=>hk _ _ e) (by simp only[List.size_toArray];omega) fun s' d=>?_;obtain⟨h',rfl⟩:=d.eq;obtain⟨acc,c,ts,o',ea,lt,T⟩:=d.lst;have sz:({s1 with heap:=h1}:Shared).heap.objs.size=n+5:=g6;rw[sz] at o' T;rw[sz];have fresh:∀x,n <= x->H1 x=none:=fun x hx=>I1.hok.fresh (by rw[hn];exact hx);have fp:∀x,n <= x->mY X pins H1 x:=fun x hx=>I1.fpOk (by rw[hn];exact hx) (fresh x hx);have I2:Inv X pins σ H1 {s1 with heap:=h',toks:=s1.toks}:=by
   refine I1.turnedL (t':=s1.toks) (ch:=[n+4,n+3,n,n+1]) (fun c o hb e=>?_) fun c hc=>?_
   . simp only[List.mem_cons,List.not_mem_nil,or_false,not_or] at hb;exact d.old c o hb.1 hb.2.1 hb.2.2.1 hb.2.2.2 (hk c o e)
   . simp only[List.mem_cons,List.not_mem_nil,or_false] at hc;rcases hc with rfl|rfl|rfl|rfl
     . exact fp _ (Nat.le_add_right _ _)
     . exact fp _ (Nat.le_add_right _ _)
     . exact fp _ (Nat.le_refl _)
     . exact fp _ (Nat.le_add_right _ _)
 have pairs:∀(i:Nat)t,ts[i]?=some t->∃x y u v,xs[0+i]?=some x/\ys[0+i]?=some y/\bY x u/\bY y v/\IsPair h' t u v:=fun i t e=>by
   obtain⟨u,v,e1,e2,P⟩:=T.pair i t e;have hi:=(List.getElem?_eq_some_iff.mp e).1;rw[lt] at hi;simp only[List.size_toArray] at hi;have hx:xs[0+i]?=some (xs[i]'(by omega)):=by rw[Nat.zero_add];exact List.getElem?_eq_getElem _
   have hy:ys[0+i]?=some (ys[i]'(by omega)):=by rw[Nat.zero_add];exact List.getElem?_eq_getElem _
   obtain⟨u2,hu2,ru2⟩:=rv.get hx;obtain⟨v2,hv2,rv2⟩:=rv'.get hy;rw[Nat.zero_add] at hu2 hv2;have e1':its[i]?=some u:=by simpa using e1
   have e2':its'[i]?=some v:=by simpa using e2
   rw[hu2] at e1';rw[hv2] at e2';cases e1';cases e2';exact⟨_,_,_,_,hx,hy,ru2,rv2,P⟩
 have low:∀t∈ts,n <= t:=fun t ht=>Nat.le_trans (by omega) (T.low t ht);obtain⟨H',I',off,at_⟩:=I2.trackMany (s1:=s1) (xs:=xs) (ys:=ys) (ts:=ts) 0 (fun t ht=>⟨fresh t (low t ht),fp t (low t ht),Nat.le_trans I1.sz (by rw[hn];exact low t ht)⟩) T.nd pairs;have nl:n+5∉ts:=fun z=>Nat.lt_irrefl _ (T.low _ z);have fl:H' (n+5)=none:=by rw[off _ nl];exact fresh _ (by omega)
 have fpl:=fp (n+5) (by omega);have sm:Same H1 H':=fun c o e=>by
   rw[off c fun z=>by rw[fresh c (low c z)] at e;cases e];exact e
 have lts:ts.length=min xs.length ys.length:=by rw[lt];simp only[List.size_toArray,len,len']
 have okl:bZ X.prog X.w (upd H' (n+5) (.lst (ts.map V.ref))) h' (n+5) (.lst (ts.map V.ref)):=by
   refine⟨by rw[List.length_map,lts];omega,acc.toList,c,?_,o'⟩;rw[ea];clear ea lt T pairs low at_ off nl lts;induction ts with
   |nil=>exact .nil
   |cons t r ih=>exact .cons rfl ih
 refine⟨.ref (n+5),_,I'.track fl (Nat.le_trans I1.sz (by rw[hn];omega)) fpl.2.1 fpl.2.2.2.2.1 fpl.2.2.2.2.2 okl,rfl,q (n+5) ts _ (sm.upd fl) aB lts (fun i t x y e1 e2 e3=>?_) (fresh _ (by omega)) fun t ht=>fresh t (low t ht)⟩;rw[aE (show t≠n+5 from fun z=>nl (by rw[<- z];exact List.mem_of_getElem? e1))];exact at_ i t x y e1 (by rw[Nat.zero_add];exact e2) (by rw[Nat.zero_add];exact e3)
theorem aCj{its':Array Value}{ns:List Int}{ys:List V}(rv':bO ys its'.toList)(nd:ns.Nodup)(hl:ns.length <= ys.length):∀(left i:Nat)(acc:List (Key×V))(vacc:List (Key×Value)),KV acc vacc->i+left <= ns.length->acc.map (·.1)=(ns.take i).map Sum.inl ->KV (acc++(((ns.zip ys).drop i).take left).map fun x=>((Sum.inl x.1:Key),x.2)) (qD vacc (fQ (fun j=>(Sum.inl (ns.getD j 0):Key)) its' i left))
 |0,i,acc,vacc,r,_,_=>by
   rw[List.take_zero,List.map_nil,List.append_nil];exact r
 |left+1,i,acc,vacc,r,hi,hk=>by
   have hn:i<ns.length:=by omega
   have hy:i<ys.length:=by omega
   have hz:i<(ns.zip ys).length:=by rw[List.length_zip];omega
   have ez:(ns.zip ys)[i]=(ns[i],ys[i]):=List.getElem_zip;rw[List.drop_eq_getElem_cons hz,List.take_succ_cons,List.map_cons,ez];have en:ns.getD i 0=ns[i]:=by rw[List.getD,List.getElem?_eq_getElem hn];rfl
   obtain⟨v,hv,rv⟩:=rv'.get (List.getElem?_eq_getElem hy);have ev:its'[i]?.getD .none=v:=by rw[<- Array.getElem?_toList,hv];rfl
   show KV _ (qD (stored vacc (Sum.inl (ns.getD i 0)) (its'[i]?.getD .none)) _);rw[en,ev];have out:lA acc (Sum.inl ns[i]:Key)=none:=by
     cases q:lA acc (Sum.inl ns[i]:Key) with
     |none=>rfl
     |some w=>
       have m:=aCv q;rw[hk] at m;obtain⟨y,hy',e⟩:=List.mem_map.mp m;have e':y=ns[i]:=Sum.inl.inj e;subst e';obtain⟨j,hj,ej⟩:=List.mem_iff_getElem.mp hy';rw[List.getElem_take] at ej;rw[List.length_take] at hj;exact absurd ej (List.pairwise_iff_getElem.mp nd j i (by omega) hn (by omega))
   have r1:=r.put (Sum.inl ns[i]) rv;rw[uP _ out] at r1;have:=aCj rv' nd hl left (i+1) _ _ r1 (by omega) (by rw[List.map_append,hk,List.take_succ_eq_append_getElem hn,List.map_append];rfl);rw[List.append_assoc] at this;exact this
theorem vV{e1 e2:Expr}{ta:TA}{p1 p2 pos1 pos2:Pos}(hc:X.calm=true)(hgl:Gl X "dict")(hml:X.mg "dict"=none)(hgz:Gl X "zip")(hmz:X.mg "zip"=none)(ha:PA X [e1,e2] ta)(hs:starEach [e1,e2] X.env=[(false,eval e1 X.env),(false,eval e2 X.env)]:=by rfl)(hs1:starEach [e2] X.env=[(false,eval e2 X.env)]:=by rfl)(hs2:starEach [.Call (.Name "zip" p2) [e1,e2] [] pos2] X.env=[(false,eval (.Call (.Name "zip" p2) [e1,e2] [] pos2) X.env)]:=by rfl): PE X (.Call (.Name "dict" p1) [.Call (.Name "zip" p2) [e1,e2] [] pos2] [] pos1) (fun σ H Q=>ta σ H fun vs H1=>∃(a b:Addr)(ns:List Int)(ys:List V),vs=[.ref a,.ref b]/\SqL X.K H1 a (ns.map V.int)/\SqL X.K H1 b ys/\ns.length <= ys.length/\ns.Nodup /\ ∀d,H1 d=none->Q (.ref d) (upd H1 d (.dK ((ns.zip ys).map fun x=>((Sum.inl x.1:Key),x.2))))):=by
 intro pins s σ H Q I h;refine wpAny_Call_Name_kw (fT I hgl hml boot_dict (PyProof.Rows.callWith_type1 ?_ hs2 rfl));rw[hs2];refine Calls.spliced_cons (Call_ (fT I hgz hmz boot_zip (PyProof.Rows.callWith_type1 (thn (ha pos2 pins s σ H _ I h) fun us s1 q0=>?_) (by rw[hs,hs1]) (by rw[hs1];rfl))));obtain⟨vs,H1,I1,r1,a,b,ns,ys,e0,hq,hq',hny,nd,q⟩:=q0;subst e0;obtain⟨u,u',rfl,ru,ru'⟩:=r1.two;cases ru;cases ru';obtain⟨its,rv,pl,hz⟩:=I1.list hq;obtain⟨its',rv',pl',hz'⟩:=I1.list hq';have len:=rv.length;have len':=rv'.length;rw[List.length_map] at len;refine call_zip_2 pl.isList pl'.isList fun h1 g1 g2 g3 g4 g5 g6 hk=>Calls.spliced_nil ?_;have la:a<s1.heap.objs.size:=by obtain⟨_,e,_⟩:=pl.isList;exact Heap.lt_size e
 have lb:b<s1.heap.objs.size:=by obtain⟨_,e,_⟩:=pl'.isList;exact Heap.lt_size e
 have nq:∀x y:Nat,x<y->x≠y:=fun x y h=>Nat.ne_of_lt h;have nq':∀x y:Nat,y<x->x≠y:=fun x y h=>Nat.ne_of_gt h;generalize hn:s1.heap.objs.size=n at la lb g1 g2 g3 g4 g5 g6;have D:ZipApart (n+4) (n+2) (n+3) n (n+1) a b:=⟨nq _ _ (by omega),nq _ _ (by omega),nq _ _ (by omega),nq _ _ (by omega),nq _ _ (by omega),nq' _ _ (by omega),nq' _ _ (by omega),nq' _ _ (by omega),nq' _ _ (by omega),nq _ _ (by omega),nq _ _ (Nat.lt_of_lt_of_le la (by omega)),nq _ _ (Nat.lt_of_lt_of_le la (by omega)),nq _ _ la,nq _ _ (Nat.lt_of_lt_of_le la (by omega)),nq _ _ (Nat.lt_of_lt_of_le lb (by omega)),nq _ _ (Nat.lt_of_lt_of_le lb (by omega)),nq _ _ lb,nq _ _ (Nat.lt_of_lt_of_le lb (by omega))⟩;have fresh:∀x,n <= x->H1 x=none:=fun x hx=>I1.hok.fresh (by rw[hn];exact hx);have fp:∀x,n <= x->mY X pins H1 x:=fun x hx=>I1.fpOk (by rw[hn];exact hx) (fresh x hx);refine aBw (knd:=cD X.prog X.w) (ks:=fun j=>(Sum.inl (ns.getD j 0):Key)) (s:={s1 with heap:=h1}) (I.ok.hd hc) D g1 g2 ⟨_,_,g3⟩ g4 g5 (pl.isList.at fun o e=>hk _ _ e) (pl'.isList.at fun o e=>hk _ _ e) (by simp only[List.size_toArray];omega) (fun i x e=>?_) fun h' tk d old=>?_
 . have e':its[i]?=some x:=by simpa using e
   have hi:i<ns.length:=by have:=(List.getElem?_eq_some_iff.mp e').1;omega
   obtain⟨v,hv,t,rfl⟩:=rv.get (show(ns.map V.int)[i]?=some (.int ns[i]) by rw[List.getElem?_map,List.getElem?_eq_getElem hi];rfl);rw[hv] at e';cases e';rw[show ns.getD i 0=ns[i] by rw[List.getD,List.getElem?_eq_getElem hi];rfl];exact mG X.prog X.w _ _
 have sz:({s1 with heap:=h1}:Shared).heap.objs.size=n+5:=g6;rw[sz] at d;rw[sz];have mn:min its.toArray.size its'.toArray.size=ns.length:=by simp only[List.size_toArray];omega
 rw[mn] at d;have kv:=aCj (its':=its'.toArray) (by simpa using rv') nd hny ns.length 0 [] [] .nil (by omega) rfl;rw[List.drop_zero,List.take_of_length_le (by rw[List.length_zip];omega),List.nil_append] at kv;have I2:Inv X pins σ H1 {s1 with heap:=h',toks:=tk}:=by
   refine I1.turnedL (t':=tk) (ch:=[n+4,n+3,n,n+1]) (fun c o hb e=>?_) fun c hc=>?_
   . simp only[List.mem_cons,List.not_mem_nil,or_false,not_or] at hb;exact old c o hb.1 hb.2.1 hb.2.2.1 hb.2.2.2 (hk c o e)
   . simp only[List.mem_cons,List.not_mem_nil,or_false] at hc;rcases hc with rfl|rfl|rfl|rfl
     . exact fp _ (Nat.le_add_right _ _)
     . exact fp _ (Nat.le_add_right _ _)
     . exact fp _ (Nat.le_refl _)
     . exact fp _ (Nat.le_add_right _ _)
 have big:=I1.big;have fl:=fresh (n+5) (by omega);have fpl:=fp (n+5) (by omega);refine⟨.ref (n+5),_,I2.track fl (Nat.le_trans I1.sz (by rw[hn];omega)) fpl.2.1 fpl.2.2.2.2.1 fpl.2.2.2.2.2 (zX ?_ (beq_eq_false_iff_ne.mpr (Ne.symm (Nat.ne_of_lt (Nat.lt_of_lt_of_le big (by rw[hn];omega))))) kv d),rfl,q _ fl⟩;rw[List.length_map,List.length_zip];have:=hz;omega
end
abbrev FR:=List (Nat×Addr×List (Option Int))
def kvR(R:FR):List (Key×V):=R.map fun x=>(Sum.inl (x.1:Int),V.ref x.2.1)
def dR(R:FR):List Int:=R.map fun x=>(x.1:Int)
abbrev FL:=List (Nat×List (Option Int))
def flR(R:FR):FL:=R.map fun x=>(x.1,x.2.2)
def kC(F:FL)(h:Int):Bool:=F.any fun x=>decide ((x.1:Int)=h)
def zW(F:FL)(h:Int):FL:=F.filter fun x=>decide ((x.1:Int)≠h)
def aEv(F:FL)(h:Int)(t:Nat)(c:Option Int):FL:=F.map fun x=>if(x.1:Int)=h then(x.1,x.2.set t c) else x
def pO(R:FR)(h:Int):FR:=R.filter fun x=>decide ((x.1:Int)≠h)
def setR(R:FR)(h:Int)(t:Nat)(c:Option Int):FR:=R.map fun x=>if(x.1:Int)=h then(x.1,x.2.1,x.2.2.set t c) else x
theorem aBi(R:FR):(kvR R).map (·.1)=(dR R).map Sum.inl:=by unfold kvR dR;rw[List.map_map,List.map_map];rfl
theorem zB(R:FR):(kvR R).length=R.length:=by unfold kvR;rw[List.length_map]
theorem yR(R:FR):dR R=(flR R).map fun x=>(x.1:Int):=by unfold dR flR;rw[List.map_map];rfl
theorem aAk:∀(R:FR)(h:Int),lA (kvR R) (Sum.inl h)=(R.find? fun x=>decide ((x.1:Int)=h)).map fun x=>V.ref x.2.1
 |[],h=>rfl
 |x::r,h=>by
   show lA ((Sum.inl (x.1:Int),V.ref x.2.1)::kvR r) (Sum.inl h)=_;by_cases e:(x.1:Int)=h
   . rw[iW (by show(Sum.inl (x.1:Int):Key)=Sum.inl h;rw[e]),List.find?_cons_of_pos (by simpa using e)];rfl
   . rw[iX (by show ¬ (Sum.inl (x.1:Int):Key)=Sum.inl h;exact fun z=>e (Sum.inl.inj z)),List.find?_cons_of_neg (by simpa using e)];exact aAk r h
theorem aG0(R:FR)(h:Int):(lA (kvR R) (Sum.inl h)).isSome=kC (flR R) h:=by
 rw[aAk,Option.isSome_map];induction R with
 |nil=>rfl
 |cons x r ih=>
   by_cases e:(x.1:Int)=h
   . rw[List.find?_cons_of_pos (by simpa using e)];show true=(decide ((x.1:Int)=h) || _);rw[decide_eq_true e];rfl
   . rw[List.find?_cons_of_neg (by simpa using e),ih];show _=(decide ((x.1:Int)=h) || _);rw[decide_eq_false e];rfl
theorem zV(R:FR)(h:Int):tI (kvR R) (Sum.inl h)=kvR (pO R h):=by
 unfold tI kvR pO;rw[List.filter_map];congr 1;refine List.filter_congr fun x _=>?_;show decide ((Sum.inl (x.1:Int):Key)≠Sum.inl h)=decide ((x.1:Int)≠h);by_cases e:(x.1:Int)=h
 . rw[decide_eq_false (by simp[e]),decide_eq_false (by simp[e])]
 . rw[decide_eq_true (by simp[e]),decide_eq_true (by simp[e])]
theorem vC(R:FR)(h:Int):flR (pO R h)=zW (flR R) h:=by
 unfold flR pO zW;rw[List.filter_map];rfl
theorem zR(R:FR)(h:Int)(t:Nat)(c:Option Int):flR (setR R h t c)=aEv (flR R) h t c:=by
 unfold flR setR aEv;rw[List.map_map,List.map_map];refine List.map_congr_left fun x _=>?_;show(fun x:Nat×Addr×List (Option Int)=>(x.1,x.2.2)) (if(x.1:Int)=h then _ else x)=if(x.1:Int)=h then _ else _;by_cases e:(x.1:Int)=h
 . rw[if_pos e,if_pos e]
 . rw[if_neg e,if_neg e]
theorem aDv(R:FR)(h:Int)(t:Nat)(c:Option Int):kvR (setR R h t c)=kvR R:=by
 unfold kvR setR;rw[List.map_map];refine List.map_congr_left fun x _=>?_;show(fun x:Nat×Addr×List (Option Int)=>((Sum.inl (x.1:Int):Key),V.ref x.2.1)) (if(x.1:Int)=h then _ else x)=_;by_cases e:(x.1:Int)=h
 . rw[if_pos e]
 . rw[if_neg e]
structure dJ (R:FR) (g:Nat):Prop where
 inc:R.Pairwise fun x y=>x.1<y.1
 low:∀x∈R,x.1<g
theorem dJ.drop{R:FR}{g:Nat}(r:dJ R g)(h:Int):dJ (pO R h) g:=⟨r.inc.filter _,fun x hx=>r.low x (List.mem_filter.mp hx).1⟩
theorem dJ.set{R:FR}{g:Nat}(r:dJ R g)(h:Int)(t:Nat)(c:Option Int):dJ (setR R h t c) g:=by
 have one:∀x:Nat×Addr×List (Option Int),(if(x.1:Int)=h then(x.1,x.2.1,x.2.2.set t c) else x).1=x.1:=fun x=>by by_cases e:(x.1:Int)=h <;> simp[e]
 refine⟨List.pairwise_map.mpr (r.inc.imp fun {x y} l=>?_),fun x hx=>?_⟩
 . rw[one,one];exact l
 . obtain⟨y,hy,rfl⟩:=List.mem_map.mp hx;rw[one];exact r.low y hy
theorem dJ.push{R:FR}{g:Nat}(r:dJ R g)(a:Addr)(q:List (Option Int)):dJ (R++[(g,a,q)]) (g+1):=by
 refine⟨List.pairwise_append.mpr ⟨r.inc,List.pairwise_singleton _ _,fun x hx y hy=>?_⟩,fun x hx=>?_⟩
 . rw[List.mem_singleton.mp hy];exact r.low x hx
 . rcases List.mem_append.mp hx with z|z
   . exact Nat.lt_succ_of_lt (r.low x z)
   . rw[List.mem_singleton.mp z];exact Nat.lt_succ_self g
theorem dJ.new{R:FR}{g:Nat}(r:dJ R g)(v:V):sL (kvR R) (Sum.inl (g:Int)) v=kvR R++[(Sum.inl (g:Int),v)]:=by
 refine uP v ?_;rw[aAk,Option.map_eq_none_iff,List.find?_eq_none];intro x hx;have:=r.low x hx;simp;omega
theorem dJ.nums{R:FR}{g:Nat}(r:dJ R g):(dR R).Pairwise (·<·):=List.pairwise_map.mpr (r.inc.imp fun {x y} l=>by omega)
theorem qG{ns ns':List Int}(h:ns.Pairwise (·<·))(p:ns'.Perm ns)(s:ns'.Pairwise (· <= ·)):ns'=ns:=List.Perm.eq_of_pairwise (le:=fun a b:Int=>decide (a <= b)) (fun a b _ _ h1 h2=>by have:=of_decide_eq_true h1;have:=of_decide_eq_true h2;omega) (s.imp fun l=>decide_eq_true l) (h.imp fun l=>decide_eq_true (Int.le_of_lt l)) p
theorem jP{R:FR}{h:Int}(e:kC (flR R) h=true):∃x,x∈R/\(x.1:Int)=h/\R.find? (fun x=>decide ((x.1:Int)=h))=some x:=by
 rw[<- aG0,aAk,Option.isSome_map] at e;obtain⟨x,hx⟩:=Option.isSome_iff_exists.mp e;exact⟨x,List.mem_of_find?_eq_some hx,by simpa using List.find?_some hx,hx⟩
theorem zJ:∀{R:FR}{x y:Nat×Addr×List (Option Int)},R.Pairwise (fun x y=>x.1<y.1)->x∈R->y∈R->x.1=y.1->x=y
 |z::r,x,y,p,hx,hy,e=>by
   obtain⟨p1,p2⟩:=List.pairwise_cons.mp p;rcases List.mem_cons.mp hx with a|a
   . rcases List.mem_cons.mp hy with b|b
     . rw[a,b]
     . have:=p1 y b;rw[<- a] at this;omega
   . rcases List.mem_cons.mp hy with b|b
     . have:=p1 x a;rw[<- b] at this;omega
     . exact zJ p2 a b e
theorem aF6:∀{R:FR}{x y:Nat×Addr×List (Option Int)},(R.map (·.2.1)).Nodup->x∈R->y∈R->x.2.1=y.2.1->x=y
 |z::r,x,y,p,hx,hy,e=>by
   obtain⟨p1,p2⟩:=List.nodup_cons.mp p;rcases List.mem_cons.mp hx with a|a
   . rcases List.mem_cons.mp hy with b|b
     . rw[a,b]
     . exact absurd (List.mem_map.mpr ⟨y,b,by rw[<- e,a]⟩) p1
   . rcases List.mem_cons.mp hy with b|b
     . exact absurd (List.mem_map.mpr ⟨x,a,by rw[e,b]⟩) p1
     . exact aF6 p2 a b e
structure mO (H:Hp) (d:Addr) (R:FR):Prop where
 dic:H d=some (.dK (kvR R))
 row:∀x∈R,H x.2.1=some (.lst (x.2.2.map aV))
 nd:(R.map (·.2.1)).Nodup
theorem mO.same{H H':Hp}{d:Addr}{R:FR}(b:mO H d R)(e:Same H H'):mO H' d R:=⟨e _ _ b.dic,fun x hx=>e _ _ (b.row x hx),b.nd⟩
theorem mO.away{H:Hp}{d a:Addr}{R:FR}{o:HO}(b:mO H d R)(h1:a≠d)(h2:∀x∈R,x.2.1≠a):mO (upd H a o) d R:=⟨by rw[aE (Ne.symm h1)];exact b.dic,fun x hx=>by rw[aE (h2 x hx)];exact b.row x hx,b.nd⟩
theorem mO.ne{H:Hp}{d:Addr}{R:FR}(b:mO H d R){x:Nat×Addr×List (Option Int)}(hx:x∈R):x.2.1≠d:=bS (b.row x hx) b.dic (by intro z;cases z)
theorem mO.push{H:Hp}{d a:Addr}{R:FR}{g:Nat}{q:List (Option Int)}(b:mO H d R)(ha:H a=some (.lst (q.map aV)))(hn:∀x∈R,x.2.1≠a):mO (upd H d (.dK (kvR R++[(Sum.inl (g:Int),.ref a)]))) d (R++[(g,a,q)]):=by
 have nda:a≠d:=bS ha b.dic (by intro z;cases z);refine⟨?_,fun x hx=>?_,?_⟩
 . rw[aB];unfold kvR;rw[List.map_append];rfl
 . rcases List.mem_append.mp hx with z|z
   . rw[aE (b.ne z)];exact b.row x z
   . rw[List.mem_singleton.mp z,aE nda];exact ha
 . rw[List.map_append];refine List.nodup_append.mpr ⟨b.nd,List.pairwise_singleton _ _,fun y hy z hz=>?_⟩;obtain⟨x,hx,rfl⟩:=List.mem_map.mp hy;rw[List.mem_singleton.mp hz];exact hn x hx
theorem mO.drop{H:Hp}{d:Addr}{R:FR}(b:mO H d R)(h:Int):mO (upd H d (.dK (kvR (pO R h)))) d (pO R h):=by
 refine⟨aB,fun x hx=>?_,b.nd.sublist ((List.filter_sublist (l:=R)).map _)⟩;have hx':x∈R:=(List.mem_filter.mp hx).1;rw[aE (b.ne hx')];exact b.row x hx'
theorem mO.cost{H:Hp}{d:Addr}{R:FR}{g:Nat}(b:mO H d R)(r:dJ R g){x:Nat×Addr×List (Option Int)}(hx:x∈R)(t:Nat)(c:Option Int): mO (upd H x.2.1 (.lst ((x.2.2.set t c).map aV))) d (setR R (x.1:Int) t c):=by
 have one:∀y:Nat×Addr×List (Option Int),(if(y.1:Int)=(x.1:Int) then(y.1,y.2.1,y.2.2.set t c) else y).2.1=y.2.1:=fun y=>by by_cases e:(y.1:Int)=(x.1:Int) <;> simp[e]
 refine⟨?_,fun y hy=>?_,?_⟩
 . rw[aDv,aE (Ne.symm (b.ne hx))];exact b.dic
 . obtain⟨z,hz,rfl⟩:=List.mem_map.mp hy;by_cases e:(z.1:Int)=(x.1:Int)
   . have ez:z=x:=zJ r.inc hz hx (by omega);subst ez;rw[if_pos e,aB]
   . rw[if_neg e,aE]
     . exact b.row z hz
     . intro q;exact e (by rw[aF6 b.nd hz hx q])
 . show((R.map _).map _).Nodup;rw[List.map_map,show((fun y:Nat×Addr×List (Option Int)=>y.2.1) ∘ fun y=>if(y.1:Int)=(x.1:Int) then(y.1,y.2.1,y.2.2.set t c) else y)=fun y=>y.2.1 from funext one];exact b.nd
end L2
namespace Hf
open PySem PySem.Spec PyProof.Rows L2
def top(i:Nat):Stmt:=PySem.Challenge.pw_hirefair_k12_whole_a_fair.main.body.getD i (.Pass ⟨0,0,0,0⟩)
abbrev gE:Stmt:=top 6
theorem iK:aW ["many","rows","row"] ["many","rows"] (aI gE):={}
abbrev gU:Stmt:=top 7
theorem oC:aW ["many","task"] ["many","task"] (aI gU):={}
abbrev oJ:Stmt:=top 9
theorem xS:aW ["row","task"] ["row","task"] (aI oJ):={}
abbrev iF:Stmt:=top 10
theorem sG:aW ["row","prices"] ["row","prices"] (aI iF):={}
abbrev gS:Stmt:=top 11
theorem oB:aW ["row","task","prices"] ["row","task","prices"] (aI gS):={}
abbrev dH:Stmt:=hV (top 13) 0
theorem oF:aW ["self","many","rows","prices"] ["self","many","rows","prices"] (aI dH):={}
abbrev iQ:Stmt:=hV (top 13) 1
theorem qK:aW ["self","hand","task"] ["self","hand","task"] (aI iQ):={}
abbrev gF:Stmt:=hV (top 14) 0
theorem mS:aW ["self","many"] ["self","many"] (aI gF):={}
abbrev iN:Stmt:=top 15
theorem cM:aW ["board","search","hand","before","row","prices","far","through","task","length"] ["board","search","hand","before"] (aI iN):={}
abbrev dC:Stmt:=top 16
theorem iD:aW ["board","search","far","hands","known"] ["board","search"] (aI dC):={}
abbrev jV:Stmt:=top 17
theorem eI:aW ["board","hand","search","task","holder"] ["board","hand"] (aI jV):={}
abbrev jX:Stmt:=top 18
theorem sF:aW ["board","search"] ["board","search"] (aI jX):={}
abbrev fE:Stmt:=top 19
theorem eL:aW ["board","search","goal","task"] ["board","search"] (aI fE):={}
abbrev gR:Stmt:=top 20
theorem dL:aW ["board","search","task","hand","left"] ["board","search"] (aI gR):={}
abbrev iE:Stmt:=top 21
theorem sE:aW ["board","search","hand"] ["board","search","hand"] (aI iE):={}
abbrev fF:Stmt:=top 22
theorem eM:aW ["board","tasks","hand","task"] ["board","tasks"] (aI fF):={}
abbrev lS:Stmt:=top 23
theorem iC:aW ["many","rows","tasks","prices","board","hand","search"] ["many","rows","tasks","prices"] (aI lS):={}
abbrev uK:Stmt:=top 24
theorem xR:aW ["board","least"] ["board"] (aI uK):={}
abbrev gD:Stmt:=top 26
theorem mR:aW ["rows","hand"] ["rows","hand"] (aI gD):={}
abbrev eX:Stmt:=top 27
theorem oE:aW ["numbers","answer"] ["numbers","answer"] (aI eX):={}
abbrev iP:Stmt:=hV (top 28) 0
theorem qJ:aW ["self","many"] ["self","many"] (aI iP):={}
abbrev jZ:Stmt:=hV (top 28) 1
theorem lQ:aW ["self","row","number"] ["self","row"] (aI jZ):={}
abbrev iO:Stmt:=hV (top 28) 2
theorem qI:aW ["self","hand"] ["self","hand"] (aI iO):={}
abbrev fH:Stmt:=hV (top 28) 3
theorem lP:aW ["self","hand","task","cost"] ["self","hand","task","cost"] (aI fH):={}
abbrev fP:Stmt:=hV (top 28) 4
theorem fZ:aW ["self","numbers","rows","board"] ["self"] (aI fP):={}
abbrev xW:Stmt:=top 29
theorem aD4:aW ["fair","deed"] ["fair","deed"] (aI xW):={}
abbrev jY:Stmt:=top 30
theorem sH:aW ["fair","deed"] ["fair","deed"] (aI jY):={}
abbrev jL:Stmt:=top 31
theorem nF:aW ["many","deeds","fair"] ["many","deeds"] (aI jL):={}
abbrev xU:Stmt:=top 33
theorem aD3:aW ["_law_script","_law_small","_law_great"] ["_law_script","_law_small","_law_great"] (aI xU):={}
abbrev sJ:Stmt:=top 34
theorem aAv:aW ["_law_found"] ["_law_found"] (aI sJ):={}
abbrev aGg:Stmt:=top 35
theorem aGf:aW ["_law_script","_law_k"] ["_law_script","_law_k"] (aI aGg):={}
abbrev lT:Stmt:=top 36
theorem nE:aW ["_law_found","_law_one"] ["_law_found"] (aI lT):={}
abbrev gQ:Stmt:=top 37
theorem eD:aW ["_law_many","_law_rows","_law_tasks","_law_gone","_law_hand","_law_task"] ["_law_many","_law_rows","_law_tasks"] (aI gQ):={}
abbrev gB:Stmt:=top 38
theorem dB:aW ["_law_many","_law_rows","_law_tasks","_law_prices","_law_task","_law_hand","_law_due"] ["_law_many","_law_rows","_law_tasks","_law_prices"] (aI gB):={}
abbrev oH:Stmt:=top 39
theorem jK:aW ["_law_row","_law_most","_law_last","_law_one"] ["_law_row","_law_most"] (aI oH):={}
abbrev gA:Stmt:=top 40
theorem fD:aW ["_law_many","_law_rows","_law_hands","_law_tasks","_law_hand","_law_task"] ["_law_many","_law_rows","_law_hands","_law_tasks"] (aI gA):={}
abbrev fG:Stmt:=top 41
theorem lO:aW ["_law_found","_law_many","_law_rows"] ["_law_found","_law_many","_law_rows"] (aI fG):={}
abbrev oG:Stmt:=top 42
theorem eJ:aW ["_law_rest","_law_count","_law_far","_law_row","_law_task","_law_cell","_law_cost"] ["_law_rest","_law_count","_law_far"] (aI oG):={}
abbrev gC:Stmt:=top 43
theorem bT:aW ["_law_cells","_law_many","_law_asked","_law_came","_law_there","_law_limit","_law_k","_law_rest","_law_word","_law_far","_law_hand","_law_count","_law_cost"] ["_law_cells","_law_many"] (aI gC):={}
abbrev gT:Stmt:=top 44
theorem fY:aW ["_law_asked","_law_made","_law_deed"] ["_law_asked"] (aI gT):={}
abbrev lR:Stmt:=top 45
theorem vR:aW ["_law_there","_law_made","_law_many","_law_deed"] ["_law_there","_law_made","_law_many","_law_deed"] (aI lR):={}
abbrev eW:Stmt:=top 46
theorem bU:aW ["_law_found","_law_there","_law_many","_law_names","_law_rows","_law_tasks","_law_k","_law_pair","_law_places","_law_name"] ["_law_found","_law_there","_law_many"] (aI eW):={}
abbrev xV:Stmt:=top 47
theorem lN:aW ["_law_found","_law_due","_law_got_parts","_law_due_parts","_law_one","_law_two"] ["_law_found","_law_due"] (aI xV):={}
abbrev jW:Stmt:=top 48
theorem gM:aW ["_law_script","_law_many","_law_asked","_law_handed","_law_found","_law_there","_law_made","_law_k","_law_due"] ["_law_script"] (aI jW):={}
structure Blt (mg:Str->Option Value):Prop where
 len:mg "len"=none
 range:mg "range"=none
 isinstance:mg "isinstance"=none
 int:mg "int"=none
 bool:mg "bool"=none
 list:mg "list"=none
 all:mg "all"=none
 min:mg "min"=none
 set:mg "set"=none
 zip:mg "zip"=none
 enumerate:mg "enumerate"=none
 sum:mg "sum"=none
 vErr:mg "ValueError"=none
 tuple:mg "tuple"=none
 str:mg "str"=none
 sorted:mg "sorted"=none
 max:mg "max"=none
 dict:mg "dict"=none
section
variable{P:Program}{w:World}{K:W.Frag}{mg:Str->Option Value}{base:Heap}
def aEu(K:W.Frag):Sp:=fun vs H Q _=>∃(a:Addr)(ns:List Int)(i:Int),vs=[.ref a,.int i]/\jS K H a ns/\0 <= i/\∀n:Int,Q (.int n) H
theorem aGm(B:Blt mg)(D:cE K mg "_law_at" aGg ["_law_script","_law_k"]):Has P w K mg base 1 "_law_at" ["_law_script","_law_k"] (aEu K):=by
 refine D.has aGf (fun vs H Q E h=>?_) fun f cdv A outer s H vs Q E hr h=>?_
 . obtain⟨a,ns,i,rfl,_⟩:=h;rfl
 . obtain⟨a,ns,i,rfl,hS,h0,k⟩:=h;refine⟨_,aC (bC (aP mT (pv 1) (aM aO (by rfl) B.len boot_len (aA (pv 0) aF)) (aU _)) (aG (aS (aR aQ (pv 0) (pv 1) (fun _ _=>rfl)))) aT) (aG (aS aJ)),?_⟩;refine⟨_,rfl,_,rfl,a,_,rfl,.inl hS,_,_,rfl,rfl,_,rfl,?_⟩;refine eE (fun h=>?_) (fun h=>?_)
   . have h':i<((ns.map V.int).length:Int):=of_decide_eq_true h;rw[List.length_map] at h';have hi:i.toNat<ns.length:=by omega
     refine⟨_,rfl,_,rfl,a,_,i,.int ns[i.toNat],rfl,rfl,hS,eB h0 (by rw[List.getElem?_map,List.getElem?_eq_getElem hi];rfl),?_⟩;exact k _
   . exact k _
def jD:Sp:=fun vs H Q _=>∃(c:Option Int),vs=[aV c]/\Q (.bl c.isSome) H
theorem aB5(B:Blt mg)(D:cE K mg "_law_whole" sJ ["_law_found"]):Has P w K mg base 1 "_law_whole" ["_law_found"] jD:=by
 refine D.has aAv (fun vs H Q E h=>?_) fun f cdv A outer s H vs Q E hr h=>?_
 . obtain⟨c,rfl,_⟩:=h;rfl
 . obtain⟨c,rfl,k⟩:=h;refine⟨_,aG (aS (uS (aM bL (by rfl) B.isinstance boot_isinstance (aA (pv 0) (aA (fK (by rfl) B.int boot_int) aF))) (uQ (aF2 (aM bL (by rfl) B.isinstance boot_isinstance (aA (pv 0) (aA (fK (by rfl) B.bool boot_bool) aF))))))),?_⟩;cases c with
   |none=>exact⟨_,rfl,_,_,_,false,rfl,.non,by rfl,_,rfl,cI k⟩
   |some i=>exact⟨_,rfl,_,_,_,true,rfl,.int i,by rfl,_,rfl,iH ⟨_,rfl,_,_,_,false,rfl,.int i,by rfl,_,rfl,k⟩⟩
end
def aH2(T:gL)(ts:List Int):Prop:=ts.length=T.length/\ts.Nodup/\∀(i:Nat)r t,T[i]?=some r->ts[i]?=some t->0 <= t/\∃c,r[t.toNat]?=some (some c)
def aCo(m:Int)(ps:List Int):Prop:=(ps.length:Int)=m/\∀p∈ps,0 <= p
def aEf(T:gL)(ts ps:List Int):Prop:=∀(i:Nat)r t c p,T[i]?=some r->ts[i]?=some t->r[t.toNat]?=some (some c)->ps[t.toNat]?=some p ->∀(j:Nat)c' p',r[j]?=some (some c')->ps[j]?=some p'->c+p <= c'+p'
def vJ(ts ps:List Int):Prop:=∀(j:Nat)p,ps[j]?=some p->p=0\/(j:Int)∈ts
def aAd(m:Int)(T:gL)(ts ps:List Int):Prop:=aH2 T ts/\aCo m ps/\aEf T ts ps/\vJ ts ps
def rW(m:Int)(T:gL):Prop:=∀(i:Nat)r,T[i]?=some r->(r.length:Int)=m
def aC7(r:mP)(ps:List Int):List Int:=(List.range (min r.length ps.length)).filterMap fun i=>match r[i]?,ps[i]? with|some (some c),some p=>some (c+p)|_,_=>none
theorem pJ{r:mP}{ps:List Int}{x:Int}:x∈aC7 r ps↔∃(j:Nat)(c p:Int),r[j]?=some (some c)/\ps[j]?=some p/\x=c+p:=by
 unfold aC7;rw[List.mem_filterMap];constructor
 . rintro ⟨j,_,e⟩;cases h1:r[j]? with
   |none=>rw[h1] at e;cases e
   |some c0=>
     cases c0 with
     |none=>rw[h1] at e;cases e
     |some c=>
       cases h2:ps[j]? with
       |none=>rw[h1,h2] at e;cases e
       |some p=>
         rw[h1,h2] at e;exact⟨j,c,p,h1,h2,(Option.some.inj e).symm⟩
 . rintro ⟨j,c,p,h1,h2,rfl⟩;have l1:=(List.getElem?_eq_some_iff.mp h1).1;have l2:=(List.getElem?_eq_some_iff.mp h2).1;exact⟨j,List.mem_range.mpr (by omega),by rw[h1,h2]⟩
section
variable{P:Program}{w:World}{K:W.Frag}{mg:Str->Option Value}{base:Heap}
theorem aCy{H:Hp}{as:List Addr}{T:gL}(hl:as.length=T.length){i:Nat}{b:Addr}(h:as[i]?=some b):∃r,T[i]?=some r:=by
 have:=(List.getElem?_eq_some_iff.mp h).1;exact⟨T[i]'(by omega),List.getElem?_eq_getElem _⟩
def qE(K:W.Frag):Sp:=fun vs H Q _=>∃(a:Addr)(t:Int)(r:mP),vs=[.ref a,.int t]/\aC1 K H a r/\∀b:Bool,(b=true↔0 <= t/\∃c,r[t.toNat]?=some (some c))->Q (.bl b) H
theorem yP(B:Blt mg)(D:cE K mg "can_do" oJ ["row","task"]):Has P w K mg base 1 "can_do" ["row","task"] (qE K):=by
 refine D.has xS (fun vs H Q E h=>?_) fun f cdv A outer s H vs Q E hr h=>?_
 . obtain⟨a,t,r,rfl,_⟩:=h;rfl
 . obtain⟨a,t,r,rfl,ha,k⟩:=h;refine⟨_,aG (aS (uS (aB1 aDi mT aJ (pv 1) (aM aO (by rfl) B.len boot_len (aA (pv 0) aF))) (uQ (gW eA (aR aQ (pv 0) (pv 1) (fun _ _=>rfl)) bW (aU _))))),?_⟩;refine⟨_,rfl,_,_,rfl,rfl,_,rfl,?_⟩;refine eE (fun h0=>?_) (fun h0=>?_)
   . have h0':0 <= t:=of_decide_eq_true h0;refine⟨_,rfl,a,_,rfl,.inl ha,_,_,rfl,rfl,_,rfl,?_⟩;refine eE (fun h1=>?_) (fun h1=>?_)
     . have h1':t<((r.map aV).length:Int):=of_decide_eq_true h1;rw[List.length_map] at h1';have hi:t.toNat<r.length:=by omega
       have e:(r.map aV)[t.toNat]?=some (aV r[t.toNat]):=by rw[List.getElem?_map,List.getElem?_eq_getElem hi];rfl
       refine⟨_,rfl,_,rfl,a,_,t,_,rfl,rfl,ha,eB h0' e,rfl,?_⟩;refine k _ ⟨fun z=>⟨h0',?_⟩,fun⟨_,c,z⟩=>?_⟩
       . cases hc:r[t.toNat] with
         |none=>rw[hc] at z;cases z
         |some c=>exact⟨c,by rw[List.getElem?_eq_getElem hi,hc]⟩
       . rw[List.getElem?_eq_getElem hi] at z;rw[Option.some.inj z];rfl
     . refine k _ (rC fun⟨_,c,z⟩=>?_);have:=(List.getElem?_eq_some_iff.mp z).1;refine absurd (decide_eq_true ?_) h1;rw[List.length_map];omega
   . refine⟨_,rfl,cI (k _ (rC fun⟨z,_⟩=>absurd (decide_eq_true z) h0))⟩
end
structure Own (H:Hp) (l:Addr) (as:List Addr) (T:gL):Prop where
 lst:H l=some (.lst (as.map V.ref))
 len:as.length=T.length
 nd:(l::as).Nodup
 row:∀(i:Nat)b r,as[i]?=some b->T[i]?=some r->H b=some (.lst (r.map aV))
theorem Own.tab{K:W.Frag}{H:Hp}{l:Addr}{as:List Addr}{T:gL}(o:Own H l as T):mX K H l T:=⟨as,SqL.of o.lst,o.len,fun i b r e1 e2=>SqL.of (o.row i b r e1 e2)⟩
theorem Own.same{H H':Hp}{l:Addr}{as:List Addr}{T:gL}(o:Own H l as T)(e:Same H H'):Own H' l as T:=⟨e _ _ o.lst,o.len,o.nd,fun i b r e1 e2=>e _ _ (o.row i b r e1 e2)⟩
theorem Own.mem{H:Hp}{l:Addr}{as:List Addr}{T:gL}(o:Own H l as T){b:Addr}(hb:b∈as):∃r:mP,H b=some (.lst (r.map aV)):=by
 obtain⟨i,hi,e⟩:=List.mem_iff_getElem.mp hb;have hT:i<T.length:=by have:=o.len;omega
 exact⟨T[i],o.row i b T[i] (by rw[<- e];exact List.getElem?_eq_getElem hi) (List.getElem?_eq_getElem hT)⟩
theorem Own.away{H:Hp}{l x:Addr}{as:List Addr}{T:gL}{ob:HO}(o:Own H l as T)(h:x∉l::as):Own (upd H x ob) l as T:=by
 have hl:l≠x:=fun e=>h (e▸List.mem_cons_self);refine⟨by rw[aE hl];exact o.lst,o.len,o.nd,fun i b r e1 e2=>?_⟩;have hb:b≠x:=fun e=>h (e▸List.mem_cons_of_mem _ (List.mem_of_getElem? e1));rw[aE hb];exact o.row i b r e1 e2
theorem Own.put{H:Hp}{l b:Addr}{as:List Addr}{T:gL}{i:Nat}{q:mP}(o:Own H l as T)(hb:as[i]?=some b):Own (upd H b (.lst (q.map aV))) l as (T.set i q):=by
 have hlb:l≠b:=fun e=>(List.nodup_cons.mp o.nd).1 (e▸List.mem_of_getElem? hb);refine⟨by rw[aE hlb];exact o.lst,by rw[List.length_set];exact o.len,o.nd,fun j c r e1 e2=>?_⟩;by_cases hj:j=i
 . subst hj;rw[hb] at e1;cases e1;have hi:j<T.length:=by
     have:=(List.getElem?_eq_some_iff.mp hb).1;have:=o.len;omega
   rw[List.getElem?_set_self hi] at e2;cases e2;exact aB
 . rw[List.getElem?_set_ne (Ne.symm hj)] at e2;have hcb:c≠b:=fun e=>by
     subst e;have hn:=(List.nodup_cons.mp o.nd).2;exact hj (((List.getElem?_inj (List.getElem?_eq_some_iff.mp e1).1 hn).mp (e1.trans hb.symm)))
   rw[aE hcb];exact o.row j c r e1 e2
theorem fB{K:W.Frag}{a:Addr}{xs:List V}{own:Nat}{js:List Nat}{g:TG}{tt:TT}{te:TE}{σ:L2.St}{H:Hp}{Qf:List V->Hp->Prop}(Pv:Nat->List V->Hp->Prop)(h0:Pv 0 [] H)(hz:xs.length <= 1000)(hlen:∀i ys H2,Pv i ys H2->ys.length <= i)(hl:∀i ys H2,Pv i ys H2->SqL K H2 a xs)(hd:∀ys H2,Pv xs.length ys H2->Qf ys H2)(hs:∀(i:Nat)ys H2 x,xs[i]?=some x->Pv i ys H2->g x (cst own js σ) H2 fun σ3 H4=>tt σ3 H4 fun b H5=>if b=true then te σ3 H5 fun y H6=>Pv (i+1) (ys++[y]) H6 else Pv (i+1) ys H5): kP own js g tt te σ (Itl K a) H Qf:=by
 refine tM (n:=xs.length) Pv h0 hz hlen (fun i ys H2 hi p=>⟨xs,xs[i],hl i ys H2 p,by simp[hi]⟩) (fun ys H2 p=>⟨⟨xs,hl _ _ _ p,Nat.le_refl _⟩,hd ys H2 p⟩) ?_;intro i ys H2 x H3 hi p y;obtain⟨e,y⟩:=y;subst e;exact hs i ys _ x (y xs (hl i ys _ p)) p
def aCa(ns:List Int):Nat->Int
 |0=>-1
 |i+1=>ns.getD i 0
def pX(ns:List Int)(n:Int):Prop:=∀(i:Nat)x,ns[i]?=some x->aCa ns i<x/\x<n
theorem pX.lo{ns:List Int}{n:Int}(h:pX ns n):∀(i:Nat)x,ns[i]?=some x->0 <= x
 |0,x,e=>by have:(-1:Int)<x:=(h 0 x e).1;omega
 |i+1,x,e=>by
   have hl:=(List.getElem?_eq_some_iff.mp e).1;have hy:ns[i]?=some (ns[i]'(by omega)):=List.getElem?_eq_getElem _;have:=pX.lo h i _ hy;have h1:ns.getD i 0<x:=(h (i+1) x e).1;have e2:ns.getD i 0=ns[i]'(by omega):=by simp[List.getD,hy]
   omega
def aHe(r:mP)(ts:List Int):Prop:=∀(j:Nat)c,r[j]?=some (some c)->(j:Int)∈ts
def pW(m:Int)(T:gL)(hs ts:List Int):Prop:=pX hs T.length/\pX ts m/\ts.length<hs.length/\∀h∈hs,∀r,T[h.toNat]?=some r->aHe r ts
def bD(ex:List Addr)(H H':Hp):Prop:=∀a o,H a=some o->a∉ex->H' a=some o
theorem bD.refl{ex:List Addr}(H:Hp):bD ex H H:=fun _ _ h _=>h
theorem bD.trans{ex:List Addr}{H H1 H2:Hp}(a:bD ex H H1)(b:bD ex H1 H2):bD ex H H2:=fun c o h n=>b c o (a c o h n) n
theorem bD.mono{ex ex':List Addr}{H H':Hp}(a:bD ex H H')(h:∀x∈ex,x∈ex'):bD ex' H H':=fun c o e n=>a c o e fun z=>n (h c z)
theorem bD.upd{ex:List Addr}{H H':Hp}{a:Addr}{o:HO}(k:bD ex H H')(h:a∈ex):bD ex H (L2.upd H' a o):=fun c u e n=>by
 rw[aE (fun z:c=a=>n (z▸h))];exact k c u e n
theorem bD.new{ex:List Addr}{H H':Hp}{a:Addr}{o:HO}(k:bD ex H H')(h:H' a=none):bD ex H (L2.upd H' a o):=fun c u e n=>by
 have e':=k c u e n;rw[aE (aH e' h)];exact e'
theorem _root_.L2.Same.kept{ex:List Addr}{H H':Hp}(h:Same H H'):bD ex H H':=fun c o e _=>h c o e
theorem bD.same{H H':Hp}(k:bD [] H H'):Same H H':=fun c o e=>k c o e (fun z=>nomatch z)
def oV:Option Nat->V
 |none=>.non
 |some i=>.int (i:Int)
abbrev zs(l:List Nat):List Int:=l.map fun(n:Nat)=>(n:Int)
theorem tU{l:List Nat}{i:Nat}{x:V}(h:((zs l).map V.int)[i]?=some x):∃t,l[i]?=some t/\x=.int (t:Int):=by
 rw[List.getElem?_map,List.getElem?_map] at h;cases e:l[i]? with
 |none=>rw[e] at h;cases h
 |some t=>rw[e] at h;exact⟨t,rfl,(Option.some.inj h).symm⟩
theorem aG2{l:List Nat}{i t:Nat}(h:l[i]?=some t):((zs l).map V.int)[i]?=some (.int (t:Int)):=by
 rw[List.getElem?_map,List.getElem?_map,h];rfl
theorem jN{l:List Nat}{x:Int}:x∈zs l↔∃t,t∈l/\x=(t:Int):=by
 rw[List.mem_map];exact⟨fun⟨t,a,b⟩=>⟨t,a,b.symm⟩,fun⟨t,a,b⟩=>⟨t,a,b.symm⟩⟩
theorem tV:∀(l:List Nat)(t:Nat),(zs l).erase (t:Int)=zs (l.erase t)
 |[],_=>rfl
 |x::r,t=>by
   by_cases e:x=t
   . subst e;show((x:Int)::zs r).erase (x:Int)=zs ((x::r).erase x);rw[List.erase_cons_head,List.erase_cons_head]
   . show((x:Int)::zs r).erase (t:Int)=zs ((x::r).erase t);rw[List.erase_cons_tail (by simpa using fun z=>e (by omega)),List.erase_cons_tail (by simpa using e),tV r t];rfl
theorem iS{n j:Nat}(h:j<n):ixN n (j:Int)=some j:=by
 unfold ixN;rw[if_pos (by omega),if_pos (by omega)];simp
theorem cB{α:Type}(n:Nat)(f:Nat->α)(g:α->V):((tab n f).map g).length=n:=by rw[List.length_map,cV]
theorem cJ{α:Type}{n i:Nat}{f:Nat->α}{g:α->V}(h:i<n):atI ((tab n f).map g) (i:Int)=some (g (f i)):=dA (by rw[List.getElem?_map,cY h];rfl)
theorem iZ{α:Type}{n i:Nat}{f:Nat->α}{g:α->V}{v:α}(h:i<n):((tab n f).map g).set i (g v)=(tab n (kF f i v)).map g:=by
 rw[iM,aCx h,iM];refine lF fun j _=>?_;unfold kF;split <;> rfl
theorem kM{f:Str}{v x:V}:∀{fs:List (Str×V)},fs.lookup f=some x->(bI f v fs).length=fs.length
 |[],h=>by simp at h
 |(k,y)::r,h=>by
   show(if k=f then(k,v)::r else(k,y)::bI f v r).length=_;by_cases hk:k=f
   . rw[if_pos hk];rfl
   . rw[if_neg hk];have hb:(f==k)=false:=beq_eq_false_iff_ne.mpr fun z=>hk z.symm;rw[List.lookup_cons,hb] at h;rw[List.length_cons,List.length_cons,kM h]
structure BA where
 r:Addr
 p:Addr
 t:Addr
 h:Addr
structure BF (fs:List (Str×V)) (cnt:Int) (q:BA) (sh:V):Prop where
 count:fs.lookup ("count":Str)=some (.int cnt)
 rows:fs.lookup ("rows":Str)=some (.ref q.r)
 prices:fs.lookup ("prices":Str)=some (.ref q.p)
 tasks:fs.lookup ("tasks":Str)=some (.ref q.t)
 hands:fs.lookup ("hands":Str)=some (.ref q.h)
 short:fs.lookup ("short":Str)=some sh
 seat:fs.lookup ("seat":Str)=none
 len:fs.length<100
structure BS (C:Addr) (H:Hp) (b:Addr) (q:BA) (as:List Addr) (m n:Nat) (cnt:Int) (R:Nat->Nat->Option Int) (p:Nat->Int) (tk hd:Nat->Option Nat) (sh:V):Prop where
 ob:∃dx fs,H b=some (.ins C dx fs)/\BF fs cnt q sh
 rows:H q.r=some (.lst (as.map V.ref))
 len:as.length=n
 row:∀(i:Nat)a,as[i]?=some a->H a=some (.lst ((tab m (R i)).map aV))
 pr:H q.p=some (.lst ((tab m p).map V.int))
 tk:H q.t=some (.lst ((tab n tk).map oV))
 hd:H q.h=some (.lst ((tab m hd).map oV))
 pt:q.p≠q.t
 ph:q.p≠q.h
 th:q.t≠q.h
 rp:q.r≠q.p
 rt:q.r≠q.t
 rh:q.r≠q.h
 ap:∀a∈as,a≠q.p/\a≠q.t/\a≠q.h
def aEd(b:Addr)(q:BA)(as:List Addr)(x:Addr):Prop:=x≠b/\x≠q.r/\x≠q.p/\x≠q.t/\x≠q.h/\x∉as
section
variable{C b:Addr}{H H':Hp}{q:BA}{as:List Addr}{m n:Nat}{cnt:Int}{R:Nat->Nat->Option Int}{p p':Nat->Int}{tk hd tk' hd':Nat->Option Nat}{sh sh':V}{ex:List Addr}
theorem BS.kept(B:BS C H b q as m n cnt R p tk hd sh)(k:bD ex H H')(d:∀x∈ex,aEd b q as x):BS C H' b q as m n cnt R p tk hd sh:=by
 obtain⟨dx,fs,e,F⟩:=B.ob;refine⟨⟨dx,fs,k _ _ e fun z=>(d _ z).1 rfl,F⟩,k _ _ B.rows fun z=>(d _ z).2.1 rfl,B.len,fun i a ha=>k _ _ (B.row i a ha) fun z=>(d _ z).2.2.2.2.2 (List.mem_of_getElem? ha),k _ _ B.pr fun z=>(d _ z).2.2.1 rfl,k _ _ B.tk fun z=>(d _ z).2.2.2.1 rfl,k _ _ B.hd fun z=>(d _ z).2.2.2.2.1 rfl,B.pt,B.ph,B.th,B.rp,B.rt,B.rh,B.ap⟩
theorem BS.same(B:BS C H b q as m n cnt R p tk hd sh)(k:Same H H'):BS C H' b q as m n cnt R p tk hd sh:=B.kept (ex:=[]) k.kept fun x z=>nomatch z
theorem BS.off(B:BS C H b q as m n cnt R p tk hd sh){x:Addr}(h:H x=none):aEd b q as x:=by
 obtain⟨dx,fs,e,F⟩:=B.ob;refine⟨fun z=>(by rw[z,e] at h;cases h),fun z=>(by rw[z,B.rows] at h;cases h),fun z=>(by rw[z,B.pr] at h;cases h),fun z=>(by rw[z,B.tk] at h;cases h),fun z=>(by rw[z,B.hd] at h;cases h),fun z=>?_⟩;obtain⟨i,hi,e⟩:=List.getElem_of_mem z;have:=B.row i x (by rw[List.getElem?_eq_getElem hi,e]);rw[h] at this;cases this
theorem BS.row_at(B:BS C H b q as m n cnt R p tk hd sh){i:Nat}(hi:i<n):∃a,as[i]?=some a/\H a=some (.lst ((tab m (R i)).map aV))/\atI (as.map V.ref) (i:Int)=some (.ref a):=by
 have hl:i<as.length:=by rw[B.len];exact hi
 refine⟨as[i],List.getElem?_eq_getElem hl,B.row i _ (List.getElem?_eq_getElem hl),dA ?_⟩;rw[List.getElem?_map,List.getElem?_eq_getElem hl];rfl
theorem BS.setP(B:BS C H b q as m n cnt R p tk hd sh):BS C (upd H q.p (.lst ((tab m p').map V.int))) b q as m n cnt R p' tk hd sh:=by
 obtain⟨dx,fs,e,F⟩:=B.ob;refine⟨⟨dx,fs,?_,F⟩,?_,B.len,fun i a ha=>?_,aB,?_,?_,B.pt,B.ph,B.th,B.rp,B.rt,B.rh,B.ap⟩
 . rw[aE (bS e B.pr (by intro z;cases z))];exact e
 . rw[aE B.rp];exact B.rows
 . rw[aE (B.ap a (List.mem_of_getElem? ha)).1];exact B.row i a ha
 . rw[aE B.pt.symm];exact B.tk
 . rw[aE B.ph.symm];exact B.hd
theorem BS.setT(B:BS C H b q as m n cnt R p tk hd sh):BS C (upd H q.t (.lst ((tab n tk').map oV))) b q as m n cnt R p tk' hd sh:=by
 obtain⟨dx,fs,e,F⟩:=B.ob;refine⟨⟨dx,fs,?_,F⟩,?_,B.len,fun i a ha=>?_,?_,aB,?_,B.pt,B.ph,B.th,B.rp,B.rt,B.rh,B.ap⟩
 . rw[aE (bS e B.tk (by intro z;cases z))];exact e
 . rw[aE B.rt];exact B.rows
 . rw[aE (B.ap a (List.mem_of_getElem? ha)).2.1];exact B.row i a ha
 . rw[aE B.pt];exact B.pr
 . rw[aE B.th.symm];exact B.hd
theorem BS.setH(B:BS C H b q as m n cnt R p tk hd sh):BS C (upd H q.h (.lst ((tab m hd').map oV))) b q as m n cnt R p tk hd' sh:=by
 obtain⟨dx,fs,e,F⟩:=B.ob;refine⟨⟨dx,fs,?_,F⟩,?_,B.len,fun i a ha=>?_,?_,?_,aB,B.pt,B.ph,B.th,B.rp,B.rt,B.rh,B.ap⟩
 . rw[aE (bS e B.hd (by intro z;cases z))];exact e
 . rw[aE B.rh];exact B.rows
 . rw[aE (B.ap a (List.mem_of_getElem? ha)).2.2];exact B.row i a ha
 . rw[aE B.ph];exact B.pr
 . rw[aE B.th];exact B.tk
theorem BF.put{fs:List (Str×V)}(F:BF fs cnt q sh):BF (bI "short" sh' fs) cnt q sh'/\True:=by
 refine⟨⟨?_,?_,?_,?_,?_,?_,?_,?_⟩,trivial⟩
 . rw[aD,if_neg (by decide +kernel)];exact F.count
 . rw[aD,if_neg (by decide +kernel)];exact F.rows
 . rw[aD,if_neg (by decide +kernel)];exact F.prices
 . rw[aD,if_neg (by decide +kernel)];exact F.tasks
 . rw[aD,if_neg (by decide +kernel)];exact F.hands
 . rw[aD,if_pos rfl]
 . rw[aD,if_neg (by decide +kernel)];exact F.seat
 . exact Nat.lt_of_le_of_lt (Nat.le_of_eq (kM F.short)) F.len
theorem BS.short(B:BS C H b q as m n cnt R p tk hd sh){dx:Addr}{fs:List (Str×V)}(e:H b=some (.ins C dx fs))(F:BF fs cnt q sh):BS C (upd H b (.ins C dx (bI "short" sh' fs))) b q as m n cnt R p tk hd sh':=by
 have nl:∀{x:Addr}{xs:List V},H x=some (.lst xs)->x≠b:=fun h=>bS h e (by intro z;cases z);refine⟨⟨dx,_,aB,F.put.1⟩,?_,B.len,fun i a ha=>?_,?_,?_,?_,B.pt,B.ph,B.th,B.rp,B.rt,B.rh,B.ap⟩
 . rw[aE (nl B.rows)];exact B.rows
 . rw[aE (nl (B.row i a ha))];exact B.row i a ha
 . rw[aE (nl B.pr)];exact B.pr
 . rw[aE (nl B.tk)];exact B.tk
 . rw[aE (nl B.hd)];exact B.hd
end
structure SA where
 f:Addr
 t:Addr
 a:Addr
 r:Addr
structure SF (fs:List (Str×V)) (z:SA):Prop where
 far:fs.lookup ("far":Str)=some (.ref z.f)
 through:fs.lookup ("through":Str)=some (.ref z.t)
 ahead:fs.lookup ("ahead":Str)=some (.ref z.a)
 reached:fs.lookup ("reached":Str)=some (.ref z.r)
structure SS (C:Addr) (H:Hp) (s:Addr) (z:SA) (m:Nat) (far:Nat->Option Int) (thr:Nat->Option Nat) (ahead reached:List Nat):Prop where
 ob:∃dx fs,H s=some (.ins C dx fs)/\SF fs z
 far:H z.f=some (.lst ((tab m far).map aV))
 thr:H z.t=some (.lst ((tab m thr).map oV))
 ahd:H z.a=some (.lst ((zs ahead).map V.int))
 rch:H z.r=some (.lst ((zs reached).map V.int))
 ft:z.f≠z.t
 fa:z.f≠z.a
 fr:z.f≠z.r
 ta:z.t≠z.a
 tr:z.t≠z.r
 ar:z.a≠z.r
section
variable{C s:Addr}{H H':Hp}{z:SA}{m:Nat}{far far':Nat->Option Int}{thr thr':Nat->Option Nat}{ahead reached ahead' reached':List Nat}{ex:List Addr}
theorem SS.kept(S:SS C H s z m far thr ahead reached)(k:bD ex H H')(d:∀x∈ex,x≠s/\x≠z.f/\x≠z.t/\x≠z.a/\x≠z.r):SS C H' s z m far thr ahead reached:=by
 obtain⟨dx,fs,e,F⟩:=S.ob;exact⟨⟨dx,fs,k _ _ e fun y=>(d _ y).1 rfl,F⟩,k _ _ S.far fun y=>(d _ y).2.1 rfl,k _ _ S.thr fun y=>(d _ y).2.2.1 rfl,k _ _ S.ahd fun y=>(d _ y).2.2.2.1 rfl,k _ _ S.rch fun y=>(d _ y).2.2.2.2 rfl,S.ft,S.fa,S.fr,S.ta,S.tr,S.ar⟩
theorem SS.same(S:SS C H s z m far thr ahead reached)(k:Same H H'):SS C H' s z m far thr ahead reached:=S.kept (ex:=[]) k.kept fun x y=>nomatch y
theorem SS.setA(S:SS C H s z m far thr ahead reached):SS C (upd H z.a (.lst ((zs ahead').map V.int))) s z m far thr ahead' reached:=by
 obtain⟨dx,fs,e,F⟩:=S.ob;refine⟨⟨dx,fs,?_,F⟩,?_,?_,aB,?_,S.ft,S.fa,S.fr,S.ta,S.tr,S.ar⟩
 . rw[aE (bS e S.ahd (by intro y;cases y))];exact e
 . rw[aE S.fa];exact S.far
 . rw[aE S.ta];exact S.thr
 . rw[aE S.ar.symm];exact S.rch
theorem SS.setR(S:SS C H s z m far thr ahead reached):SS C (upd H z.r (.lst ((zs reached').map V.int))) s z m far thr ahead reached':=by
 obtain⟨dx,fs,e,F⟩:=S.ob;refine⟨⟨dx,fs,?_,F⟩,?_,?_,?_,aB,S.ft,S.fa,S.fr,S.ta,S.tr,S.ar⟩
 . rw[aE (bS e S.rch (by intro y;cases y))];exact e
 . rw[aE S.fr];exact S.far
 . rw[aE S.tr];exact S.thr
 . rw[aE S.ar];exact S.ahd
theorem SS.setFT(S:SS C H s z m far thr ahead reached)(k:bD [z.f,z.t] H H')(h1:H' z.f=some (.lst ((tab m far').map aV)))(h2:H' z.t=some (.lst ((tab m thr').map oV))):SS C H' s z m far' thr' ahead reached:=by
 obtain⟨dx,fs,e,F⟩:=S.ob;refine⟨⟨dx,fs,k _ _ e fun y=>?_,F⟩,h1,h2,k _ _ S.ahd fun y=>?_,k _ _ S.rch fun y=>?_,S.ft,S.fa,S.fr,S.ta,S.tr,S.ar⟩
 . rcases List.mem_cons.mp y with y|y
   . exact bS e S.far (by intro y;cases y) y
   . exact bS e S.thr (by intro y;cases y) (List.mem_singleton.mp y)
 . rcases List.mem_cons.mp y with y|y
   . exact S.fa.symm y
   . exact S.ta.symm (List.mem_singleton.mp y)
 . rcases List.mem_cons.mp y with y|y
   . exact S.fr.symm y
   . exact S.tr.symm (List.mem_singleton.mp y)
end
def aAi(b:Addr)(q:BA)(as:List Addr)(s:Addr)(z:SA):Prop:=aEd b q as s/\aEd b q as z.f/\aEd b q as z.t/\aEd b q as z.a/\aEd b q as z.r
structure CBd (K:W.Frag) (C:Addr):Prop where
 cl:Cls K C
 count:dG K C "count"
 rows:dG K C "rows"
 prices:dG K C "prices"
 tasks:dG K C "tasks"
 hands:dG K C "hands"
 short:dG K C "short"
structure CSr (K:W.Frag) (C:Addr):Prop where
 cl:Cls K C
 far:dG K C "far"
 through:dG K C "through"
 ahead:dG K C "ahead"
 reached:dG K C "reached"
def brd(T:gL):Nat->Nat->Option Int:=fun i t=>if i<T.length then((T.getD i [])[t]?).getD none else some 0
theorem aE6{T:gL}{m:Nat}(hw:rW m T){i:Nat}{r:mP}(h:T[i]?=some r):tab m (brd T i)=r:=by
 have hi:=(List.getElem?_eq_some_iff.mp h).1;have hl:r.length=m:=by have:=hw i r h;omega
 refine(sB hl fun t ht=>?_).symm;unfold brd;rw[if_pos hi,List.getD,h];show r[t]?=some ((r[t]?).getD none);rw[List.getElem?_eq_getElem (by omega)];rfl
theorem vH{T:gL}{i t:Nat}{r:mP}(h:T[i]?=some r):brd T i t=(r[t]?).getD none:=by
 have hi:=(List.getElem?_eq_some_iff.mp h).1;unfold brd;rw[if_pos hi,List.getD,h];rfl
theorem pU{T:gL}{i t:Nat}(h:T.length <= i):brd T i t=some 0:=by unfold brd;rw[if_neg (by omega)]
theorem aA7{o:Option (Option Int)}{c:Int}(h:o.getD none=some c):o=some (some c):=by
 cases o with
 |none=>cases h
 |some x=>exact congrArg some h
theorem tG{T:gL}{m n:Nat}(hw:rW m T)(hn:n=max T.length m){p:Nat->Int}{tk hd:Nat->Option Nat}(S:eS m n (brd T) p tk hd)(all:∀i,i<n->tk i≠none){least:Int}(hle:∀t,t<m->least <= p t)(hat:∀t,t<m->∃t',t'<m/\p t'=least):aAd m T ((List.range T.length).map fun i=>(((tk i).getD 0:Nat):Int)) ((tab m fun t=>p t - least)):=by
 obtain⟨hnm,hon⟩:=S.all all (by omega);have hval:∀i,i<n->∃t,tk i=some t:=fun i hi=>by
   cases e:tk i with
   |none=>exact absurd e (all i hi)
   |some t=>exact⟨t,rfl⟩
 have hTn:T.length <= n:=by omega
 have hget:∀(i:Nat)(t:Int),((List.range T.length).map fun i=>(((tk i).getD 0:Nat):Int))[i]?=some t->∃u:Nat,i<T.length/\tk i=some u/\t=(u:Int):=fun i t e=>by
   have hi:i<T.length:=by have:=(List.getElem?_eq_some_iff.mp e).1;simpa using this
   obtain⟨u,hu⟩:=hval i (by omega);rw[List.getElem?_map,List.getElem?_range hi] at e;have e':(((tk i).getD 0:Nat):Int)=t:=Option.some.inj e;rw[hu] at e';exact⟨u,hi,hu,e'.symm⟩
 refine⟨⟨by simp,?_,fun i r t h1 h2=>?_⟩,⟨by rw[cV],fun x hx=>?_⟩,fun i r t c x h1 h2 h3 h4 j c' x' h5 h6=>?_,fun j x hx=>?_⟩
 . refine(List.pairwise_map).mpr (List.Pairwise.imp_of_mem ?_ (List.pairwise_lt_range (n:=T.length)));intro a b ha hb hab e;have ha:=List.mem_range.mp ha;have hb:=List.mem_range.mp hb;obtain⟨t,e1⟩:=hval a (by omega);obtain⟨u,e2⟩:=hval b (by omega);rw[e1,e2] at e;have e:((t:Nat):Int)=(u:Int):=e;have:t=u:=by omega
   subst this;have k1:=(S.a a t (by omega) e1).2.1;have k2:=(S.a b t (by omega) e2).2.1;rw[k1] at k2;have:=Option.some.inj k2;omega
 . obtain⟨u,hi,hu,rfl⟩:=hget i t h2;obtain⟨_,_,c,hc,_⟩:=S.a i u (by omega) hu;rw[vH h1] at hc;exact⟨by omega,c,aA7 hc⟩
 . obtain⟨j,hj,e⟩:=List.getElem_of_mem hx;have hj':j<m:=by rw[cV] at hj;exact hj
   have:(tab m fun t=>p t - least)[j]?=some x:=by rw[List.getElem?_eq_getElem hj,e]
   rw[cY hj'] at this;have:=Option.some.inj this;have:=hle j hj';omega
 . obtain⟨u,hi,hu,rfl⟩:=hget i t h2;obtain⟨hum,_,c0,hc0,hfit⟩:=S.a i u (by omega) hu;have eu:((u:Int).toNat)=u:=by omega
   rw[eu] at h3 h4;obtain⟨_,rfl⟩:=jT h4;obtain⟨hj,rfl⟩:=jT h6;rw[vH h1,h3] at hc0;have hc0:c=c0:=Option.some.inj hc0;subst hc0;have:=hfit j c' hj (by rw[vH h1,h5];rfl);omega
 . obtain⟨hj,rfl⟩:=jT hx;obtain⟨i,hi,hti⟩:=hon j hj;by_cases hiT:i<T.length
   . refine .inr (List.mem_map.mpr ⟨i,List.mem_range.mpr hiT,?_⟩);rw[hti];rfl
   . obtain⟨_,_,c,hc,hfit⟩:=S.a i j (by omega) hti;rw[pU (by omega)] at hc;have hc:(0:Int)=c:=Option.some.inj hc;subst hc;obtain⟨t',ht',e'⟩:=hat j hj;have h1:=hfit t' 0 ht' (pU (by omega));have h2:=hle j hj;exact .inl (by omega)
theorem uM{ns:List Int}{k:Nat}(h1:ns.Pairwise (· <= ·))(h2:ns.Nodup)(h3:∀x∈ns,0 <= x/\x<k):pX ns k:=fun i x e=>by
 have hx:=h3 x (List.mem_of_getElem? e);refine⟨?_,hx.2⟩;cases i with
 |zero=>show(-1:Int)<x;omega
 |succ i=>
   obtain⟨hi,ex⟩:=List.getElem?_eq_some_iff.mp e;have a1:=List.pairwise_iff_getElem.mp h1 i (i+1) (by omega) hi (Nat.lt_succ_self i);have a2:=List.pairwise_iff_getElem.mp h2 i (i+1) (by omega) hi (Nat.lt_succ_self i);have e2:aCa ns (i+1)=ns[i]'(by omega):=by
     show ns.getD i 0=_;simp[List.getD,List.getElem?_eq_getElem (show i<ns.length by omega)]
   rw[e2,<- ex];omega
theorem tE{T:gL}{m n:Nat}(hw:rW m T)(hn:n=max T.length m){hd:Nat->Option Nat}{hand:Nat}{reached:List Nat}{g:Nat->Nat}(hhn:hand<n)(h2:∀t,t∈reached->t<m/\hd t=some (g t)/\g t<n/\g t≠hand)(h3:∀t t' h,t∈reached->t'∈reached->hd t=some h->hd t'=some h->t=t')(h4:∀h u c,(h=hand\/∃t,t∈reached/\hd t=some h)->u<m->brd T h u=some c->u∈reached)(h5:reached.Nodup){hs ts:List Int}(p1:hs.Perm (zs (hand::reached.map g)))(s1:hs.Pairwise (· <= ·))(p2:ts.Perm (zs reached))(s2:ts.Pairwise (· <= ·)):pW m T hs ts:=by
 have ndz:∀{l:List Nat},l.Nodup->(zs l).Nodup:=fun {l} h=>(List.pairwise_map).mpr (h.imp fun hab e=>hab (by omega));have ndg:(hand::reached.map g).Nodup:=by
   refine List.nodup_cons.mpr ⟨fun z=>?_,(List.pairwise_map).mpr (h5.imp_of_mem fun {a b} ha hb hab e=>?_)⟩
   . obtain⟨t,ht,e⟩:=List.mem_map.mp z;exact(h2 t ht).2.2.2 e
   . exact hab (h3 a b (g a) ha hb (h2 a ha).2.1 (by rw[e];exact(h2 b hb).2.1))
 have holds:∀h,h∈hand::reached.map g->h=hand\/∃t,t∈reached/\hd t=some h:=fun h hh=>by
   rcases List.mem_cons.mp hh with z|z
   . exact .inl z
   . obtain⟨t,ht,rfl⟩:=List.mem_map.mp z;exact .inr ⟨t,ht,(h2 t ht).2.1⟩
 have hlen:reached.length+1=(hand::reached.map g).length:=by rw[List.length_cons,List.length_map]
 have lt_n:∀h,h∈hand::reached.map g->h<n:=fun h hh=>by
   rcases List.mem_cons.mp hh with z|z
   . rw[z];exact hhn
   . obtain⟨t,ht,rfl⟩:=List.mem_map.mp z;exact(h2 t ht).2.2.1
 have real:∀h,h∈hand::reached.map g->h<T.length:=fun h hh=>by
   refine Decidable.byContradiction fun hc=>?_;have hnm:n=m:=by have:=lt_n h hh;omega
   have hall:∀u,u<m->u∈reached:=fun u hu=>h4 h u 0 (holds h hh) hu (pU (by omega));have a1:=kN n _ ndg lt_n;have a2:m <= reached.length:=by
     have:=qN hall;exact this
   omega
 refine⟨?_,?_,?_,fun h hh r hr j c hj=>?_⟩
 . refine uM s1 (p1.nodup_iff.mpr (ndz ndg)) fun x hx=>?_;obtain⟨h,hh,rfl⟩:=jN.mp (p1.mem_iff.mp hx);have:=real h hh;omega
 . refine uM s2 (p2.nodup_iff.mpr (ndz h5)) fun x hx=>?_;obtain⟨t,ht,rfl⟩:=jN.mp (p2.mem_iff.mp hx);have:=(h2 t ht).1;omega
 . rw[p1.length_eq,p2.length_eq,List.length_map,List.length_map];omega
 . obtain⟨h',hh',rfl⟩:=jN.mp (p1.mem_iff.mp hh);have e1:((h':Int).toNat)=h':=by omega
   rw[e1] at hr;have hjm:j<m:=by
     have:=(List.getElem?_eq_some_iff.mp hj).1;have:=hw h' r hr;omega
   have:=h4 h' j c (holds h' hh') hjm (by rw[vH hr,hj];rfl);exact p2.mem_iff.mpr (jN.mpr ⟨j,this,rfl⟩)
section
variable{P:Program}{w:World}{K:W.Frag}{mg:Str->Option Value}{base:Heap}{CB CS:Addr}
def sC(C:Addr):Sp:=fun vs H Q _=>∃(b:Addr)(q:BA)(as:List Addr)(m n:Nat)(cnt:Int)(R:Nat->Nat->Option Int)(p:Nat->Int)(tk hd:Nat->Option Nat)(sh:V)(h t:Nat),vs=[.ref b,.int (h:Int),.int (t:Int)]/\BS C H b q as m n cnt R p tk hd sh/\h<n/\t<m /\ ∀H',BS C H' b q as m n cnt R p (kF tk h (some t)) (kF hd t (some h)) sh->bD [q.t,q.h] H H'->Q .non H'
theorem aDk(T:CBd K CB){f:Addr}{fd:FuncData}(F:Fun K "seat" "Board.seat" iQ f fd):gO P w K mg base CX0 1 f fd ["self","hand","task"] (sC CB):=by
 refine F.ok qK (fun vs H Q E h=>?_) (fun cdv A outer s H vs Q E hr h=>?_)
 . obtain⟨b,q,as,m,n,cnt,R,p,tk,hd,sh,h,t,rfl,_⟩:=h;rfl
 . obtain⟨b,q,as,m,n,cnt,R,p,tk,hd,sh,h,t,rfl,S,hh,ht,k⟩:=h;obtain⟨dx,fs,e,FF⟩:=S.ob;refine⟨_,aC (lX (pv 2) (lZ (aY (pv 0) rfl) (pv 1) eV)) (aG (lX (pv 1) (lZ (aY (pv 0) rfl) (pv 2) eV))),?_⟩;have S1:BS CB (upd H q.t (.lst ((tab n (kF tk h (some t))).map oV))) b q as m n cnt R p (kF tk h (some t)) hd sh:=S.setT;have S2:=S1.setH (hd':=kF hd t (some h));obtain⟨dx1,fs1,e1,FF1⟩:=S1.ob;refine⟨_,rfl,_,rfl,b,CB,dx,fs,_,rfl,e,T.cl,T.tasks,FF.tasks,_,rfl,q.t,_,_,h,rfl,rfl,S.tk,iS (by rw[cB];exact hh),?_⟩;rw[show((tab n tk).map oV).set h (.int (t:Int))=(tab n (kF tk h (some t))).map oV from iZ (g:=oV) (v:=some t) hh];refine⟨_,rfl,_,rfl,b,CB,dx1,fs1,_,rfl,e1,T.cl,T.hands,FF1.hands,_,rfl,q.h,_,_,t,rfl,rfl,S1.hd,iS (by rw[cB];exact ht),?_⟩;rw[show((tab m hd).map oV).set t (.int (h:Int))=(tab m (kF hd t (some h))).map oV from iZ (g:=oV) (v:=some h) ht];exact k _ S2 (((bD.refl H).upd (by simp)).upd (by simp))
def uH(C:Addr):Sp:=fun vs H Q _=>∃(s dx:Addr)(m:Nat),vs=[.ref s,.int (m:Int)]/\H s=some (.ins C dx [])/\m <= 1000 /\ ∀(z:SA)(H':Hp),SS C H' s z m (fun _=>none) (fun _=>none) (List.range m) []->H z.f=none->H z.t=none->H z.a=none->H z.r=none->bD [s] H H'->Q .non H'
theorem oM{α:Type}(m:Nat)(x:α)(g:α->V):(List.replicate (m:Int).toNat [g x]).flatten=(tab m (fun _=>x)).map g:=by
 rw[iM];refine sB ?_ fun i hi=>?_
 . rw[yY];simp
 . rw[show(List.replicate (m:Int).toNat [g x]).flatten=List.replicate m (g x) by
     rw[show(m:Int).toNat=m from by omega];clear hi;induction m with
     |zero=>rfl
     |succ k ih=>rw[List.replicate_succ,List.flatten_cons,ih,List.replicate_succ];rfl,List.getElem?_replicate,if_pos hi]
theorem aB9(B:Blt mg)(T:CSr K CS){f:Addr}{fd:FuncData}(F:Fun K "__init__" "Search.__init__" gF f fd):gO P w K mg base CX0 1 f fd ["self","many"] (uH CS):=by
 refine F.ok mS (fun vs H Q E h=>?_) (fun cdv A outer s H vs Q E hr h=>?_)
 . obtain⟨x,dx,m,rfl,_⟩:=h;rfl
 . obtain⟨x,dx,m,rfl,e,hm,k⟩:=h;refine⟨_,aC (dO (pv 0) (bF qR (cF (aA bW aF)) (pv 1)) rfl) (aC (dO (pv 0) (bF qR (cF (aA bW aF)) (pv 1)) rfl) (aC (dO (pv 0) (cO (pT rfl) (by rfl) B.list boot_list (aA (cO tO (by rfl) B.range boot_range (aA (pv 1) aF)) aF)) rfl) (aG (dO (pv 0) (cF aF) rfl)))),?_⟩;have b63:(m:Int)<2 ^ 63:=by omega
   refine⟨by show 1 <= sizeLine;decide,fun l0 hl0=>?_⟩;refine⟨_,rfl,l0,_,_,rfl,rfl,aB,by omega,b63,by show 1*_ <= sizeLine;exact Nat.le_of_lt (bR (by omega)),fun zf hzf=>?_⟩;have n0:x≠l0:=aH e hl0;have e0:upd H l0 (.lst [.non]) x=some (.ins CS dx []):=by rw[aE n0];exact e
   have nzf:x≠zf:=aH e0 hzf;refine⟨_,rfl,x,CS,dx,[],rfl,by rw[aE nzf];exact e0,T.cl,T.far,by show 0<1000;decide,?_⟩;generalize hH1:upd (upd (upd H l0 (.lst [.non])) zf (.lst (List.replicate (m:Int).toNat [V.non]).flatten)) x (.ins CS dx (bI "far" (.ref zf) []))=H1;have x1:H1 x=some (.ins CS dx (bI "far" (.ref zf) [])):=by rw[<- hH1];exact aB
   have f1:H1 zf=some (.lst ((tab m (fun _=>(none:Option Int))).map aV)):=by
     rw[<- hH1,aE nzf.symm,aB];exact congrArg (fun l=>some (HO.lst l)) (oM m (none:Option Int) aV)
   have k1:bD [x] H H1:=by rw[<- hH1];exact(((bD.refl H).new hl0).new hzf).upd (by simp)
   have free1:∀a,H1 a=none->H a=none/\a≠x/\a≠zf:=fun a ha=>by
     have a1:a≠x:=fun z=>by rw[z,x1] at ha;cases ha
     refine⟨?_,a1,fun z=>by rw[z,f1] at ha;cases ha⟩;cases q:H a with
     |none=>rfl
     |some o=>rw[k1 a o q (by simpa using a1)] at ha;cases ha
   have hzfH:H zf=none:=by
     have:zf≠l0:=fun z=>by rw[z,aB] at hzf;cases hzf
     rw[aE this] at hzf;exact hzf
   clear hH1;refine⟨by show 1 <= sizeLine;decide,fun l1 hl1=>?_⟩;refine⟨_,rfl,l1,_,_,rfl,rfl,aB,by omega,b63,by show 1*_ <= sizeLine;exact Nat.le_of_lt (bR (by omega)),fun zt hzt=>?_⟩;have n1:x≠l1:=aH x1 hl1;have e1:upd H1 l1 (.lst [.non]) x=some (.ins CS dx (bI "far" (.ref zf) [])):=by rw[aE n1];exact x1
   have nzt:x≠zt:=aH e1 hzt;have hzt1:H1 zt=none:=by
     have:zt≠l1:=fun z=>by rw[z,aB] at hzt;cases hzt
     rw[aE this] at hzt;exact hzt
   refine⟨_,rfl,x,CS,dx,_,rfl,by rw[aE nzt];exact e1,T.cl,T.through,Nat.lt_of_le_of_lt (aK ..) (by show 0+1<1000;decide),?_⟩;generalize hH2:upd (upd (upd H1 l1 (.lst [.non])) zt (.lst (List.replicate (m:Int).toNat [V.non]).flatten)) x (.ins CS dx (bI "through" (.ref zt) (bI "far" (.ref zf) [])))=H2;have x2:H2 x=some (.ins CS dx (bI "through" (.ref zt) (bI "far" (.ref zf) []))):=by rw[<- hH2];exact aB
   have f2:H2 zt=some (.lst ((tab m (fun _=>(none:Option Nat))).map oV)):=by
     rw[<- hH2,aE nzt.symm,aB];exact congrArg (fun l=>some (HO.lst l)) (oM m (none:Option Nat) oV)
   have k2:bD [x] H1 H2:=by rw[<- hH2];exact(((bD.refl H1).new hl1).new hzt).upd (by simp)
   have free2:∀a,H2 a=none->H1 a=none/\a≠x/\a≠zt:=fun a ha=>by
     have a1:a≠x:=fun z=>by rw[z,x2] at ha;cases ha
     refine⟨?_,a1,fun z=>by rw[z,f2] at ha;cases ha⟩;cases q:H1 a with
     |none=>rfl
     |some o=>rw[k2 a o q (by simpa using a1)] at ha;cases ha
   clear hH2;refine⟨_,rfl,_,rfl,fun rg hrg=>?_⟩;refine⟨rg,0,(m:Int),rfl,aB,by decide,by decide,by omega,by omega,by omega,fun za hza=>?_⟩;have n3:x≠rg:=aH x2 hrg;have e3:upd H2 rg (.rng 0 (m:Int)) x=some (.ins CS dx (bI "through" (.ref zt) (bI "far" (.ref zf) []))):=by rw[aE n3];exact x2
   have nza:x≠za:=aH e3 hza;have hza2:H2 za=none:=by
     have:za≠rg:=fun z=>by rw[z,aB] at hza;cases hza
     rw[aE this] at hza;exact hza
   refine⟨_,rfl,x,CS,dx,_,rfl,by rw[aE nza];exact e3,T.cl,T.ahead,Nat.lt_of_le_of_lt (Nat.le_trans (aK ..) (Nat.succ_le_succ (aK ..))) (by show 0+1+1<1000;decide),?_⟩;generalize hH3:upd (upd (upd H2 rg (.rng 0 (m:Int))) za (.lst ((List.range ((m:Int) - 0).toNat).map fun(i:Nat)=>V.int (0+(i:Int))))) x (.ins CS dx (bI "ahead" (.ref za) (bI "through" (.ref zt) (bI "far" (.ref zf) []))))=H3;have x3:H3 x=some (.ins CS dx (bI "ahead" (.ref za) (bI "through" (.ref zt) (bI "far" (.ref zf) [])))):=by rw[<- hH3];exact aB
   have f3:H3 za=some (.lst ((zs (List.range m)).map V.int)):=by
     rw[<- hH3,aE nza.symm,aB];refine congrArg (fun l=>some (HO.lst l)) ?_;rw[show((m:Int) - 0).toNat=m from by omega,List.map_map];refine List.map_congr_left fun i _=>?_;rw[Int.zero_add];rfl
   have k3:bD [x] H2 H3:=by rw[<- hH3];exact(((bD.refl H2).new hrg).new hza).upd (by simp)
   have free3:∀a,H3 a=none->H2 a=none/\a≠x/\a≠za:=fun a ha=>by
     have a1:a≠x:=fun z=>by rw[z,x3] at ha;cases ha
     refine⟨?_,a1,fun z=>by rw[z,f3] at ha;cases ha⟩;cases q:H2 a with
     |none=>rfl
     |some o=>rw[k3 a o q (by simpa using a1)] at ha;cases ha
   clear hH3;refine⟨by show 0 <= sizeLine;decide,fun zr hzr=>?_⟩;have nzr:x≠zr:=aH x3 hzr;refine⟨_,rfl,x,CS,dx,_,rfl,by rw[aE nzr];exact x3,T.cl,T.reached,Nat.lt_of_le_of_lt (Nat.le_trans (aK ..) (Nat.succ_le_succ (Nat.le_trans (aK ..) (Nat.succ_le_succ (aK ..))))) (by show 0+1+1+1<1000;decide),?_⟩;have fr3:=free3 zr hzr;have fr2:=free2 zr fr3.1;have fr1:=free1 zr fr2.1;have ga2:=free2 za hza2;have ga1:=free1 za ga2.1;have gt1:=free1 zt hzt1;have sx:∀{a:Addr},a≠x->a∉[x]:=fun h=>by simpa using h
   refine k ⟨zf,zt,za,zr⟩ _ ⟨⟨dx,_,aB,⟨?_,?_,?_,?_⟩⟩,?_,?_,?_,?_,gt1.2.2.symm,ga1.2.2.symm,fr1.2.2.symm,ga2.2.2.symm,fr2.2.2.symm,fr3.2.2.symm⟩ hzfH gt1.1 ga1.1 fr1.1 ((((k1.trans k2).trans k3).new hzr).upd (by simp))
   . rw[aD,if_neg (by decide +kernel),aD,if_neg (by decide +kernel),aD,if_neg (by decide +kernel),aD,if_pos rfl]
   . rw[aD,if_neg (by decide +kernel),aD,if_neg (by decide +kernel),aD,if_pos rfl]
   . rw[aD,if_neg (by decide +kernel),aD,if_pos rfl]
   . rw[aD,if_pos rfl]
   . rw[aE nzf.symm,aE fr1.2.2.symm];exact k3 _ _ (k2 _ _ f1 (sx nzf.symm)) (sx nzf.symm)
   . rw[aE nzt.symm,aE fr2.2.2.symm];exact k3 _ _ f2 (sx nzt.symm)
   . rw[aE nza.symm,aE fr3.2.2.symm];exact f3
   . rw[aE nzr.symm];exact aB
end
section
variable{P:Program}{w:World}{K:W.Frag}{mg:Str->Option Value}{base:Heap}{CB CS:Addr}
theorem iY{l:List Nat}{i t:Nat}(h:l[i]?=some t):l.take (i+1)=l.take i++[t]:=by rw[List.take_add_one,h];rfl
theorem uA{l:List Nat}{i t:Nat}(hn:l.Nodup)(h:l[i]?=some t):t∉l.take i:=fun z=>by
 obtain⟨j,hj,e⟩:=List.getElem_of_mem z;rw[List.length_take] at hj;rw[List.getElem_take] at e;have:=mF hn (i:=j) (j:=i) (x:=t) (by rw[<- e];exact List.getElem?_eq_getElem _) h;omega
def xI(CB CS:Addr):Sp:=fun vs H Q _=>∃(b:Addr)(q:BA)(as:List Addr)(m n:Nat)(cnt:Int)(R:Nat->Nat->Option Int)(p:Nat->Int)(tk hd:Nat->Option Nat)(sh:V)(s:Addr)(z:SA)(far:Nat->Option Int)(thr:Nat->Option Nat)(ahead reached:List Nat)(h:Nat)(bef:Int),vs=[.ref b,.ref s,.int (h:Int),.int bef]/\BS CB H b q as m n cnt R p tk hd sh/\SS CS H s z m far thr ahead reached/\aAi b q as s z/\h<n/\(∀t,t∈ahead->t<m)/\ahead.Nodup /\ ∀H' far' thr',eC R p h bef ahead far thr far' thr'->SS CS H' s z m far' thr' ahead reached->bD [z.f,z.t] H H'->Q .non H'
theorem qT(T:CBd K CB)(U:CSr K CS)(D:cE K mg "look_from" iN ["board","search","hand","before"]):Has P w K mg base 1 "look_from" ["board","search","hand","before"] (xI CB CS):=by
 refine D.has cM (fun vs H Q E h=>?_) fun f cdv A outer s₁ H vs Q E hr h=>?_
 . obtain⟨b,q,as,m,n,cnt,R,p,tk,hd,sh,s,z,far,thr,ahead,reached,h,bef,rfl,_⟩:=h;rfl
 . obtain⟨b,q,as,m,n,cnt,R,p,tk,hd,sh,s,z,far,thr,ahead,reached,h,bef,rfl,B,S,ap,hh,hlt,hnd,k⟩:=h;obtain⟨dx,fs,e,F⟩:=B.ob;obtain⟨dy,gs,e2,G⟩:=S.ob;obtain⟨a,ha,hrow,hat⟩:=B.row_at hh;have ham:a∈as:=List.mem_of_getElem? ha;have keepA:∀{H2:Hp}{x:Addr}{o:HO},bD [z.f,z.t] H H2->x≠z.f->x≠z.t->H x=some o->H2 x=some o:=fun kk h1 h2 hx=>kk _ _ hx (by simp[h1,h2]);refine⟨_,aC (aX (i:=4) cM.nd rfl (Or.inl rfl) (aR aQ (aY (pv 0) rfl) (pv 2) (fun _ _=>rfl))) (aC (aX (i:=5) cM.nd rfl (Or.inl rfl) (aY (pv 0) rfl)) (aC (aX (i:=6) cM.nd rfl (Or.inl rfl) (aY (pv 1) rfl)) (aC (aX (i:=7) cM.nd rfl (Or.inl rfl) (aY (pv 1) rfl)) (aG (dM PassesOwn.never rfl (cC (aY (pv 1) rfl)) (bB (i:=8) cM.nd rfl (Or.inl rfl)) (aG (bC (aP eA (aR aQ (pv 4) (pv 8) (fun _ _=>rfl)) bW (aU _)) (aC (aX (i:=9) cM.nd rfl (Or.inl rfl) (bF eN (bF eN (pv 3) (aR aQ (pv 4) (pv 8) (fun _ _=>rfl))) (aR aQ (pv 5) (pv 8) (fun _ _=>rfl)))) (aG (bC ((dW (aP nH (aR aQ (pv 6) (pv 8) (fun _ _=>rfl)) bW (aU _)) (dI (aP mT (pv 9) (aR aQ (pv 6) (pv 8) (fun _ _=>rfl)) (aU _))))).pt (aC (lX (pv 9) (lZ (pv 6) (pv 8) eV)) (aG (lX (pv 2) (lZ (pv 7) (pv 8) eV)))) aT))) aT))))))),?_⟩;refine⟨_,rfl,b,CB,dx,fs,_,rfl,e,T.cl,T.rows,F.rows,_,rfl,q.r,_,_,.ref a,rfl,rfl,SqL.of B.rows,hat,?_⟩;refine⟨_,rfl,b,CB,dx,fs,_,rfl,e,T.cl,T.prices,F.prices,?_⟩;refine⟨_,rfl,s,CS,dy,gs,_,rfl,e2,U.cl,U.far,G.far,?_⟩;refine⟨_,rfl,s,CS,dy,gs,_,rfl,e2,U.cl,U.through,G.through,?_⟩;refine⟨_,rfl,s,CS,dy,gs,_,rfl,e2,U.cl,U.ahead,G.ahead,z.a,rfl,⟨_,SqL.of S.ahd⟩,?_⟩;refine fA (K:=K) (a:=z.a) (xs:=(zs ahead).map V.int) (fun i σ H2=>∃(far':Nat->Option Int)(thr':Nat->Option Nat)(v8 v9:Option V),σ=[some (.ref b),some (.ref s),some (.int (h:Int)),some (.int bef),some (.ref a),some (.ref q.p),some (.ref z.f),some (.ref z.t),v8,v9] /\ eC R p h bef (ahead.take i) far thr far' thr'/\H2 z.f=some (.lst ((tab m far').map aV))/\H2 z.t=some (.lst ((tab m thr').map oV))/\bD [z.f,z.t] H H2) ⟨far,thr,none,none,rfl,eC.nil,S.far,S.thr,bD.refl H⟩ (fun i σ H2 _ ⟨_,_,_,_,_,_,_,_,kk⟩=>SqL.of (keepA kk S.fa.symm S.ta.symm S.ahd)) ?_ ?_
   . rintro i x σ H2 hx ⟨far',thr',v8,v9,rfl,L,hf,ht,kk⟩;obtain⟨t,hat',rfl⟩:=tU hx;have htm:t<m:=hlt t (List.mem_of_getElem? hat');have hnot:=uA hnd hat';have hsn:=iY hat';have hA2:H2 a=some (.lst ((tab m (R h)).map aV)):=keepA kk (fun y=>ap.2.1.2.2.2.2.2 (y▸ham)) (fun y=>ap.2.2.1.2.2.2.2.2 (y▸ham)) hrow;have hP2:H2 q.p=some (.lst ((tab m p).map V.int)):=keepA kk ap.2.1.2.2.1.symm ap.2.2.1.2.2.1.symm B.pr;have atR:atI ((tab m (R h)).map aV) (t:Int)=some (aV (R h t)):=cJ htm;have atP:atI ((tab m p).map V.int) (t:Int)=some (.int (p t)):=cJ htm;have atF:atI ((tab m far').map aV) (t:Int)=some (aV (far' t)):=cJ htm;have eF:far' t=far t:=(L.out t hnot).1;refine⟨_,rfl,_,rfl,a,_,_,aV (R h t),rfl,rfl,SqL.of hA2,atR,rfl,_,rfl,?_⟩;cases hR:R h t with
     |none=>
       refine cI ⟨far',thr',_,_,rfl,?_,hf,ht,kk⟩;rw[hsn]
       exact L.stay hnot fun c z=>by rw[hR] at z;cases z
     |some c=>
       rw[hR] at atR;refine iH ⟨_,rfl,_,rfl,_,rfl,a,_,_,.int c,rfl,rfl,SqL.of hA2,atR,_,_,rfl,rfl,_,rfl,_,rfl,q.p,_,_,.int (p t),rfl,rfl,SqL.of hP2,atP,_,_,rfl,rfl,?_⟩;have put:(∀d,far t=some d->bef+c+p t<d)->∃(far'':Nat->Option Int)(thr'':Nat->Option Nat),eC R p h bef (ahead.take (i+1)) far thr far'' thr'' /\ (upd (upd H2 z.f (.lst (((tab m far').map aV).set t (.int (bef+c+p t))))) z.t (.lst (((tab m thr').map oV).set t (.int (h:Int))))) z.f=some (.lst ((tab m far'').map aV)) /\ (upd (upd H2 z.f (.lst (((tab m far').map aV).set t (.int (bef+c+p t))))) z.t (.lst (((tab m thr').map oV).set t (.int (h:Int))))) z.t=some (.lst ((tab m thr'').map oV)) /\ bD [z.f,z.t] H (upd (upd H2 z.f (.lst (((tab m far').map aV).set t (.int (bef+c+p t))))) z.t (.lst (((tab m thr').map oV).set t (.int (h:Int))))):=fun hd'=>by
         refine⟨kF far' t (some (bef+c+p t)),kF thr' t (some h),by rw[hsn];exact L.put hnot hR hd',?_,?_,(kk.upd (by simp)).upd (by simp)⟩
         . rw[aE S.ft,aB,show((tab m far').map aV).set t (.int (bef+c+p t))=(tab m (kF far' t (some (bef+c+p t)))).map aV from iZ (g:=aV) (v:=some (bef+c+p t)) htm]
         . rw[aB,show((tab m thr').map oV).set t (.int (h:Int))=(tab m (kF thr' t (some h))).map oV from iZ (g:=oV) (v:=some h) htm]
       have ht':∀o,(upd H2 z.f o) z.t=some (.lst ((tab m thr').map oV)):=fun o=>by rw[aE S.ft.symm];exact ht
       refine⟨_,rfl,_,rfl,z.f,_,_,aV (far' t),rfl,rfl,SqL.of hf,atF,rfl,_,rfl,?_⟩;cases hFt:far' t with
       |none=>
         obtain⟨far'',thr'',p1,p2,p3,p4⟩:=put fun d z=>by rw[eF] at hFt;rw[hFt] at z;cases z
         refine iH ⟨_,rfl,_,rfl,_,rfl,z.f,_,_,t,rfl,rfl,hf,iS (by rw[cB];exact htm),?_⟩;refine⟨_,rfl,_,rfl,_,rfl,z.t,_,_,t,rfl,rfl,ht' _,iS (by rw[cB];exact htm),?_⟩;exact⟨far'',thr'',_,_,rfl,p1,p2,p3,p4⟩
       |some d=>
         rw[hFt] at atF;refine cI ⟨_,rfl,_,rfl,_,rfl,z.f,_,_,.int d,rfl,rfl,SqL.of hf,atF,_,_,rfl,rfl,_,rfl,?_⟩;refine eE (fun hl=>?_) (fun hl=>?_)
         . have hl':bef+c+p t<d:=of_decide_eq_true hl;obtain⟨far'',thr'',p1,p2,p3,p4⟩:=put fun d' z=>by rw[<- eF,hFt] at z;cases z;exact hl'
           refine⟨_,rfl,_,rfl,_,rfl,z.f,_,_,t,rfl,rfl,hf,iS (by rw[cB];exact htm),?_⟩;refine⟨_,rfl,_,rfl,_,rfl,z.t,_,_,t,rfl,rfl,ht' _,iS (by rw[cB];exact htm),?_⟩;exact⟨far'',thr'',_,_,rfl,p1,p2,p3,p4⟩
         . have hl':¬ bef+c+p t<d:=fun y=>hl (decide_eq_true y);refine⟨far',thr',_,_,rfl,?_,hf,ht,kk⟩;rw[hsn];exact L.stay hnot fun c' y=>by rw[hR] at y;cases y;exact⟨d,by rw[<- eF];exact hFt,by omega⟩
   . rintro σ H2 ⟨far',thr',v8,v9,rfl,L,hf,ht,kk⟩;rw[List.length_map,List.length_map,List.take_of_length_le (Nat.le_refl _)] at L;exact k H2 far' thr' L (S.setFT kk hf ht) kk
def hU(l:List Nat):Option Nat:=l[l.length - 1]?
theorem sX{l:List Nat}{t:Nat}(h:hU l=some t):atI ((zs l).map V.int) (-1)=some (.int (t:Int)):=by
 have hl:0<l.length:=Nat.lt_of_le_of_lt (Nat.zero_le _) (List.getElem?_eq_some_iff.mp h).1;have e:ixN ((zs l).map V.int).length (-1)=some (l.length - 1):=by
   rw[List.length_map,List.length_map];unfold ixN;rw[if_neg (by decide),if_pos (by omega)];congr 1;omega
 unfold atI;rw[e];exact aG2 h
def wH(hd:Nat->Option Nat)(reached:List Nat):Bool:=match hU reached with|none=>false|some t=>(hd t).isNone
theorem kD{hd:Nat->Option Nat}{reached:List Nat}{t:Nat}(h:hU reached=some t):wH hd reached=(hd t).isNone:=by unfold wH;rw[h]
theorem wG{hd:Nat->Option Nat}{reached:List Nat}(h:hU reached=none):wH hd reached=false:=by unfold wH;rw[h]
def xM(CB CS:Addr):Sp:=fun vs H Q _=>∃(b:Addr)(q:BA)(as:List Addr)(m n:Nat)(cnt:Int)(R:Nat->Nat->Option Int)(p:Nat->Int)(tk hd:Nat->Option Nat)(sh:V)(s:Addr)(z:SA)(far:Nat->Option Int)(thr:Nat->Option Nat)(ahead reached:List Nat),vs=[.ref b,.ref s]/\BS CB H b q as m n cnt R p tk hd sh/\SS CS H s z m far thr ahead reached/\(∀t,t∈reached->t<m)/\Q (.bl (wH hd reached)) H
theorem sT(B:Blt mg)(T:CBd K CB)(U:CSr K CS)(D:cE K mg "has_goal" jX ["board","search"]):Has P w K mg base 1 "has_goal" ["board","search"] (xM CB CS):=by
 refine D.has sF (fun vs H Q E h=>?_) fun f cdv A outer s₁ H vs Q E hr h=>?_
 . obtain⟨b,q,as,m,n,cnt,R,p,tk,hd,sh,s,z,far,thr,ahead,reached,rfl,_⟩:=h;rfl
 . obtain⟨b,q,as,m,n,cnt,R,p,tk,hd,sh,s,z,far,thr,ahead,reached,rfl,BB,S,hlt,k⟩:=h;obtain⟨dx,fs,e,F⟩:=BB.ob;obtain⟨dy,gs,e2,G⟩:=S.ob;refine⟨_,aG (aS (uS (gW yL (aM aO (by rfl) B.len boot_len (aA (aY (pv 1) rfl) aF)) aJ (aU _)) (uQ (gW nH (aR aQ (aY (pv 0) rfl) (aR aQ (aY (pv 1) rfl) (vT nA aJ) (fun _ _=>rfl)) (fun _ _=>rfl)) bW (aU _))))),?_⟩;refine⟨_,rfl,s,CS,dy,gs,_,rfl,e2,U.cl,U.reached,G.reached,z.r,_,rfl,.inl (SqL.of S.rch),_,_,rfl,rfl,_,rfl,?_⟩;refine eE (fun h0=>?_) (fun h0=>?_)
   . have h0':(0:Int)<(((zs reached).map V.int).length:Int):=of_decide_eq_true h0;rw[List.length_map,List.length_map] at h0';have hl:hU reached=some (reached[reached.length - 1]'(by omega)):=List.getElem?_eq_getElem _;generalize reached[reached.length - 1]'(by omega)=t at hl;have htm:=hlt t (List.mem_of_getElem? hl);rw[kD hl] at k;refine⟨_,rfl,b,CB,dx,fs,_,rfl,e,T.cl,T.hands,F.hands,_,rfl,s,CS,dy,gs,_,rfl,e2,U.cl,U.reached,G.reached,_,rfl,z.r,_,_,.int (t:Int),rfl,rfl,SqL.of S.rch,sX hl,q.h,_,_,oV (hd t),rfl,rfl,SqL.of BB.hd,cJ htm,rfl,?_⟩;have k':Q (.bl (hd t).isNone) H:=k;cases hh:hd t with
     |none=>rw[hh] at k';exact k'
     |some x=>rw[hh] at k';exact k'
   . have h0':reached=[]:=by
       cases reached with
       |nil=>rfl
       |cons x r=>exact absurd (decide_eq_true (by rw[List.length_map,List.length_map,List.length_cons];omega)) h0
     subst h0';exact k
def uE(CB CS:Addr):Sp:=fun vs H Q _=>∃(b:Addr)(q:BA)(as:List Addr)(m n:Nat)(cnt:Int)(R:Nat->Nat->Option Int)(p:Nat->Int)(tk hd:Nat->Option Nat)(sh:V)(s:Addr)(z:SA)(far:Nat->Option Int)(thr:Nat->Option Nat)(ahead reached:List Nat)(t:Nat)(g:Int),vs=[.ref b,.ref s]/\BS CB H b q as m n cnt R p tk hd sh/\SS CS H s z m far thr ahead reached/\aAi b q as s z/\reached.Nodup/\(∀t,t∈reached->t<m/\∃d,far t=some d)/\hU reached=some t/\far t=some g /\ ∀H',BS CB H' b q as m n cnt R (cR reached far g p) tk hd sh->bD [q.p] H H'->Q .non H'
theorem mB(T:CBd K CB)(U:CSr K CS)(D:cE K mg "raise_prices" fE ["board","search"]):Has P w K mg base 1 "raise_prices" ["board","search"] (uE CB CS):=by
 refine D.has eL (fun vs H Q E h=>?_) fun f cdv A outer s₁ H vs Q E hr h=>?_
 . obtain⟨b,q,as,m,n,cnt,R,p,tk,hd,sh,s,z,far,thr,ahead,reached,t,g,rfl,_⟩:=h;rfl
 . obtain⟨b,q,as,m,n,cnt,R,p,tk,hd,sh,s,z,far,thr,ahead,reached,t,g,rfl,BB,S,ap,hnd,hin,hl,hg,k⟩:=h;obtain⟨dx,fs,e,F⟩:=BB.ob;obtain⟨dy,gs,e2,G⟩:=S.ob;have htm:=(hin t (List.mem_of_getElem? hl)).1;refine⟨_,aC (aX (i:=2) eL.nd rfl (Or.inl rfl) (aR aQ (aY (pv 1) rfl) (aR aQ (aY (pv 1) rfl) (vT nA aJ) (fun _ _=>rfl)) (fun _ _=>rfl))) (aG (dM PassesOwn.never rfl (cC (aY (pv 1) rfl)) (bB (i:=3) eL.nd rfl (Or.inl rfl)) (aG (aD9 (aY (pv 0) rfl) (pv 3) aBo (bF iL (pv 2) (aR aQ (aY (pv 1) rfl) (pv 3) (fun _ _=>rfl))) aFf eV)))),?_⟩;have atG:atI ((tab m far).map aV) (t:Int)=some (.int g):=by rw[cJ htm,hg];rfl
   refine⟨_,rfl,s,CS,dy,gs,_,rfl,e2,U.cl,U.far,G.far,_,rfl,s,CS,dy,gs,_,rfl,e2,U.cl,U.reached,G.reached,_,rfl,z.r,_,_,.int (t:Int),rfl,rfl,SqL.of S.rch,sX hl,z.f,_,_,.int g,rfl,rfl,SqL.of S.far,atG,?_⟩;refine⟨_,rfl,s,CS,dy,gs,_,rfl,e2,U.cl,U.reached,G.reached,z.r,rfl,⟨_,SqL.of S.rch⟩,?_⟩;have offp:∀{H2:Hp}{x:Addr}{o:HO},bD [q.p] H H2->x≠q.p->H x=some o->H2 x=some o:=fun kk hx h=>kk _ _ h (by simpa using hx);refine fA (K:=K) (a:=z.r) (xs:=(zs reached).map V.int) (fun i σ H2=>∃v3,σ=[some (.ref b),some (.ref s),some (.int g),v3]/\BS CB H2 b q as m n cnt R (cR (reached.take i) far g p) tk hd sh/\bD [q.p] H H2) ⟨none,rfl,BB,bD.refl H⟩ (fun i σ H2 _ ⟨_,_,_,kk⟩=>SqL.of (offp kk ap.2.2.2.2.2.2.1 S.rch)) ?_ ?_
   . rintro i x σ H2 hx ⟨v3,rfl,B2,kk⟩;obtain⟨u,hu,rfl⟩:=tU hx;obtain⟨hum,d,hd'⟩:=hin u (List.mem_of_getElem? hu);have hnot:=uA hnd hu;have hsn:=iY hu;obtain⟨dx2,fs2,e',F'⟩:=B2.ob;have e2':=offp kk (ap.1.2.2.1) e2;have hf2:=offp kk ap.2.1.2.2.1 S.far;have atF:atI ((tab m far).map aV) (u:Int)=some (.int d):=by rw[cJ hum,hd'];rfl
     have atP:atI ((tab m (cR (reached.take i) far g p)).map V.int) (u:Int)=some (.int (p u)):=by
       rw[cJ hum];unfold cR;rw[if_neg hnot]
     refine⟨_,rfl,b,CB,dx2,fs2,_,rfl,e',T.cl,T.prices,F'.prices,_,rfl,q.p,_,_,.int (p u),rfl,rfl,SqL.of B2.pr,by omega,atP,?_⟩;refine⟨_,rfl,_,rfl,s,CS,dy,gs,_,rfl,e2',U.cl,U.far,G.far,_,rfl,z.f,_,_,.int d,rfl,rfl,SqL.of hf2,atF,_,_,rfl,rfl,_,_,rfl,rfl,?_⟩;refine⟨q.p,_,_,u,rfl,rfl,B2.pr,iS (by rw[cB];exact hum),?_⟩;refine⟨_,rfl,?_,kk.upd (by simp)⟩;have e3:((tab m (cR (reached.take i) far g p)).map V.int).set u (.int (p u+(g - d)))=(tab m (cR (reached.take (i+1)) far g p)).map V.int:=by
       rw[iZ (g:=V.int) (v:=p u+(g - d)) hum,hsn];refine congrArg (List.map V.int) (lF fun j _=>?_);by_cases y:j=u
       . subst y;rw[bK];unfold cR;rw[if_pos (List.mem_append_right _ (List.mem_singleton.mpr rfl)),hd'];rfl
       . rw[bN y];unfold cR;by_cases y2:j∈reached.take i
         . rw[if_pos y2,if_pos (List.mem_append_left _ y2)]
         . rw[if_neg y2,if_neg fun w=>(List.mem_append.mp w).elim y2 fun w=>y (List.mem_singleton.mp w)]
     rw[e3];exact B2.setP
   . rintro σ H2 ⟨v3,rfl,B2,kk⟩;rw[List.length_map,List.length_map,List.take_of_length_le (Nat.le_refl _)] at B2;exact k H2 B2 kk
end
theorem wW(a b:List Nat):zs (a++b)=zs a++zs b:=List.map_append ..
theorem bD.off{ex:List Addr}{H H':Hp}{a:Addr}{o:HO}(k:bD ex H H')(h:H a=none):bD ex H (L2.upd H' a o):=fun c u e n=>by
 rw[aE (aH e h)];exact k c u e n
theorem bD.then{ex ex2:List Addr}{H H1 H2:Hp}(k:bD ex H H1)(k2:bD ex2 H1 H2)(h:∀x∈ex2,H x=none\/x∈ex):bD ex H H2:=fun c o e n=>
 k2 c o (k c o e n) fun z=>(h c z).elim (fun y=>by rw[e] at y;cases y) n
def aCb:Option HO->Prop
 |some (.tbl _)=>False
 |some (.ext _)=>False
 |_=>True
theorem _root_.L2.TabOk.kept{ex:List Addr}{H H':Hp}{T:Addr}{pos:Pos}{q:Str}(h:TabOk H T pos q)(k:bD ex H H')(d:∀x∈ex,aCb (H x)):TabOk H' T pos q:=by
 obtain⟨ps,h1,h2⟩:=h;refine⟨ps,k _ _ h1 fun z=>?_,?_⟩
 . have:=d _ z;rw[h1] at this;exact this
 . rcases h2 with z|⟨c,z1,z2⟩
   . exact .inl z
   . refine .inr ⟨c,z1,k _ _ z2 fun z=>?_⟩;have:=d _ z;rw[z2] at this;exact this
theorem sO{X:Cx}{K:W.Frag}{e:Expr}{f:Str}{pos:Pos}{ta:TE}(hK:X.K=K)(he:PE X e ta)(hb:attributeBase e f X.env (eval e X.env)=eval e X.env):PE X (.Attribute e f pos) (aH7 K ta f):=hK▸aY he hb
section
variable{P:Program}{w:World}{K:W.Frag}{mg:Str->Option Value}{base:Heap}{CB CS:Addr}
def xG(CB CS:Addr):Sp:=fun vs H Q _=>∃(b:Addr)(q:BA)(as:List Addr)(m n:Nat)(cnt:Int)(R:Nat->Nat->Option Int)(p p':Nat->Int)(tk hd:Nat->Option Nat)(sh:V)(s:Addr)(z:SA)(far:Nat->Option Int)(thr:Nat->Option Nat)(ahead reached:List Nat)(hand t:Nat),vs=[.ref b,.ref s]/\BS CB H b q as m n cnt R p' tk hd sh/\SS CS H s z m far thr ahead reached/\aAi b q as s z/\aFu m n R p' tk hd hand thr reached/\eS m n R p tk hd/\tk hand=none/\hand<n/\hU reached=some t/\hd t=none /\ ∀H' tk' hd',eS m n R p' tk' hd'->tk' hand≠none->(∀h,h<n->tk h≠none->tk' h≠none)->BS CB H' b q as m n cnt R p' tk' hd' sh->bD [q.t,q.h] H H'->Q .non H'
theorem oZ(T:CBd K CB)(U:CSr K CS)(Gs:aEh P w K mg base 1 CB "seat" ["self","hand","task"] (sC CB))(D:cE K mg "move_along" gR ["board","search"]):Has P w K mg base 2 "move_along" ["board","search"] (xG CB CS):=by
 refine D.has dL (fun vs H Q E h=>?_) fun f cdv A outer s₁ H vs Q E hr h=>?_
 . obtain⟨b,q,as,m,n,cnt,R,p,p',tk,hd,sh,s,z,far,thr,ahead,reached,hand,t,rfl,_⟩:=h;rfl
 . obtain⟨b,q,as,m,n,cnt,R,p,p',tk,hd,sh,s,z,far,thr,ahead,reached,hand,t,rfl,BB,S,ap,GG,SE,hfree,hhn,hl,hn,k⟩:=h;obtain⟨dy,gs,e2,G⟩:=S.ob;refine⟨_,aC (aX (i:=2) dL.nd rfl (Or.inl rfl) (aR aQ (aY (pv 1) rfl) (vT nA aJ) (fun _ _=>rfl))) (aG (oO PassesOwn.never (aP eA (pv 2) bW (aU _)) (aC (aX (i:=3) dL.nd rfl (Or.inl rfl) (aR aQ (aY (pv 1) rfl) (pv 2) (fun _ _=>rfl))) (aC (aX (i:=4) dL.nd rfl (Or.inl rfl) (aR aQ (aY (pv 0) rfl) (pv 3) (fun _ _=>rfl))) (aC (bE (aCd Gs hr (pv 0) (aA (pv 3) (aA (pv 2) aF)))) (aG (aX (i:=2) dL.nd rfl (Or.inl rfl) (pv 4)))))))),?_⟩;refine⟨_,rfl,s,CS,dy,gs,_,rfl,e2,U.cl,U.reached,G.reached,_,rfl,z.r,_,_,.int (t:Int),rfl,rfl,SqL.of S.rch,sX hl,?_⟩;have off:∀{H2:Hp}{x:Addr}{o:HO},bD [q.t,q.h] H H2->x≠q.t->x≠q.h->H x=some o->H2 x=some o:=fun kk h1 h2 h=>kk _ _ h (by simp[h1,h2])
   let W:Nat->L2.St->Hp->Prop:=fun j σ H2=>∃(cur:Option Nat)(tk2 hd2:Nat->Option Nat)(v3 v4:Option V),σ=[some (.ref b),some (.ref s),some (oV cur),v3,v4]/\MI m n R p' hand tk reached cur tk2 hd2/\BS CB H2 b q as m n cnt R p' tk2 hd2 sh/\bD [q.t,q.h] H H2 /\
     ∀u,cur=some u->∃i:Nat,reached[i]?=some u/\j=i+1
   refine⟨W,⟨_,some t,tk,hd,none,none,rfl,MI.first GG SE hfree hl hn,BB,bD.refl H,fun u hu=>by cases hu;exact⟨_,hl,rfl⟩⟩,?_⟩;rintro j σ H2 ⟨cur,tk2,hd2,v3,v4,rfl,M,B2,kk,hj⟩;refine⟨_,rfl,rfl,_,rfl,?_⟩;cases cur with
   |none=>
     obtain⟨l1,l2,l3⟩:=M.last;exact cI (k H2 tk2 hd2 l1 l2 l3 B2 kk)
   |some u=>
     refine iH ⟨fun σ' H'=>∃m',m'<j/\W m' σ' H',fun σ' H' z=>z,?_⟩;obtain⟨h,m1,m2,m3,m4,m5⟩:=M.next GG SE hfree hhn;obtain⟨i0,hi0,rfl⟩:=hj u rfl;obtain⟨dx2,fs2,e',F'⟩:=B2.ob;have e2':=off kk ap.1.2.2.2.1 ap.1.2.2.2.2.1 e2;have ht2:=off kk ap.2.2.1.2.2.2.1 ap.2.2.1.2.2.2.2.1 S.thr;have atT:atI ((tab m thr).map oV) (u:Int)=some (.int (h:Int)):=by rw[cJ m3,m1];rfl
     refine⟨_,rfl,s,CS,dy,gs,_,rfl,e2',U.cl,U.through,G.through,_,rfl,z.t,_,_,.int (h:Int),rfl,rfl,SqL.of ht2,atT,?_⟩;refine⟨_,rfl,b,CB,dx2,fs2,_,rfl,e',T.cl,T.tasks,F'.tasks,_,rfl,q.t,_,_,oV (tk2 h),rfl,rfl,SqL.of B2.tk,cJ m2,?_⟩;refine⟨_,rfl,b,dx2,fs2,rfl,e',F'.seat,_,rfl,_,rfl,b,q,as,m,n,cnt,R,p',tk2,hd2,sh,h,u,rfl,B2,m2,m3,fun H3 B3 k3=>?_⟩;refine⟨_,rfl,?_⟩;cases hcur:tk2 h with
     |none=>
       rw[hcur] at m4;exact⟨0,Nat.succ_pos _,none,_,_,_,_,rfl,m4,B3,kk.trans k3,fun u hu=>nomatch hu⟩
     |some u'=>
       rw[hcur] at m4;obtain⟨i1,j1,y1,y2,y3⟩:=m5 u' hcur;have:=mF GG.rN y1 hi0;exact⟨j1+1,by omega,some u',_,_,_,_,rfl,m4,B3,kk.trans k3,fun v hv=>by cases hv;exact⟨j1,y2,rfl⟩⟩
def lG(CB CS:Addr):Sp:=fun vs H Q _=>∃(b:Addr)(q:BA)(as:List Addr)(m n:Nat)(cnt:Int)(R:Nat->Nat->Option Int)(p:Nat->Int)(tk hd:Nat->Option Nat)(sh:V)(s:Addr)(z:SA)(far:Nat->Option Int)(thr:Nat->Option Nat)(ahead reached:List Nat)(hand:Nat)(g:Nat->Nat),vs=[.ref b,.ref s,.int (hand:Int)]/\BS CB H b q as m n cnt R p tk hd sh/\SS CS H s z m far thr ahead reached/\reached.length <= 50/\(∀t,t∈reached->t<m/\hd t=some (g t)) /\ ∀H'(tp l1 l2:Addr)(hs ts:List Int),H' tp=some (.tup [.ref l1,.ref l2])->H' l1=some (.lst (hs.map V.int))->H' l2=some (.lst (ts.map V.int))->hs.Perm (zs (hand::reached.map g))->hs.Pairwise (· <= ·)->ts.Perm (zs reached)->ts.Pairwise (· <= ·)->Same H H'->H l1=none/\H l2=none->Q (.ref tp) H'
theorem sP(B:Blt mg)(hsort:mg "sorted"=none)(hboot:bootBuiltins "sorted"=some (.builtin "sorted"))(T:CBd K CB)(U:CSr K CS)(D:cE K mg "shortage" iE ["board","search","hand"]):Has P w K mg base 1 "shortage" ["board","search","hand"] (lG CB CS):=by
 refine D.has sE (fun vs H Q E h=>?_) fun f cdv A outer s₁ H vs Q E hr h=>?_
 . obtain⟨b,q,as,m,n,cnt,R,p,tk,hd,sh,s,z,far,thr,ahead,reached,hand,g,rfl,_⟩:=h;rfl
 . obtain⟨b,q,as,m,n,cnt,R,p,tk,hd,sh,s,z,far,thr,ahead,reached,hand,g,rfl,BB,S,h50,hin,k⟩:=h;obtain⟨dx,fs,e,F⟩:=BB.ob;obtain⟨dy,gs,e2,G⟩:=S.ob;refine⟨_,aG (aS (eY (aA (aM iT (by rfl) hsort hboot (aA (bF yM (cF (aA (pv 2) aF)) (gH (sc:=aI iE) (XN:=["board","search","hand"]) (own:=["task"]) (fr:=["board"]) (js:=[0]) rfl rfl rfl (⟨rfl,by decide +kernel,by decide +kernel,by decide +kernel,rfl,by decide +kernel⟩) (cC (aY (pv 1) rfl)) (fun _ _ _ _ _=>(bB (i:=0) (show List.Nodup (["task","board"]:List Str) by decide +kernel) rfl (Or.inl rfl))) (fun _ _ _ _ _=>fJ) (fun _ _ _ _ _=>(aR (jO (K:=K) rfl) (sO (K:=K) rfl (pv 1) rfl) (pv 0) (fun _ _=>rfl))))) aF)) (aA (aM iT (by rfl) hsort hboot (aA (aY (pv 1) rfl) aF)) aF)))),?_⟩;refine⟨_,rfl,by show 1 <= sizeLine;decide,fun l0 hl0=>?_⟩;have S0:=S.same (H':=upd H l0 (.lst [.int (hand:Int)])) ((Same.refl H).upd hl0);have B0:=BB.same (H':=upd H l0 (.lst [.int (hand:Int)])) ((Same.refl H).upd hl0);obtain⟨dy0,gs0,e20,G0⟩:=S0.ob;refine⟨_,rfl,s,CS,dy0,gs0,_,rfl,e20,U.cl,U.reached,G0.reached,z.r,rfl,⟨_,SqL.of S0.rch⟩,?_⟩;refine fB (K:=K) (xs:=(zs reached).map V.int) (fun i ys H2=>Same (upd H l0 (.lst [.int (hand:Int)])) H2/\ys=(zs ((reached.take i).map g)).map V.int) ⟨Same.refl _,rfl⟩ (by rw[List.length_map,List.length_map];omega) ?_ (fun i ys H2 p=>p.1.seq (SqL.of S0.rch)) ?_ ?_
   . rintro i ys H2 ⟨_,rfl⟩;rw[List.length_map,List.length_map,List.length_map,List.length_take];omega
   . rintro ys H2 ⟨sm,rfl⟩ l1 hl1;rw[List.length_map,List.length_map,List.take_of_length_le (Nat.le_refl _)];have m0:H2 l0=some (.lst [.int (hand:Int)]):=sm _ _ aB;refine⟨l0,l1,_,_,rfl,rfl,by rw[aE (aH m0 hl1)];exact m0,aB,?_,fun l2 hl2=>?_⟩
     . rw[List.length_map,List.length_map,List.length_map];exact Nat.le_trans (show 1+reached.length <= 51 by omega) (by decide)
     refine⟨l2,zs (hand::reached.map g),rfl,SqL.of ?_,?_,fun l3 hs hl3 hp hs'=>?_⟩
     . rw[aB];rfl
     . rw[List.length_map,List.length_cons,List.length_map];omega
     have sm3:Same H (upd (upd (upd H2 l1 (.lst ((zs (reached.map g)).map V.int))) l2 (.lst ([V.int (hand:Int)]++(zs (reached.map g)).map V.int))) l3 (.lst (hs.map V.int))):= (((((Same.refl H).upd hl0).trans sm).upd hl1).upd hl2).upd hl3;have S3:=S.same sm3;obtain⟨dy3,gs3,e23,G3⟩:=S3.ob;refine⟨_,rfl,s,CS,dy3,gs3,_,rfl,e23,U.cl,U.reached,G3.reached,z.r,zs reached,rfl,SqL.of S3.rch,by rw[List.length_map];omega,fun l4 ts hl4 hp2 hs2=>?_⟩;refine⟨by show 2 <= sizeLine;decide,fun tp htp=>?_⟩;refine k _ tp l3 l4 hs ts aB ?_ ?_ hp hs' hp2 hs2 ((sm3.upd hl4).upd htp) ⟨(((((Same.refl H).upd hl0).trans sm).upd hl1).upd hl2).free hl3,sm3.free hl4⟩
     . rw[aE,aE,aB]
       . exact fun y=>by rw[<- y,aB] at hl4;cases hl4
       . exact fun y=>by rw[<- y,aE,aB] at htp;cases htp;exact fun y=>by rw[<- y,aB] at hl4;cases hl4
     . rw[aE,aB];exact fun y=>by rw[<- y,aB] at htp;cases htp
   . rintro i ys H2 x hx ⟨sm,rfl⟩;obtain⟨t,ht,rfl⟩:=tU hx;obtain⟨htm,hg⟩:=hin t (List.mem_of_getElem? ht);have B2:=B0.same sm;obtain⟨dx2,fs2,e',F'⟩:=B2.ob;have atH:atI ((tab m hd).map oV) (t:Int)=some (.int (g t:Int)):=by rw[cJ htm,hg];rfl
     refine⟨_,rfl,b,CB,dx2,fs2,_,rfl,e',T.cl,T.hands,F'.hands,_,rfl,q.h,_,_,.int (g t:Int),rfl,rfl,SqL.of B2.hd,atH,?_⟩;refine⟨sm,?_⟩;rw[iY ht,List.map_append,wW,List.map_append];rfl
end
def aFz(s:Stmt):Expr:=match (bM s).getD 3 (.Pass ⟨0,0,0,0⟩) with
 |.Return (some (.Call _ _ (k::_) _)) _=>k.value
 |_=>.Constant .none 0 ⟨0,0,0,0⟩
def aI3:Expr->Arguments
 |.Lambda a _ _ _=>a
 |_=>⟨[],[],none,[],[],none,[]⟩
def aI2:Expr->Expr
 |.Lambda _ b _ _=>b
 |e=>e
def aI0(d:Scope):Expr->Scope
 |.Lambda _ _ s _=>s
 |_=>d
def aI1:Expr->Pos
 |.Lambda _ _ _ p=>p
 |_=>⟨0,0,0,0⟩
abbrev lmA:Arguments:=aI3 (aFz dC)
abbrev lmB:Expr:=aI2 (aFz dC)
abbrev lmS:Scope:=aI0 (aI dC) (aFz dC)
abbrev lmP:Pos:=aI1 (aFz dC)
abbrev lmQ:Str := "nearest.<locals>.<lambda>"
abbrev fW(H:Hp)(T:Addr):Prop:=TabOk H T lmP lmQ
def aHi(far:Nat->Option Int)(ahead:List Nat):Option Nat->Prop
 |none=>∀t,t∈ahead->far t=none
 |some t=>t∈ahead/\∃d,far t=some d/\∀u e,u∈ahead->far u=some e->d <= e
section
variable{P:Program}{w:World}{K:W.Frag}{mg:Str->Option Value}{base:Heap}{CB CS cN TN:Addr}
def nC(CB CS TN:Addr):Sp:=fun vs H Q _=>∃(b:Addr)(q:BA)(as:List Addr)(m n:Nat)(cnt:Int)(R:Nat->Nat->Option Int)(p:Nat->Int)(tk hd:Nat->Option Nat)(sh:V)(s:Addr)(z:SA)(far:Nat->Option Int)(thr:Nat->Option Nat)(ahead reached:List Nat),vs=[.ref b,.ref s]/\BS CB H b q as m n cnt R p tk hd sh/\SS CS H s z m far thr ahead reached/\(∀t,t∈ahead->t<m)/\ahead.length <= 1000/\fW H TN /\ ∀H' cur,aHi far ahead cur->bD [TN] H H'->fW H' TN->Q (oV cur) H'
theorem aC8:aC2 (aI dC) ["board","search","far","hands","known"] lmS "task" ["far","hands"] [2,3]:=⟨rfl,rfl,rfl,by decide +kernel,by decide +kernel,by decide +kernel,rfl,by decide +kernel⟩
theorem vZ(B:Blt mg)(T:CBd K CB)(U:CSr K CS)(hBM:rX mg base)(hC:W.CodeHd base cN TN)(D:vK K mg "nearest" dC ["board","search"] cN):Has P w K mg base 3 "nearest" ["board","search"] (nC CB CS TN):=by
 refine D.has iD (fun vs H Q E h=>?_) fun f A outer s₁ H vs Q E hr h=>?_
 . obtain⟨b,q,as,m,n,cnt,R,p,tk,hd,sh,s,z,far,thr,ahead,reached,rfl,_⟩:=h;rfl
 . obtain⟨b,q,as,m,n,cnt,R,p,tk,hd,sh,s,z,far,thr,ahead,reached,rfl,BB,S,hlt,hlen,hTab,k⟩:=h;obtain⟨dx,fs,e,F⟩:=BB.ob;obtain⟨dy,gs,e2,G⟩:=S.ob;refine⟨_,aC (aX (i:=2) iD.nd rfl (Or.inr rfl) (aY (pv 1) rfl)) (aC (aX (i:=3) iD.nd rfl (Or.inr rfl) (aY (pv 0) rfl)) (aC (oQ (i:=4) (sc:=aI dC) (XN:=["board","search","far","hands","known"]) (own:=["task"]) (fr:=["far"]) (js:=[2]) iD.nd rfl rfl rfl rfl rfl rfl (⟨rfl,by decide +kernel,by decide +kernel,by decide +kernel,rfl,by decide +kernel⟩) (cC (aY (pv 1) rfl)) (fun _ _ _ _ _=>(bB (i:=0) (show List.Nodup (["task","far"]:List Str) by decide +kernel) rfl (Or.inl rfl))) (fun _ _ _ _ _=>(sM (aP eA (aR (jO (K:=K) rfl) (pv 1) (pv 0) (fun _ _=>rfl)) bW (aU _)))) (fun _ _ _ _ _=>(pv 0))) (aG (aS (vW (wQ (sc:=lmS) (pr:=lmA) (body:=lmB) (q:=lmQ) (x := "task") (fr:=["far","hands"]) (js:=[2,3]) rfl hr aC8 (fun _ _ _ _=>rfl) (fun _ _ _ _=>eY (aA (aR (jO (K:=K) rfl) (pv 1) (pv 0) (fun _ _=>rfl)) (aA (gW eA (aR (jO (K:=K) rfl) (pv 2) (pv 0) (fun _ _=>rfl)) bW (aU _)) aF)))) (by rfl) B.min boot_min (aA (pv 4) aF) (oS (aF3 (q:=lmQ) rfl hC hBM rfl aC8.free) (oS bW yF))))))),?_⟩;refine⟨_,rfl,s,CS,dy,gs,_,rfl,e2,U.cl,U.far,G.far,?_⟩;refine⟨_,rfl,b,CB,dx,fs,_,rfl,e,T.cl,T.hands,F.hands,?_⟩;refine⟨_,rfl,s,CS,dy,gs,_,rfl,e2,U.cl,U.ahead,G.ahead,z.a,rfl,⟨_,SqL.of S.ahd⟩,?_⟩;refine fB (K:=K) (xs:=(zs ahead).map V.int) (fun i ys H2=>Same H H2/\ys=(zs ((ahead.take i).filter fun t=>(far t).isSome)).map V.int) ⟨Same.refl _,rfl⟩ (by rw[List.length_map,List.length_map];exact hlen) ?_ (fun i ys H2 p=>p.1.seq (SqL.of S.ahd)) ?_ ?_
   . rintro i ys H2 ⟨_,rfl⟩;rw[List.length_map,List.length_map];exact Nat.le_trans (List.length_filter_le _ _) (by rw[List.length_take];exact Nat.min_le_left _ _)
   . rintro ys H2 ⟨sm,rfl⟩ l hl;rw[List.length_map,List.length_map,List.take_of_length_le (Nat.le_refl _)];have sm1:Same H (upd H2 l (.lst ((zs (ahead.filter fun t=>(far t).isSome)).map V.int))):=sm.upd hl;refine⟨_,rfl,hTab.same sm1,fun f' c' H3 hf3 kT fr3 tab3 hlam hcode=>?_⟩;have nT:∀{x:Addr}{xs:List V},H x=some (.lst xs)->x≠TN:=fun hx=>by
       obtain⟨ps,h1,_⟩:=hTab;exact bS hx h1 (by intro y;cases y)
     have nl:l≠TN:=fun y=>by
       obtain⟨ps,h1,_⟩:=hTab;have:=sm _ _ h1;rw[<- y,hl] at this;cases this
     have hl3:H3 l=some (.lst ((zs (ahead.filter fun t=>(far t).isSome)).map V.int)):=kT _ _ nl aB;have hf3':H3 z.f=some (.lst ((tab m far).map aV)):=kT _ _ (nT S.far) (sm1 _ _ S.far);have hh3:H3 q.h=some (.lst ((tab m hd).map oV)):=kT _ _ (nT BB.hd) (sm1 _ _ BB.hd);refine⟨l,zs (ahead.filter fun t=>(far t).isSome),f',c',.non,fun x=>((far x.toNat).getD 0,(hd x.toNat).isSome),rfl,rfl,SqL.of hl3,hlam,hcode,fun x hx H4 sm4=>?_,fun v H4 sm4 hv=>?_⟩
     . obtain⟨t,ht,rfl⟩:=jN.mp hx;obtain⟨ht1,ht2⟩:=List.mem_filter.mp ht;have htm:=hlt t ht1;obtain⟨d,hd'⟩:=Option.isSome_iff_exists.mp ht2;have atF:atI ((tab m far).map aV) (t:Int)=some (.int d):=by rw[cJ htm,hd'];rfl
       have atH:atI ((tab m hd).map oV) (t:Int)=some (oV (hd t)):=cJ htm;refine⟨_,rfl,_,rfl,z.f,_,_,.int d,rfl,rfl,SqL.of (sm4 _ _ hf3'),atF,_,rfl,_,rfl,q.h,_,_,oV (hd t),rfl,rfl,SqL.of (sm4 _ _ hh3),atH,rfl,by show 2 <= sizeLine;decide,fun tp htp=>⟨(Same.refl H4).upd htp,tp,rfl,?_⟩⟩;rw[aB];have e1:((t:Int).toNat)=t:=by omega
       show some (HO.tup [V.int d,V.bl _])=some (HO.tup [V.int ((far (t:Int).toNat).getD 0),V.bl (hd (t:Int).toNat).isSome]);rw[e1,hd'];cases hd t <;> rfl
     . have kp:bD [TN] H H4:=fun a o ha hn=>sm4 _ _ (kT a o (by simpa using hn) (sm1 _ _ ha));have tb4:fW H4 TN:=tab3.same sm4;rcases hv with⟨h0,rfl⟩|⟨x,hx,rfl,hmin⟩
       . refine k H4 none (fun t ht=>?_) kp tb4;cases hft:far t with
         |none=>rfl
         |some d=>
           have:(t:Int)∈zs (ahead.filter fun t=>(far t).isSome):=jN.mpr ⟨t,List.mem_filter.mpr ⟨ht,by rw[hft];rfl⟩,rfl⟩;rw[h0] at this;cases this
       . obtain⟨t,ht,rfl⟩:=jN.mp hx;obtain⟨ht1,ht2⟩:=List.mem_filter.mp ht;obtain⟨d,hd'⟩:=Option.isSome_iff_exists.mp ht2;refine k H4 (some t) ⟨ht1,d,hd',fun u g hu hg=>?_⟩ kp tb4;have:=hmin (u:Int) (jN.mpr ⟨u,List.mem_filter.mpr ⟨hu,by rw[hg];rfl⟩,rfl⟩);have e1:((t:Int).toNat)=t:=by omega
         have e2:((u:Int).toNat)=u:=by omega
         dsimp only at this;rw[e1,e2,hd',hg] at this;exact this
   . rintro i ys H2 x hx ⟨sm,rfl⟩;obtain⟨t,ht,rfl⟩:=tU hx;have htm:=hlt t (List.mem_of_getElem? ht);refine⟨_,rfl,_,rfl,z.f,_,_,aV (far t),rfl,rfl,SqL.of (sm _ _ S.far),cJ htm,rfl,_,rfl,?_⟩;have e3:(ahead.take (i+1)).filter (fun t=>(far t).isSome)=(ahead.take i).filter (fun t=>(far t).isSome)++(if(far t).isSome=true then [t] else []):=by
       rw[iY ht,List.filter_append];congr 1;by_cases y:(far t).isSome=true
       . rw[if_pos y];simp[List.filter,y]
       . rw[if_neg y];simp[List.filter,y]
     cases hft:far t with
     |none=>
       refine cI ⟨sm,?_⟩;rw[e3,hft,if_neg (by simp),List.append_nil]
     |some d=>
       refine iH ⟨_,rfl,sm,?_⟩;rw[e3,hft,if_pos (show(some d).isSome=true from rfl),wW,List.map_append];rfl
inductive aH1 (m n:Nat) (R:Nat->Nat->Option Int) (p:Nat->Int) (tk hd:Nat->Option Nat) (hand:Nat) (far:Nat->Option Int) (thr:Nat->Option Nat) (reached:List Nat):Prop where
 |goal (t:Nat) (g:Int) (h1:hU reached=some t) (h2:hd t=none) (h3:far t=some g) (h4:∀u,u∈reached->u<m/\∃d,far u=some d) (h5:aFu m n R (cR reached far g p) tk hd hand thr reached)
 |stuck (h1:∀t,hU reached=some t->(hd t).isNone=false) (h2:∀t,t∈reached->t<m/\∃h,hd t=some h/\h<n/\h≠hand) (h3:∀t t' h,t∈reached->t'∈reached->hd t=some h->hd t'=some h->t=t')
   (h4:∀h u c,(h=hand\/∃t,t∈reached/\hd t=some h)->u<m->R h u=some c->u∈reached) (h5:reached.Nodup)
def lJ(CB CS TN:Addr):Sp:=fun vs H Q _=>∃(b:Addr)(q:BA)(as:List Addr)(m n:Nat)(cnt:Int)(R:Nat->Nat->Option Int)(p:Nat->Int)(tk hd:Nat->Option Nat)(sh:V)(hand:Nat),vs=[.ref b,.int (hand:Int)]/\BS CB H b q as m n cnt R p tk hd sh/\eS m n R p tk hd/\tk hand=none/\hand<n/\m <= 1000/\fW H TN /\ ∀H'(s:Addr)(z:SA)far thr ahead reached,BS CB H' b q as m n cnt R p tk hd sh->SS CS H' s z m far thr ahead reached->aAi b q as s z->aH1 m n R p tk hd hand far thr reached->bD [TN] H H'->fW H' TN->Q (.ref s) H'
theorem sS(B:Blt mg)(T:CBd K CB)(U:CSr K CS)(G1:aFt P w K mg base 1 "Search" CS ["self","many"] (uH CS))(G2:Has P w K mg base 1 "look_from" ["board","search","hand","before"] (xI CB CS))(G3:Has P w K mg base 3 "nearest" ["board","search"] (nC CB CS TN))(D:cE K mg "searched" jV ["board","hand"]):Has P w K mg base 4 "searched" ["board","hand"] (lJ CB CS TN):=by
 refine D.has eI (fun vs H Q E h=>?_) fun f cdv A outer s₁ H vs Q E hr h=>?_
 . obtain⟨b,q,as,m,n,cnt,R,p,tk,hd,sh,hand,rfl,_⟩:=h;rfl
 . obtain⟨b,q,as,m,n,cnt,R,p,tk,hd,sh,hand,rfl,BB,SE,hfree,hhn,hm,hTab,k⟩:=h;obtain⟨dx,fs,e,F⟩:=BB.ob;refine⟨_,aC (aX (i:=2) eI.nd rfl (Or.inl rfl) (yJ G1 (hr.mono (by decide)) (by rfl) (aA (aM aO (by rfl) B.len boot_len (aA (aY (pv 0) rfl) aF)) aF))) (aC (bE (bX G2 (hr.mono (by decide)) (by rfl) (aA (pv 0) (aA (pv 2) (aA (pv 1) (aA aJ aF)))))) (aC (aX (i:=3) eI.nd rfl (Or.inl rfl) (bX G3 hr (by rfl) (aA (pv 0) (aA (pv 2) aF)))) (aC (oO PassesOwn.never (aP eA (pv 3) bW (aU _)) (aC (bE (gX PySem.F.plainAttrs_list PySem.F.slot_list_remove PySem.F.type_list_remove yU (aY (pv 2) rfl) (aA (pv 3) aF))) (aC (bE (gX PySem.F.plainAttrs_list PySem.F.slot_list_append PySem.F.type_list_append cQ (aY (pv 2) rfl) (aA (pv 3) aF))) (aC (aX (i:=4) eI.nd rfl (Or.inl rfl) (aR aQ (aY (pv 0) rfl) (pv 3) (fun _ _=>rfl))) (aC (bC (aP nH (pv 4) bW (aU _)) (aG (aS (pv 2))) aT) (aC (bE (bX G2 (hr.mono (by decide)) (by rfl) (aA (pv 0) (aA (pv 2) (aA (pv 4) (aA (bF iL (bF iL (aR aQ (aY (pv 2) rfl) (pv 3) (fun _ _=>rfl)) (aR aQ (aR aQ (aY (pv 0) rfl) (pv 4) (fun _ _=>rfl)) (pv 3) (fun _ _=>rfl))) (aR aQ (aY (pv 0) rfl) (pv 3) (fun _ _=>rfl))) aF)))))) (aG (aX (i:=3) eI.nd rfl (Or.inl rfl) (bX G3 hr (by rfl) (aA (pv 0) (aA (pv 2) aF))))))))))) (aG (aS (pv 2)))))),?_⟩;refine⟨_,rfl,b,CB,dx,fs,_,rfl,e,T.cl,T.hands,F.hands,q.h,_,rfl,.inl (SqL.of BB.hd),fun s dy hs hdy hne=>?_⟩;refine⟨s,dy,m,by rw[cB];rfl,aB,hm,fun z H1 S1 f1 f2 f3 f4 k1=>⟨rfl,?_⟩⟩;have fresh:∀x,(upd (upd H dy (.own s)) s (.ins CS dy [])) x=none->H x=none:=fun x hx=>by
     have a1:x≠s:=fun y=>by rw[y,aB] at hx;cases hx
     rw[aE a1] at hx;have a2:x≠dy:=fun y=>by rw[y,aB] at hx;cases hx
     rw[aE a2] at hx;exact hx
   have zf:=fresh _ f1;have zt:=fresh _ f2;have za:=fresh _ f3;have zr:=fresh _ f4;have kp1:bD [TN] H H1:=fun a o ha _=>k1 a o (by rw[aE (aH ha hs),aE (aH ha hdy)];exact ha) (by simpa using aH ha hs);have kp1':Same H H1:=fun a o ha=>k1 a o (by rw[aE (aH ha hs),aE (aH ha hdy)];exact ha) (by simpa using aH ha hs);have B1:=BB.same kp1';have tab1:=hTab.same kp1';have ap:aAi b q as s z:=⟨BB.off hs,BB.off zf,BB.off zt,BB.off za,BB.off zr⟩;have hinj:∀u u',u<m->u'<m->∀g,hd u=some g->hd u'=some g->u=u':=fun u u' h1 h2 g h3 h4=>SE.inj h1 h2 h3 h4;have plain:∀{H2:Hp}{x:Addr}{xs:List V},H2 x=some (.lst xs)->aCb (H2 x):=fun h=>by rw[h];trivial
   have step:∀{H2 H3:Hp}{far:Nat->Option Int}{thr:Nat->Option Nat}{ahead reached:List Nat},BS CB H2 b q as m n cnt R p tk hd sh->SS CS H2 s z m far thr ahead reached->fW H2 TN->bD [TN] H H2->bD [z.f,z.t] H2 H3 ->BS CB H3 b q as m n cnt R p tk hd sh/\fW H3 TN/\bD [TN] H H3:=fun B2 S2 t2 k2 k3=>by
     refine⟨B2.kept k3 fun x hx=>?_,t2.kept k3 fun x hx=>?_,k2.then k3 fun x hx=>?_⟩
     . rcases List.mem_cons.mp hx with y|y
       . rw[y];exact ap.2.1
       . rw[List.mem_singleton.mp y];exact ap.2.2.1
     . rcases List.mem_cons.mp hx with y|y
       . rw[y];exact plain S2.far
       . rw[List.mem_singleton.mp y];exact plain S2.thr
     . rcases List.mem_cons.mp hx with y|y
       . rw[y];exact .inl zf
       . rw[List.mem_singleton.mp y];exact .inl zt
   have stepT:∀{H2 H3:Hp}{far:Nat->Option Int}{thr:Nat->Option Nat}{ahead reached:List Nat},BS CB H2 b q as m n cnt R p tk hd sh->SS CS H2 s z m far thr ahead reached->fW H2 TN->bD [TN] H H2->bD [TN] H2 H3 ->BS CB H3 b q as m n cnt R p tk hd sh/\SS CS H3 s z m far thr ahead reached/\bD [TN] H H3:=fun {H2 H3 far thr ahead reached} B2 S2 t2 k2 k3=>by
     obtain⟨ps,ht,_⟩:=t2;have nT:∀{x:Addr}{o:HO},H2 x=some o->o≠.tbl ps->x≠TN:=fun hx hn=>bS hx ht hn;obtain⟨dxx,fss,ee,_⟩:=B2.ob;obtain⟨dyy,gss,ee2,_⟩:=S2.ob;refine⟨B2.kept k3 fun x hx=>?_,S2.kept k3 fun x hx=>?_,k2.trans k3⟩
     . rw[List.mem_singleton.mp hx];refine⟨(nT ee (by intro y;cases y)).symm,(nT B2.rows (by intro y;cases y)).symm,(nT B2.pr (by intro y;cases y)).symm,(nT B2.tk (by intro y;cases y)).symm,(nT B2.hd (by intro y;cases y)).symm,fun y=>?_⟩;obtain⟨i,hi,e'⟩:=List.getElem_of_mem y;exact nT (B2.row i TN (by rw[List.getElem?_eq_getElem hi,e'])) (by intro y;cases y) rfl
     . rw[List.mem_singleton.mp hx];exact⟨(nT ee2 (by intro y;cases y)).symm,(nT S2.far (by intro y;cases y)).symm,(nT S2.thr (by intro y;cases y)).symm,(nT S2.ahd (by intro y;cases y)).symm,(nT S2.rch (by intro y;cases y)).symm⟩
   refine⟨_,rfl,_,rfl,_,rfl,b,q,as,m,n,cnt,R,p,tk,hd,sh,s,z,_,_,_,_,hand,0,rfl,B1,S1,ap,hhn,fun t ht=>List.mem_range.mp ht,List.nodup_range,fun H2 far thr L S2 k2=>?_⟩;obtain⟨B2,t2,kp2⟩:=step B1 S1 tab1 kp1 k2;have I0:SI m R p hd hand far thr (List.range m) [] (fun h=>if h=hand then some 0 else none):=SI.first L;refine⟨_,rfl,_,rfl,b,q,as,m,n,cnt,R,p,tk,hd,sh,s,z,far,thr,_,_,rfl,B2,S2,fun t ht=>List.mem_range.mp ht,by rw[List.length_range];exact hm,t2,fun H3 cur hnear k3 t3=>?_⟩;obtain⟨B3,S3,kp3⟩:=stepT B2 S2 t2 kp2 k3
   let W:Nat->L2.St->Hp->Prop:=fun j σ H4=>∃(far:Nat->Option Int)(thr:Nat->Option Nat)(ahead reached:List Nat)(bef:Nat->Option Int)(cur:Option Nat)(v4:Option V),σ=[some (.ref b),some (.int (hand:Int)),some (.ref s),some (oV cur),v4] /\
     SI m R p hd hand far thr ahead reached bef/\BS CB H4 b q as m n cnt R p tk hd sh/\SS CS H4 s z m far thr ahead reached/\fW H4 TN/\bD [TN] H H4/\aHi far ahead cur/\j=ahead.length
   refine⟨W,⟨_,far,thr,_,_,_,cur,none,rfl,I0,B3,S3,t3,kp3,hnear,rfl⟩,?_⟩;rintro j σ H4 ⟨far,thr,ahead,reached,bef,cur,v4,rfl,I,B4,S4,t4,kp4,hnear,rfl⟩;refine⟨_,rfl,rfl,_,rfl,?_⟩;cases cur with
   |none=>
     obtain⟨u1,u2,u3⟩:=I.stuck SE hhn hfree hnear;refine cI ⟨_,rfl,k H4 s z far thr ahead reached B4 S4 ap (.stuck (fun t ht=>?_) (fun t ht=>⟨I.rLt t ht,u1 t ht⟩) u2 u3 I.rN) kp4 t4⟩;obtain⟨h,h1,_⟩:=u1 t (List.mem_of_getElem? ht);rw[h1];rfl
   |some t=>
     obtain⟨hta,d,hfd,hmin⟩:=hnear;have htm:=I.aLt t hta;refine iH ⟨fun σ' H'=>∃m',m'<ahead.length/\W m' σ' H',fun σ' H' y=>y,?_⟩;obtain⟨dy4,gs4,es4,G4⟩:=S4.ob;refine⟨_,rfl,s,CS,dy4,gs4,_,rfl,es4,U.cl,U.ahead,G4.ahead,.inl ⟨rfl,_,SqL.of S4.ahd⟩,_,rfl,z.a,zs ahead,(t:Int),rfl,rfl,S4.ahd,jN.mpr ⟨t,hta,rfl⟩,?_⟩;rw[tV];have S5:=S4.setA (ahead':=ahead.erase t);obtain⟨dy5,gs5,es5,G5⟩:=S5.ob;have hrl:reached.length <= 1000:=Nat.le_trans (kN m reached I.rN I.rLt) hm;refine⟨_,rfl,s,CS,dy5,gs5,_,rfl,es5,U.cl,U.reached,G5.reached,.inl ⟨rfl,_,SqL.of S5.rch⟩,_,rfl,z.r,_,_,rfl,rfl,S5.rch,by rw[List.length_map,List.length_map];exact bR hrl,?_⟩;rw[show(zs reached).map V.int++[oV (some t)]=(zs (reached++[t])).map V.int by rw[wW,List.map_append];rfl];have S6:=S5.setR (reached':=reached++[t]);generalize hH6:upd (upd H4 z.a (.lst ((zs (ahead.erase t)).map V.int))) z.r (.lst ((zs (reached++[t])).map V.int))=H6 at S6 ⊢;have k46:bD [z.a,z.r] H4 H6:=by rw[<- hH6];exact((bD.refl H4).upd (by simp)).upd (by simp)
     have B6:BS CB H6 b q as m n cnt R p tk hd sh:=B4.kept k46 fun x hx=>by
       rcases List.mem_cons.mp hx with y|y
       . rw[y];exact ap.2.2.2.1
       . rw[List.mem_singleton.mp y];exact ap.2.2.2.2
     have t6:fW H6 TN:=t4.kept k46 fun x hx=>by
       rcases List.mem_cons.mp hx with y|y
       . rw[y];exact plain S4.ahd
       . rw[List.mem_singleton.mp y];exact plain S4.rch
     have kp6:bD [TN] H H6:=kp4.then k46 fun x hx=>by
       rcases List.mem_cons.mp hx with y|y
       . rw[y];exact .inl za
       . rw[List.mem_singleton.mp y];exact .inl zr
     clear hH6;obtain⟨dx6,fs6,e6,F6⟩:=B6.ob;obtain⟨dy6,gs6,es6,G6⟩:=S6.ob;refine⟨_,rfl,b,CB,dx6,fs6,_,rfl,e6,T.cl,T.hands,F6.hands,_,rfl,q.h,_,_,oV (hd t),rfl,rfl,SqL.of B6.hd,cJ htm,?_⟩;refine⟨_,rfl,rfl,_,rfl,?_⟩;cases hht:hd t with
     |none=>
       refine iH ⟨_,rfl,k H6 s z far thr (ahead.erase t) (reached++[t]) B6 S6 ap (.goal t d ?_ hht hfd (fun u hu=>?_) (I.goal SE hhn hfree hta hfd hmin)) kp6 t6⟩
       . unfold hU;simp
       . rcases List.mem_append.mp hu with y|y
         . obtain⟨_,d',_,_,y2,_,_⟩:=I.exp u y;exact⟨I.rLt u y,d',y2⟩
         . rw[List.mem_singleton.mp y];exact⟨htm,d,hfd⟩
     |some h=>
       obtain⟨hhn',htk⟩:=SE.b h t htm hht;obtain⟨_,_,c,hc,hfit⟩:=SE.a h t hhn' htk;have hne:h≠hand:=fun y=>by rw[y,hfree] at htk;cases htk
       obtain⟨a,ha,hrow,hat⟩:=B6.row_at hhn';have atF:atI ((tab m far).map aV) (t:Int)=some (.int d):=by rw[cJ htm,hfd];rfl
       have atR:atI ((tab m (R h)).map aV) (t:Int)=some (.int c):=by rw[cJ htm,hc];rfl
       have hnd:=I.aN.erase t;have hlt':∀u,u∈ahead.erase t->u<m:=fun u hu=>I.aLt u (nK I.aN |>.mp hu).2;refine cI ?_;refine⟨_,rfl,_,rfl,_,rfl,_,rfl,s,CS,dy6,gs6,_,rfl,es6,U.cl,U.far,G6.far,_,rfl,z.f,_,_,.int d,rfl,rfl,SqL.of S6.far,atF,_,rfl,b,CB,dx6,fs6,_,rfl,e6,T.cl,T.rows,F6.rows,_,rfl,q.r,_,_,.ref a,rfl,rfl,SqL.of B6.rows,hat,_,rfl,a,_,_,.int c,rfl,rfl,SqL.of hrow,atR,_,_,rfl,rfl,_,rfl,b,CB,dx6,fs6,_,rfl,e6,T.cl,T.prices,F6.prices,_,rfl,q.p,_,_,.int (p t),rfl,rfl,SqL.of B6.pr,cJ htm,_,_,rfl,rfl,?_⟩;refine⟨b,q,as,m,n,cnt,R,p,tk,hd,sh,s,z,_,_,_,_,h,d - c - p t,rfl,B6,S6,ap,hhn',hlt',hnd,fun H7 far' thr' L7 S7 k7=>?_⟩;obtain⟨B7,t7,kp7⟩:=step B6 S6 t6 kp6 k7;have I7:=I.next hinj hta hfd hmin hht hne hc hfit L7;have hel:(ahead.erase t).length<ahead.length:=by
         rw[List.length_erase_of_mem hta];have:=List.length_pos_of_mem hta;omega
       have hl7:(ahead.erase t).length <= 1000:=Nat.le_trans (kN m _ hnd hlt') hm;refine⟨_,rfl,_,rfl,b,q,as,m,n,cnt,R,p,tk,hd,sh,s,z,far',thr',_,_,rfl,B7,S7,hlt',hl7,t7,fun H8 cur8 hnear8 k8 t8=>?_⟩;obtain⟨B8,S8,kp8⟩:=stepT B7 S7 t7 kp7 k8;exact⟨_,hel,far',thr',_,_,_,cur8,_,rfl,I7,B8,S8,t8,kp8,hnear8,rfl⟩
end
section
variable{P:Program}{w:World}{K:W.Frag}{mg:Str->Option Value}{base:Heap}{CB CS cN TN:Addr}
def uJ(K:W.Frag)(C:Addr):Sp:=fun vs H Q _=>∃(b dx ra pa:Addr)(m:Nat)(bs:List Addr)(T:gL)(p:Nat->Int),vs=[.ref b,.int (m:Int),.ref ra,.ref pa]/\H b=some (.ins C dx [])/\SqL K H ra (bs.map V.ref)/\bs.length=T.length/\rW m T /\ (∀(i:Nat)a r,bs[i]?=some a->T[i]?=some r->H a=some (.lst (r.map aV)))/\SqL K H pa ((tab m p).map V.int)/\m <= 500/\T.length <= 500 /\ ∀(q:BA)(as:List Addr)(H':Hp),BS C H' b q as m (max T.length m) (T.length:Int) (brd T) p (fun _=>none) (fun _=>none) .non->H q.r=none->H q.p=none->H q.t=none->H q.h=none->bD [b] H H'->Q .non H'
theorem vB{n:Nat}(x:V):(List.range n).filterMap (fun _=>some x)=(List.range n).map fun _=>x:=by
 rw[<- List.filterMap_eq_map];rfl
theorem aBb(B:Blt mg)(T0:CBd K CB){f:Addr}{fd:FuncData}(F:Fun K "__init__" "Board.__init__" dH f fd):gO P w K mg base CX0 1 f fd ["self","many","rows","prices"] (uJ K CB):=by
 refine F.ok oF (fun vs H Q E h=>?_) (fun cdv A outer s H vs Q E hr h=>?_)
 . obtain⟨b,dx,ra,pa,m,bs,T,p,rfl,_⟩:=h;rfl
 . obtain⟨b,dx,ra,pa,m,bs,T,p,rfl,e,hra,hbl,hw,hrow,hpa,hm,hT,k⟩:=h;refine⟨_,aC (dO (pv 0) (aM aO (by rfl) B.len boot_len (aA (pv 2) aF)) rfl) (aC (dO (pv 0) (bF yM (cO cS (by rfl) B.list boot_list (aA (pv 2) aF)) (gH (sc:=aI dH) (XN:=["self","many","rows","prices"]) (own:=["spare"]) (fr:=["many"]) (js:=[1]) rfl rfl rfl (⟨rfl,by decide +kernel,by decide +kernel,by decide +kernel,rfl,by decide +kernel⟩) (yH (by rfl) B.range (aA (aM aO (by rfl) B.len boot_len (aA (pv 2) aF)) (aA (pv 1) aF))) (fun _ _ _ _ _=>(bB (i:=0) (show List.Nodup (["spare","many"]:List Str) by decide +kernel) rfl (Or.inl rfl))) (fun _ _ _ _ _=>fJ) (fun _ _ _ _ _=>(bF qR (cF (aA aJ aF)) (pv 1))))) rfl) (aC (dO (pv 0) (cO cS (by rfl) B.list boot_list (aA (pv 3) aF)) rfl) (aC (dO (pv 0) (gH (sc:=aI dH) (XN:=["self","many","rows","prices"]) (own:=["row"]) (fr:=[]) (js:=[]) rfl rfl rfl (⟨rfl,by decide +kernel,by decide +kernel,by decide +kernel,rfl,by decide +kernel⟩) (cC (aY (pv 0) rfl)) (fun _ _ _ _ _=>(bB (i:=0) (show List.Nodup (["row"]:List Str) by decide +kernel) rfl (Or.inl rfl))) (fun _ _ _ _ _=>fJ) (fun _ _ _ _ _=>bW)) rfl) (aC (dO (pv 0) (gH (sc:=aI dH) (XN:=["self","many","rows","prices"]) (own:=["price"]) (fr:=[]) (js:=[]) rfl rfl rfl (⟨rfl,by decide +kernel,by decide +kernel,by decide +kernel,rfl,by decide +kernel⟩) (cC (pv 3)) (fun _ _ _ _ _=>(bB (i:=0) (show List.Nodup (["price"]:List Str) by decide +kernel) rfl (Or.inl rfl))) (fun _ _ _ _ _=>fJ) (fun _ _ _ _ _=>bW)) rfl) (aG (dO (pv 0) bW rfl)))))),?_⟩;have sb:∀{a:Addr},a≠b->a∉[b]:=fun h=>by simpa using h
   have seqK:∀{H':Hp}{a:Addr}{xs:List V},bD [b] H H'->SqL K H a xs->SqL K H' a xs:=fun {H' a xs} kk h=>by
     rcases h with(h|⟨o,h⟩)|h
     . exact .inl (.inl (kk _ _ h (sb (bS h e (by intro y;cases y)))))
     . exact .inl (.inr ⟨o,kk _ _ h (sb (bS h e (by intro y;cases y)))⟩)
     . exact .inr h
   refine⟨_,rfl,ra,_,rfl,.inl hra,_,rfl,b,CB,dx,[],rfl,e,T0.cl,T0.count,by show 0<1000;decide,?_⟩;rw[List.length_map,hbl];generalize hH1:upd H b (.ins CB dx (bI "count" (.int (T.length:Int)) []))=H1;have x1:H1 b=some (.ins CB dx (bI "count" (.int (T.length:Int)) [])):=by rw[<- hH1];exact aB
   have k1:bD [b] H H1:=by rw[<- hH1];exact(bD.refl H).upd (by simp)
   clear hH1;refine⟨_,rfl,ra,_,rfl,.inl (seqK k1 hra),fun l0 hl0=>?_⟩;have y1:∀o,(upd H1 l0 o) b=some (.ins CB dx (bI "count" (.int (T.length:Int)) [])):=fun o=>by rw[aE (aH x1 hl0)];exact x1
   have kl0:bD [b] H (upd H1 l0 (.lst (bs.map V.ref))):=k1.new hl0;refine⟨_,rfl,ra,_,rfl,.inl (seqK kl0 hra),_,rfl,(T.length:Int),(m:Int),by rw[List.length_map,hbl],⟨by omega,by omega,by omega,by omega⟩,?_⟩;refine tM (n:=((m:Int) - (T.length:Int)).toNat) (fun i ys H2=>Same (upd H1 l0 (.lst (bs.map V.ref))) H2/\∃cs:List Addr,ys=cs.map V.ref/\cs.length=i/\∀a∈cs,H2 a=some (.lst ((tab m (fun _=>some (0:Int))).map aV))/\H a=none) ⟨Same.refl _,[],rfl,rfl,fun a ha=>nomatch ha⟩ (by omega) (fun i ys H2 ⟨_,cs,e1,e2,_⟩=>by rw[e1,List.length_map];omega) (fun i ys H2 hi _=>hi) ?_ ?_
   . rintro ys H2 ⟨sm,cs,rfl,hcl,hcs⟩;refine⟨Nat.le_refl _,fun l1 hl1=>?_⟩;have m0:H2 l0=some (.lst (bs.map V.ref)):=sm _ _ aB;have m1:H2 b=some (.ins CB dx (bI "count" (.int (T.length:Int)) [])):=sm _ _ (y1 _);refine⟨l0,l1,_,_,rfl,rfl,by rw[aE (aH m0 hl1)];exact m0,aB,?_,fun qr hqr=>?_⟩
     . rw[List.length_map,List.length_map,hcl,hbl];exact Nat.le_of_lt (bR (by omega))
     have z1:(upd H2 l1 (.lst (cs.map V.ref))) b=some (.ins CB dx (bI "count" (.int (T.length:Int)) [])):=by rw[aE (aH m1 hl1)];exact m1
     have nbr:b≠qr:=aH z1 hqr;refine⟨_,rfl,b,CB,dx,_,rfl,by rw[aE nbr];exact z1,T0.cl,T0.rows,Nat.lt_of_le_of_lt (aK ..) (by show 0+1<1000;decide),?_⟩;have kq:bD [b] H (upd (upd H2 l1 (.lst (cs.map V.ref))) qr (.lst (bs.map V.ref++cs.map V.ref))):=((kl0.trans sm.kept).new hl1).new hqr;generalize hH3:upd (upd (upd H2 l1 (.lst (cs.map V.ref))) qr (.lst (bs.map V.ref++cs.map V.ref))) b (.ins CB dx (bI "rows" (.ref qr) (bI "count" (.int (T.length:Int)) [])))=H3;have x3:H3 b=some (.ins CB dx (bI "rows" (.ref qr) (bI "count" (.int (T.length:Int)) []))):=by rw[<- hH3];exact aB
     have r3:H3 qr=some (.lst ((bs++cs).map V.ref)):=by rw[<- hH3,aE nbr.symm,aB,List.map_append]
     have k3:bD [b] H H3:=by rw[<- hH3];exact kq.upd (by simp)
     have hqrH:H qr=none:=by
       cases q:H qr with
       |none=>rfl
       |some o=>
         have:=(kl0.trans sm.kept).new hl1 (o:=.lst (cs.map V.ref)) qr o q (sb nbr.symm);rw[hqr] at this;cases this
     have c3:∀a∈cs,H3 a=some (.lst ((tab m (fun _=>some (0:Int))).map aV)):=fun a ha=>by
       have h2:=(hcs a ha).1;rw[<- hH3,aE (bS h2 m1 (by intro y;cases y)),aE,aE (aH h2 hl1)]
       . exact h2
       . have h3:(upd H2 l1 (.lst (cs.map V.ref))) a=some (.lst ((tab m (fun _=>some (0:Int))).map aV)):=by rw[aE (aH h2 hl1)];exact h2
         exact aH h3 hqr
     have cn:∀a∈cs,H a=none:=fun a ha=>(hcs a ha).2;clear hH3;refine⟨_,rfl,pa,_,rfl,.inl (seqK k3 hpa),fun qp hqp=>?_⟩;have nbp:b≠qp:=aH x3 hqp;have nrp:qr≠qp:=aH r3 hqp;refine⟨_,rfl,b,CB,dx,_,rfl,by rw[aE nbp];exact x3,T0.cl,T0.prices,Nat.lt_of_le_of_lt (Nat.le_trans (aK ..) (Nat.succ_le_succ (aK ..))) (by show 0+1+1<1000;decide),?_⟩;generalize hH4:upd (upd H3 qp (.lst ((tab m p).map V.int))) b (.ins CB dx (bI "prices" (.ref qp) (bI "rows" (.ref qr) (bI "count" (.int (T.length:Int)) []))))=H4;have x4:H4 b=some (.ins CB dx (bI "prices" (.ref qp) (bI "rows" (.ref qr) (bI "count" (.int (T.length:Int)) [])))):=by rw[<- hH4];exact aB
     have p4:H4 qp=some (.lst ((tab m p).map V.int)):=by rw[<- hH4,aE nbp.symm,aB]
     have k34:bD [b] H3 H4:=by rw[<- hH4];exact((bD.refl H3).new hqp).upd (by simp)
     have hqpH:H qp=none:=by
       cases q:H qp with
       |none=>rfl
       |some o=>have:=k3 qp o q (sb nbp.symm);rw[hqp] at this;cases this
     have r4:=k34 _ _ r3 (sb nbr.symm);have npc:∀a∈cs,a≠qp:=fun a ha=>aH (c3 a ha) hqp;have nbc:∀a∈cs,a≠b:=fun a ha=>bS (c3 a ha) x3 (by intro y;cases y);clear hH4;have T0l:F=F:=rfl;refine⟨_,rfl,b,CB,dx,_,_,rfl,x4,T0.cl,T0.rows,?_,qr,rfl,⟨_,SqL.of r4⟩,?_⟩
     . rw[aD,if_neg (by decide +kernel),aD,if_pos rfl]
     refine eO (K:=K) (xs:=(bs++cs).map V.ref) (fun _=>some .non) (SqL.of r4) (by rw[List.length_map,List.length_append,hbl,hcl];omega) ?_ ?_
     . intro H5 sm5 qt hqt;have x5:=sm5 _ _ x4;have nbt:b≠qt:=aH x5 hqt;refine⟨_,rfl,b,CB,dx,_,rfl,by rw[aE nbt];exact x5,T0.cl,T0.tasks,Nat.lt_of_le_of_lt (Nat.le_trans (aK ..) (Nat.succ_le_succ (Nat.le_trans (aK ..) (Nat.succ_le_succ (aK ..))))) (by show 0+1+1+1<1000;decide),?_⟩;have hnlen:((bs++cs).map V.ref).length=max T.length m:=by rw[List.length_map,List.length_append,hbl,hcl];omega
       rw[hnlen,vB];generalize hH6:upd (upd H5 qt (.lst ((List.range (max T.length m)).map fun _=>V.non))) b (.ins CB dx (bI "tasks" (.ref qt) (bI "prices" (.ref qp) (bI "rows" (.ref qr) (bI "count" (.int (T.length:Int)) [])))))=H6;have x6:H6 b=some (.ins CB dx (bI "tasks" (.ref qt) (bI "prices" (.ref qp) (bI "rows" (.ref qr) (bI "count" (.int (T.length:Int)) []))))):=by rw[<- hH6];exact aB
       have t6:H6 qt=some (.lst ((tab (max T.length m) (fun _=>(none:Option Nat))).map oV)):=by rw[<- hH6,aE nbt.symm,aB,iM];rfl
       have k46:bD [b] H4 H6:=by rw[<- hH6];exact(sm5.kept.new hqt).upd (by simp)
       have hqt4:H4 qt=none:=sm5.free hqt;have k4:bD [b] H H4:=k3.trans k34;have hqtH:H qt=none:=by
         cases q:H qt with
         |none=>rfl
         |some o=>have:=k4 qt o q (sb nbt.symm);rw[hqt4] at this;cases this
       clear hH6;refine⟨_,rfl,pa,rfl,⟨_,seqK (k4.trans k46) hpa⟩,?_⟩;refine eO (K:=K) (xs:=(tab m p).map V.int) (fun _=>some .non) (seqK (k4.trans k46) hpa) (by rw[cB];omega) ?_ ?_
       . intro H7 sm7 qh hqh;have x7:=sm7 _ _ x6;have nbh:b≠qh:=aH x7 hqh;refine⟨_,rfl,b,CB,dx,_,rfl,by rw[aE nbh];exact x7,T0.cl,T0.hands,Nat.lt_of_le_of_lt (Nat.le_trans (aK ..) (Nat.succ_le_succ (Nat.le_trans (aK ..) (Nat.succ_le_succ (Nat.le_trans (aK ..) (Nat.succ_le_succ (aK ..))))))) (by show 0+1+1+1+1<1000;decide),?_⟩;rw[cB,vB];refine⟨_,rfl,b,CB,dx,_,rfl,aB,T0.cl,T0.short,Nat.lt_of_le_of_lt (Nat.le_trans (aK ..) (Nat.succ_le_succ (Nat.le_trans (aK ..) (Nat.succ_le_succ (Nat.le_trans (aK ..) (Nat.succ_le_succ (Nat.le_trans (aK ..) (Nat.succ_le_succ (aK ..))))))))) (by show 0+1+1+1+1+1<1000;decide),?_⟩;have k6:bD [b] H H6:=k4.trans k46;have hqh6:H6 qh=none:=sm7.free hqh;have hqhH:H qh=none:=by
           cases q:H qh with
           |none=>rfl
           |some o=>have:=k6 qh o q (sb nbh.symm);rw[hqh6] at this;cases this
         have r6:=k46 _ _ r4 (sb nbr.symm);have p6:=k46 _ _ p4 (sb nbp.symm);have nrt:qr≠qt:=aH r4 hqt4;have npt:qp≠qt:=aH p4 hqt4;have nrh:qr≠qh:=aH r6 hqh6;have nph:qp≠qh:=aH p6 hqh6;have nth:qt≠qh:=aH t6 hqh6;have fin:∀{a:Addr}{o:HO}{o1 o2:HO},H6 a=some o->a≠b->a≠qh->(upd (upd (upd H7 qh o1) b o2) b (.ins CB dx (bI "short" .non (bI "hands" (.ref qh) (bI "tasks" (.ref qt) (bI "prices" (.ref qp) (bI "rows" (.ref qr) (bI "count" (.int (T.length:Int)) [])))))))) a=some o:=fun h h1 h2=>by
           rw[aE h1,aE h1,aE h2];exact sm7 _ _ h
         refine k ⟨qr,qp,qt,qh⟩ (bs++cs) _ ⟨⟨dx,_,aB,⟨?_,?_,?_,?_,?_,?_,?_,?_⟩⟩,fin r6 nbr.symm nrh,by rw[List.length_append,hbl,hcl];omega,fun i a ha=>?_,fin p6 nbp.symm nph,fin t6 nbt.symm nth,?_,npt,nph,nth,nrp,nrt,nrh,fun a ha=>?_⟩ hqrH hqpH hqtH hqhH ?_
         . rw[aD,if_neg (by decide +kernel),aD,if_neg (by decide +kernel),aD,if_neg (by decide +kernel),aD,if_neg (by decide +kernel),aD,if_neg (by decide +kernel),aD,if_pos rfl]
         . rw[aD,if_neg (by decide +kernel),aD,if_neg (by decide +kernel),aD,if_neg (by decide +kernel),aD,if_neg (by decide +kernel),aD,if_pos rfl]
         . rw[aD,if_neg (by decide +kernel),aD,if_neg (by decide +kernel),aD,if_neg (by decide +kernel),aD,if_pos rfl]
         . rw[aD,if_neg (by decide +kernel),aD,if_neg (by decide +kernel),aD,if_pos rfl]
         . rw[aD,if_neg (by decide +kernel),aD,if_pos rfl]
         . rw[aD,if_pos rfl]
         . rw[aD,if_neg (by decide +kernel),aD,if_neg (by decide +kernel),aD,if_neg (by decide +kernel),aD,if_neg (by decide +kernel),aD,if_neg (by decide +kernel),aD,if_neg (by decide +kernel)];rfl
         . exact Nat.lt_of_le_of_lt (Nat.le_trans (aK ..) (Nat.succ_le_succ (Nat.le_trans (aK ..) (Nat.succ_le_succ (Nat.le_trans (aK ..) (Nat.succ_le_succ (Nat.le_trans (aK ..) (Nat.succ_le_succ (Nat.le_trans (aK ..) (Nat.succ_le_succ (aK ..))))))))))) (by show 0+1+1+1+1+1+1<100;decide)
         . by_cases hi:i<bs.length
           . rw[List.getElem?_append_left hi] at ha;have hiT:i<T.length:=by omega
             have hr1:=hrow i a T[i] ha (List.getElem?_eq_getElem hiT);rw[aE6 hw (List.getElem?_eq_getElem hiT)];exact fin (k6 _ _ hr1 (sb (bS hr1 e (by intro y;cases y)))) (bS hr1 e (by intro y;cases y)) (aH hr1 hqhH)
           . rw[List.getElem?_append_right (by omega)] at ha;have ham:=List.mem_of_getElem? ha;have h3:=c3 a ham;have e5:tab m (brd T i)=tab m (fun _=>some (0:Int)):=lF fun t _=>pU (by omega);rw[e5];have h6:=k46 _ _ (k34 _ _ h3 (sb (nbc a ham))) (sb (nbc a ham));exact fin h6 (nbc a ham) (aH h6 hqh6)
         . rw[aE nbh.symm,aE nbh.symm,aB,iM];rfl
         . rcases List.mem_append.mp ha with z|z
           . obtain⟨i,hi,ei⟩:=List.getElem_of_mem z;have hiT:i<T.length:=by omega
             have hr1:=hrow i a T[i] (by rw[List.getElem?_eq_getElem hi,ei]) (List.getElem?_eq_getElem hiT);exact⟨aH hr1 hqpH,aH hr1 hqtH,aH hr1 hqhH⟩
           . have h3:=c3 a z;have h4:=k34 _ _ h3 (sb (nbc a z));have h6:=k46 _ _ h4 (sb (nbc a z));exact⟨npc a z,aH h4 hqt4,aH h6 hqh6⟩
         . exact(((k6.trans sm7.kept).new hqh).upd (by simp)).upd (by simp)
       . intro i ys H7 x N hx sm7 hN;exact hN H7 sm7
     . intro i ys H5 x N hx sm5 hN;exact hN H5 sm5
   . rintro i ys H2 x H3 hi ⟨sm,cs,rfl,hcl,hcs⟩ hy;obtain⟨e1,rfl⟩:=hy;subst e1;refine⟨by show 1 <= sizeLine;decide,fun l1 hl1=>?_⟩;refine⟨_,rfl,l1,_,_,rfl,rfl,aB,by omega,by omega,by show 1*_ <= sizeLine;exact Nat.le_of_lt (bR (by omega)),fun l2 hl2=>?_⟩;have smx:Same (upd H1 l0 (.lst (bs.map V.ref))) (upd (upd H3 l1 (.lst [.int 0])) l2 (.lst (List.replicate (m:Int).toNat [V.int 0]).flatten)):=(sm.upd hl1).upd hl2;have kx:bD [b] H (upd (upd H3 l1 (.lst [.int 0])) l2 (.lst (List.replicate (m:Int).toNat [V.int 0]).flatten)):=kl0.trans smx.kept;have hl2':(upd H3 l1 (.lst [.int 0])) l2=none:=hl2;have hH:H l2=none:=by
       cases q:H l2 with
       |none=>rfl
       |some o=>
         have nb2:l2≠b:=fun y=>by
           have m1:=(sm.upd hl1 (o:=.lst [.int 0])) _ _ (y1 (.lst (bs.map V.ref)));rw[<- y,hl2] at m1;cases m1
         have:=(kl0.trans (sm.upd hl1 (o:=.lst [.int 0])).kept) l2 o q (sb nb2);rw[hl2] at this;cases this
     refine⟨smx,cs++[l2],by rw[List.map_append];rfl,by rw[List.length_append,hcl];rfl,fun a ha=>?_⟩;rcases List.mem_append.mp ha with z|z
     . have h2:=(hcs a z).1;have h3:(upd H3 l1 (.lst [.int 0])) a=some (.lst ((tab m (fun _=>some (0:Int))).map aV)):=by rw[aE (aH h2 hl1)];exact h2
       exact⟨by rw[aE (aH h3 hl2)];exact h3,(hcs a z).2⟩
     . rw[List.mem_singleton.mp z];refine⟨?_,hH⟩;rw[aB];exact congrArg (fun l=>some (HO.lst l)) (oM m (some (0:Int)) aV)
end
section
variable{P:Program}{w:World}{K:W.Frag}{mg:Str->Option Value}{base:Heap}
def lK(K:W.Frag):Sp:=fun vs H Q _=>∃(a c:Addr)(r:mP)(ps:List Int),vs=[.ref a,.ref c]/\aC1 K H a r/\jS K H c ps/\r.length <= 1000/\∀H',Same H H'->Q (aV (pG (aC7 r ps))) H'
theorem sU(B:Blt mg)(D:cE K mg "cheapest" iF ["row","prices"]):Has P w K mg base 1 "cheapest" ["row","prices"] (lK K):=by
 refine D.has sG (fun vs H Q E h=>?_) fun f cdv A outer s H vs Q E hr h=>?_
 . obtain⟨a,c,r,ps,rfl,_⟩:=h;rfl
 . obtain⟨a,c,r,ps,rfl,ha,hc,hz,k⟩:=h;refine⟨_,aG (aS (qP (rP rfl) (by rfl) B.min boot_min (aA (gH (sc:=aI iF) (XN:=["row","prices"]) (own:=["cost","price"]) (fr:=[]) (js:=[]) rfl rfl rfl (⟨rfl,by decide +kernel,by decide +kernel,by decide +kernel,rfl,by decide +kernel⟩) (aEz (by rfl) B.zip (aA (pv 0) (aA (pv 1) aF))) (fun _ _ _ _ _=>(aDc (K:=K) (n:=2) rfl rfl (lC (bB (i:=0) (show List.Nodup (["cost","price"]:List Str) by decide +kernel) rfl (Or.inl rfl)) (lC (bB (i:=1) (show List.Nodup (["cost","price"]:List Str) by decide +kernel) rfl (Or.inl rfl)) yI)))) (fun _ _ _ _ _=>(sM (aP eA (pv 0) bW (aU _)))) (fun _ _ _ _ _=>(bF eN (pv 0) (pv 1)))) aF) (oS bW yF))),?_⟩;refine⟨_,rfl,_,rfl,a,c,rfl,⟨_,ha⟩,⟨_,hc⟩,?_⟩;refine aBy (K:=K) (xs:=r.map aV) (zs:=ps.map V.int) (fun i=>(match r[i]?,ps[i]? with|some (some c),some p=>some (c+p)|_,_=>none:Option Int).map V.int) ha hc (by rw[List.length_map];exact hz) ?_ ?_
   . intro H2 s2 D' hD';refine⟨D',aC7 r ps,_,rfl,rfl,SqL.of ?_,?_⟩
     . rw[aB,List.length_map,List.length_map];unfold aC7;rw[List.map_filterMap]
       all_goals rfl
     . have:=k _ (s2.upd hD' (o:=HO.lst ((List.range (min (r.map aV).length (ps.map V.int).length)).filterMap fun i=>(match r[i]?,ps[i]? with|some (some c),some p=>some (c+p)|_,_=>none:Option Int).map V.int)));cases e:pG (aC7 r ps) with
       |none=>rw[e] at this;exact this
       |some b=>rw[e] at this;exact this
   . intro i ys H2 x z p N hx hzz s2 hp hN;obtain⟨c0,hc0,rfl⟩:=aBp hx;obtain⟨q,hq,rfl⟩:=kE hzz;have:=hN H2 s2;rw[hc0,hq] at this;refine⟨p,_,rfl,hp,rfl,_,_,rfl,_,_,rfl,rfl,_,rfl,rfl,_,rfl,?_⟩;cases c0 with
     |none=>
       refine cI ?_;simpa using this
     |some c1=>
       exact iH ⟨_,rfl,_,rfl,_,_,rfl,rfl,this⟩
open Classical in
def jG(K:W.Frag):Sp:=fun vs H Q _=>∃(b d:Addr)(t c1 p1:Int)(r:mP)(ps:List Int),vs=[.ref b,.int t,.ref d]/\aC1 K H b r/\jS K H d ps/\r.length <= 1000/\0 <= t/\r[t.toNat]?=some (some c1)/\ps[t.toNat]?=some p1 /\ ∀H',Same H H'->Q (.bl (decide (∀(j:Nat)c' p',r[j]?=some (some c')->ps[j]?=some p'->c1+p1 <= c'+p'))) H'
open Classical in
theorem pA(B:Blt mg)(Gc:Has P w K mg base 1 "cheapest" ["row","prices"] (lK K))(D:cE K mg "is_content" gS ["row","task","prices"]): Has P w K mg base 2 "is_content" ["row","task","prices"] (jG K):=by
 refine D.has oB (fun vs H Q E h=>?_) fun f cdv A outer s H vs Q E hr h=>?_
 . obtain⟨b,d,t,c1,p1,r,ps,rfl,_⟩:=h;rfl
 . obtain⟨b,d,t,c1,p1,r,ps,rfl,sr,hd,hrl,h0,hc1,hp1,k⟩:=h;refine⟨_,aG (aS (gW fL (bF eN (aR aQ (pv 0) (pv 1) (fun _ _=>rfl)) (aR aQ (pv 2) (pv 1) (fun _ _=>rfl))) (bX Gc hr (by rfl) (aA (pv 0) (aA (pv 2) aF))) (aU _))),?_⟩;refine⟨_,rfl,_,rfl,b,_,t,.int c1,rfl,rfl,sr,eB h0 (by rw[List.getElem?_map,hc1];rfl),_,rfl,_,rfl,d,_,t,.int p1,rfl,rfl,hd,eB h0 (by rw[List.getElem?_map,hp1];rfl),_,_,rfl,rfl,?_⟩;refine⟨_,rfl,_,rfl,b,d,r,ps,rfl,sr,hd,hrl,fun H3 s3=>?_⟩;have hin:c1+p1∈aC7 r ps:=pJ.mpr ⟨_,_,_,hc1,hp1,rfl⟩;cases e:pG (aC7 r ps) with
   |none=>rw[mH.mp e] at hin;cases hin
   |some bst=>
     refine⟨rfl,?_⟩;have e2:decide (∀(j:Nat)c' p',r[j]?=some (some c')->ps[j]?=some p'->c1+p1 <= c'+p')=decide (V.int (c1+p1)=aV (some bst)):=by
       rw[Bool.eq_iff_iff,decide_eq_true_iff,decide_eq_true_iff];have hle:=yW e;have hmem:=uY e;constructor
       . intro z;obtain⟨j,c',p',g1,g2,g3⟩:=pJ.mp hmem;have q1:=z j c' p' g1 g2;have q2:=hle _ hin;have:c1+p1=bst:=by omega
         rw[this];rfl
       . intro z j c' p' g5 g6;have z':c1+p1=bst:=V.int.inj z;rw[z'];exact hle _ (pJ.mpr ⟨j,c',p',g5,g6,rfl⟩)
     have:=k H3 s3;rw[e2] at this;exact this
end
section
variable{P:Program}{w:World}{K:W.Frag}{mg:Str->Option Value}{base:Heap}{CB CS cN TN:Addr}
def aIc(CB:Addr)(H:Hp)(b:Addr)(m:Nat)(T:gL):Prop:=∃(q:BA)(as:List Addr)(p:Nat->Int)(tk hd:Nat->Option Nat),(BS CB H b q as m (max T.length m) (T.length:Int) (brd T) p tk hd .non/\eS m (max T.length m) (brd T) p tk hd/\∀i,i<max T.length m->tk i≠none) \/ ∃(tp l1 l2:Addr)(hs ts:List Int),BS CB H b q as m (max T.length m) (T.length:Int) (brd T) p tk hd (.ref tp)/\H tp=some (.tup [.ref l1,.ref l2])/\H l1=some (.lst (hs.map V.int))/\H l2=some (.lst (ts.map V.int))/\pW m T hs ts
structure nR (K:W.Frag) (H:Hp) (ra:Addr) (m:Nat) (T:gL) (bs:List Addr):Prop where
 ls:SqL K H ra (bs.map V.ref)
 len:bs.length=T.length
 wide:rW m T
 row:∀(i:Nat)a r,bs[i]?=some a->T[i]?=some r->H a=some (.lst (r.map aV))
theorem aE4(xs:List V)(k:Nat):wP xs none (some (k:Int))=xs.take k:=by
 unfold wP;rw[HT.sIx_none,HT.sIx_nat,List.drop_zero,Nat.sub_zero,<- List.take_take,List.take_length]
theorem aAp{n k:Nat}{tk:Nat->Option Nat}(hk:k <= n)(h:∀i,i<n->tk i≠none):((tab n tk).map oV).take k=((List.range k).map fun i=>(((tk i).getD 0:Nat):Int)).map V.int:=by
 refine List.ext_getElem? fun i=>?_;by_cases hi:i<k
 . rw[List.getElem?_take_of_lt hi,List.getElem?_map,cY (by omega),List.getElem?_map,List.getElem?_map,List.getElem?_range hi];cases e:tk i with
   |none=>exact absurd e (h i (by omega))
   |some t=>
     show some (oV (some t))=some (V.int (((tk i).getD 0:Nat):Int));rw[e];rfl
 . rw[List.getElem?_eq_none_iff.mpr (by rw[List.length_take];omega),List.getElem?_eq_none_iff.mpr (by simp;omega)]
theorem aA9{X:Cx}(hc:X.calm=true):aAh X (.builtin "min") [Str.ofString "default"] (fun xs zs H Q=>∃(p:Addr)(ns:List Int)(d:Int),xs=[.ref p]/\zs=[.int d]/\SqL X.K H p (ns.map V.int)/\Q (.int ((pG ns).getD d)) H):=by
 intro pins s σ H xs zs us ws Q I rv rz h;obtain⟨p,ns,d,h1,h2,hq,q⟩:=h;refine rP hc pins s σ H xs zs us ws Q I rv rz ⟨p,ns,.int d,h1,h2,hq,?_⟩;cases e:pG ns with
 |none=>rw[e] at q;exact q
 |some b=>rw[e] at q;exact q
theorem nR.tab{H:Hp}{ra:Addr}{m:Nat}{T:gL}{bs:List Addr}(h:nR K H ra m T bs):mX K H ra T:=⟨bs,h.ls,h.len,fun i b r e1 e2=>SqL.of (h.row i b r e1 e2)⟩
theorem nR.same{H H':Hp}{ra:Addr}{m:Nat}{T:gL}{bs:List Addr}(h:nR K H ra m T bs)(e:Same H H'):nR K H' ra m T bs:=⟨e.seq h.ls,h.len,h.wide,fun i a r e1 e2=>e _ _ (h.row i a r e1 e2)⟩
end
theorem aBq{K:W.Frag}{a:Addr}{xs:List V}{g:TG}{tb:TS}{D:wU}{σ:L2.St}{H:Hp}(Pv:Nat->L2.St->Hp->Prop)(h0:Pv 0 σ H)(hl:∀i σ H,i <= xs.length->Pv i σ H->SqL K H a xs)(hs:∀i x p σ H,xs[i]?=some x->Pv i σ H->H p=none->g (.ref p) σ (upd H p (.tup [.int (i:Int),x])) fun σ2 H2=>tb {D with nx:=Pv (i+1),ct:=Pv (i+1),bk:=D.nx} σ2 H2)(hd:∀σ H,Pv xs.length σ H->D.nx σ H):
   ∃W:Nat->Nat->L2.St->Hp->Prop,(∃m,W 0 m σ H)/\∀i m σ H,W i m σ H ->
     ((Ite K a).stop i H/\D.nx σ H)\/((Ite K a).go i H/\∃N:L2.St->Hp->Prop,(∀σ' H',N σ' H'->∃m',m'<m/\W (i+1) m' σ' H')/\∀x H',(Ite K a).yld i H x H'->g x σ H' fun σ2 H2=>tb {D with nx:=N,ct:=N,bk:=D.nx} σ2 H2):=by
 refine⟨fun i m σ H=>m+i=xs.length/\Pv i σ H,⟨xs.length,rfl,h0⟩,?_⟩;rintro i m σ H ⟨e,p⟩;have sq:=hl i σ H (by omega) p;cases m with
 |zero=>
   have:i=xs.length:=by omega
   subst this;exact .inl ⟨⟨xs,sq,Nat.le_refl _⟩,hd σ H p⟩
 |succ m=>
   have hi:i<xs.length:=by omega
   refine .inr ⟨⟨xs,xs[i],sq,List.getElem?_eq_getElem hi⟩,Pv (i+1),fun σ' H' p'=>⟨m,Nat.lt_succ_self m,by omega,p'⟩,fun x H' y=>?_⟩;obtain⟨q,z,rfl,hq,hz,rfl⟩:=y;exact hs i z q σ H (hz xs sq) p hq
theorem eS.sit{m n:Nat}{R:Nat->Nat->Option Int}{p:Nat->Int}{tk hd:Nat->Option Nat}(S:eS m n R p tk hd){h t:Nat}(hh:h<n)(ht:t<m)(f:aEi m R p h t)(h0:tk h=none)(t0:hd t=none): eS m n R p (kF tk h (some t)) (kF hd t (some h)):=by
 refine⟨fun h' t' l e=>?_,fun h' t' l e=>?_⟩
 . by_cases y:h'=h
   . subst y;rw[bK] at e;cases e;exact⟨ht,bK,f⟩
   . rw[bN y] at e;obtain⟨a,b,c⟩:=S.a h' t' l e;refine⟨a,?_,c⟩;by_cases z:t'=t
     . subst z;rw[t0] at b;cases b
     . rw[bN z];exact b
 . by_cases y:t'=t
   . subst y;rw[bK] at e;cases e;exact⟨hh,bK⟩
   . rw[bN y] at e;obtain⟨a,b⟩:=S.b h' t' l e;refine⟨a,?_⟩;by_cases z:h'=h
     . subst z;rw[h0] at b;cases b
     . rw[bN z];exact b
section
variable{P:Program}{w:World}{K:W.Frag}{mg:Str->Option Value}{base:Heap}{CB CS cN TN:Addr}
def xL(K:W.Frag)(CB:Addr):Sp:=fun vs H Q _=>∃(b ta:Addr)(q:BA)(as:List Addr)(m n n0:Nat)(cnt:Int)(R:Nat->Nat->Option Int)(p:Nat->Int)(tk0:Nat->Option Nat)(sh:V),vs=[.ref b,.ref ta]/\BS CB H b q as m n cnt R p (fun _=>none) (fun _=>none) sh /\ SqL K H ta ((tab n0 tk0).map oV)/\(∀H',bD [q.t,q.h] H H'->SqL K H' ta ((tab n0 tk0).map oV))/\n0 <= n/\m <= 500/\(∀i j t,i<n0->j<n0->tk0 i=some t->tk0 j=some t->i=j) /\ ∀H' tk hd,BS CB H' b q as m n cnt R p tk hd sh->eS m n R p tk hd->bD [q.t,q.h] H H'->Q .non H'
open Classical in
theorem aDm(B:Blt mg)(T0:CBd K CB)(Gc:Has P w K mg base 1 "can_do" ["row","task"] (qE K))(Gi:Has P w K mg base 2 "is_content" ["row","task","prices"] (jG K))(Gs:aEh P w K mg base 1 CB "seat" ["self","hand","task"] (sC CB))(D:cE K mg "keep_content" fF ["board","tasks"]):Has P w K mg base 3 "keep_content" ["board","tasks"] (xL K CB):=by
 refine D.has eM (fun vs H Q E h=>?_) fun f cdv A outer s₁ H vs Q E hr h=>?_
 . obtain⟨b,ta,q,as,m,n,n0,cnt,R,p,tk0,sh,rfl,_⟩:=h;rfl
 . obtain⟨b,ta,q,as,m,n,n0,cnt,R,p,tk0,sh,rfl,B0,hta,hkeep,hn,hm,inj,k⟩:=h;refine⟨_,aG (dM PassesOwn.never rfl (aDb (by rfl) B.enumerate (aA (pv 1) aF)) (aCc rfl (lC (bB (i:=2) eM.nd rfl (Or.inl rfl)) (lC (bB (i:=3) eM.nd rfl (Or.inl rfl)) yI))) (aG (bC ((nG (aP eA (pv 3) bW (aU _)) (nG (bP (bX Gc (hr.mono (by decide)) (by rfl) (aA (aR aQ (aY (pv 0) rfl) (pv 2) (fun _ _=>rfl)) (aA (pv 3) aF)))) (lW (bP (bX Gi hr (by rfl) (aA (aR aQ (aY (pv 0) rfl) (pv 2) (fun _ _=>rfl)) (aA (pv 3) (aA (aY (pv 0) rfl) aF))))))))).pt (aG (bE (aCd Gs (hr.mono (by decide)) (pv 0) (aA (pv 2) (aA (pv 3) aF))))) aT))),?_⟩;refine⟨_,rfl,ta,rfl,⟨_,hta⟩,?_⟩;refine aBq (xs:=(tab n0 tk0).map oV) (fun i σ H2=>∃(tk hd:Nat->Option Nat)(v2 v3:Option V),σ=[some (.ref b),some (.ref ta),v2,v3]/\BS CB H2 b q as m n cnt R p tk hd sh/\eS m n R p tk hd/\(∀h t,tk h=some t->h<i/\tk0 h=some t)/\bD [q.t,q.h] H H2) ⟨_,_,none,none,rfl,B0,⟨fun h t _ e=>(nomatch e),fun h t _ e=>(nomatch e)⟩,fun h t e=>(nomatch e),bD.refl H⟩ (fun i σ H2 _ ⟨tk,hd,v2,v3,_,_,_,_,kk⟩=>hkeep H2 kk) ?_ ?_
   . rintro i x c σ H2 hx ⟨tk,hd,v2,v3,rfl,B2,SE,old,kk⟩ hc;have hi:i<n0:=by
       have:=(List.getElem?_eq_some_iff.mp hx).1;rwa [cB] at this
     have ex:x=oV (tk0 i):=by
       rw[List.getElem?_map,cY hi] at hx;exact(Option.some.inj hx).symm
     subst ex;have sm:Same H2 (upd H2 c (.tup [.int (i:Int),oV (tk0 i)])):=(Same.refl H2).upd hc;have ac:(upd H2 c (.tup [.int (i:Int),oV (tk0 i)])) c=some (.tup [.int (i:Int),oV (tk0 i)]):=aB;generalize upd H2 c (.tup [.int (i:Int),oV (tk0 i)])=H3 at sm ac;have B3:=B2.same sm;have kk3:bD [q.t,q.h] H H3:=kk.trans sm.kept;have stay:∃(tk hd:Nat->Option Nat)(v2 v3:Option V),[some (.ref b),some (.ref ta),some (.int (i:Int)),some (oV (tk0 i))]=[some (.ref b),some (.ref ta),v2,v3]/\BS CB H3 b q as m n cnt R p tk hd sh/\eS m n R p tk hd/\(∀h t,tk h=some t->h<i+1/\tk0 h=some t)/\bD [q.t,q.h] H H3:= ⟨tk,hd,_,_,rfl,B3,SE,fun h t e=>⟨Nat.lt_succ_of_lt (old h t e).1,(old h t e).2⟩,kk3⟩;refine⟨c,_,rfl,SqT.of ac,rfl,_,_,rfl,_,_,rfl,rfl,?_⟩;refine⟨_,rfl,rfl,_,rfl,?_⟩;cases ht:tk0 i with
     |none=>rw[ht] at stay;exact cI stay
     |some t=>
       rw[ht] at stay;obtain⟨dx,fs,e,F⟩:=B3.ob;have hin:i<n:=Nat.lt_of_lt_of_le hi hn;have has:as[i]?=some (as[i]'(by rw[B3.len];exact hin)):=List.getElem?_eq_getElem _;generalize as[i]'(by rw[B3.len];exact hin)=a at has;have hrow:=B3.row i a has;have atA:atI (as.map V.ref) (i:Int)=some (.ref a):=dA (by rw[List.getElem?_map,has];rfl);refine iH ⟨_,rfl,b,CB,dx,fs,_,rfl,e,T0.cl,T0.rows,F.rows,_,rfl,q.r,_,_,.ref a,rfl,rfl,SqL.of B3.rows,atA,_,rfl,a,(t:Int),_,rfl,SqL.of hrow,fun c1 hc1=>⟨c1,rfl,?_⟩⟩;refine eE (fun y1=>?_) (fun _=>stay);subst y1;obtain⟨_,cst,hcst⟩:=hc1.mp rfl;rw[Int.toNat_natCast] at hcst;have htm:t<m:=by
         have:=(List.getElem?_eq_some_iff.mp hcst).1;rwa [cV] at this
       have hR:R i t=some cst:=by
         rw[cY htm] at hcst;exact Option.some.inj hcst
       refine⟨_,rfl,b,CB,dx,fs,_,rfl,e,T0.cl,T0.rows,F.rows,_,rfl,q.r,_,_,.ref a,rfl,rfl,SqL.of B3.rows,atA,_,rfl,_,rfl,b,CB,dx,fs,_,rfl,e,T0.cl,T0.prices,F.prices,a,q.p,(t:Int),cst,p t,_,tab m p,rfl,SqL.of hrow,SqL.of B3.pr,by rw[cV];omega,by omega,by rw[Int.toNat_natCast];exact hcst,by rw[Int.toNat_natCast];exact cY htm,fun H4 s4=>⟨_,rfl,?_⟩⟩;have B4:=B3.same s4;have kk4:=kk3.trans s4.kept;refine eE (fun y2=>?_) (fun _=>⟨tk,hd,_,_,rfl,B4,SE,fun h t e=>⟨Nat.lt_succ_of_lt (old h t e).1,(old h t e).2⟩,kk4⟩);have fit:aEi m R p i t:=⟨cst,hR,fun t' c' l e'=>of_decide_eq_true y2 t' c' (p t') (by rw[cY l,e']) (cY l)⟩;have tki:tk i=none:=by
         cases y:tk i with
         |none=>rfl
         |some t'=>exact absurd (old i t' y).1 (Nat.lt_irrefl i)
       have hdt:hd t=none:=by
         cases y:hd t with
         |none=>rfl
         |some h'=>
           have g:=(SE.b h' t htm y).2;obtain⟨l1,l2⟩:=old h' t g;have:=inj h' i t (by omega) hi l2 ht;omega
       obtain⟨dx4,fs4,e4,F4⟩:=B4.ob;refine⟨_,rfl,b,dx4,fs4,rfl,e4,F4.seat,_,rfl,_,rfl,b,q,as,m,n,cnt,R,p,tk,hd,sh,i,t,rfl,B4,hin,htm,fun H5 B5 k5=>?_⟩;refine⟨_,_,_,_,rfl,B5,SE.sit hin htm fit tki hdt,fun h' t' y=>?_,kk4.trans k5⟩;by_cases z:h'=i
       . subst z;rw[bK] at y;cases y;exact⟨Nat.lt_succ_self _,ht⟩
       . rw[bN z] at y;exact⟨Nat.lt_succ_of_lt (old h' t' y).1,(old h' t' y).2⟩
   . rintro σ H2 ⟨tk,hd,v2,v3,rfl,B2,SE,_,kk⟩;exact k H2 tk hd B2 SE kk
end
section
variable{P:Program}{w:World}{K:W.Frag}{mg:Str->Option Value}{base:Heap}{CB CS cN TN:Addr}
theorem bD.freeN{H H':Hp}{x:Addr}(k:bD [TN] H H')(t:fW H' TN)(h:H' x=none):H x=none:=by
 cases e:H x with
 |none=>rfl
 |some o=>
   have n:x≠TN:=fun y=>by
     obtain⟨ps,z,_⟩:=t;rw[<- y,h] at z;cases z
   rw[k x o e (by simpa using n)] at h;cases h
def mZ(CB:Addr)(H0 H:Hp)(b:Addr)(m:Nat)(T:gL):Prop:=∃(q:BA)(as:List Addr)(p:Nat->Int)(tk hd:Nat->Option Nat),H0 b=none/\H0 q.p=none/\H0 q.t=none/\eS m (max T.length m) (brd T) p tk hd /\ ((BS CB H b q as m (max T.length m) (T.length:Int) (brd T) p tk hd .non/\∀i,i<max T.length m->tk i≠none) \/ ∃(tp l1 l2:Addr)(hs ts:List Int),BS CB H b q as m (max T.length m) (T.length:Int) (brd T) p tk hd (.ref tp)/\H tp=some (.tup [.ref l1,.ref l2])/\H l1=some (.lst (hs.map V.int))/\H l2=some (.lst (ts.map V.int))/\H0 l1=none/\H0 l2=none/\pW m T hs ts)
theorem mZ.done{H0 H:Hp}{b:Addr}{m:Nat}{T:gL}(d:mZ CB H0 H b m T):aIc CB H b m T:=by
 obtain⟨q,as,p,tk,hd,_,_,_,SE,h⟩:=d;refine⟨q,as,p,tk,hd,?_⟩;rcases h with⟨a,b⟩|⟨tp,l1,l2,hs,ts,a,b,c,d,_,_,e⟩
 . exact .inl ⟨a,SE,b⟩
 . exact .inr ⟨tp,l1,l2,hs,ts,a,b,c,d,e⟩
def lH(K:W.Frag)(CB TN:Addr):Sp:=fun vs H Q _=>∃(ra ta pa:Addr)(m:Nat)(bs:List Addr)(T:gL)(p:Nat->Int)(tk0:Nat->Option Nat),vs=[.int (m:Int),.ref ra,.ref ta,.ref pa]/\nR K H ra m T bs/\SqL K H ta ((tab T.length tk0).map oV)/\(∀i j t,i<T.length->j<T.length->tk0 i=some t->tk0 j=some t->i=j) /\ SqL K H pa ((tab m p).map V.int)/\m <= 40/\T.length <= 41/\fW H TN/\∀(b:Addr)(H':Hp),mZ CB H H' b m T->bD [TN] H H'->fW H' TN->Q (.ref b) H'
theorem sQ(B:Blt mg)(T0:CBd K CB)(U:CSr K CS)(G1:aFt P w K mg base 1 "Board" CB ["self","many","rows","prices"] (uJ K CB))(G2:Has P w K mg base 3 "keep_content" ["board","tasks"] (xL K CB))(G3:Has P w K mg base 4 "searched" ["board","hand"] (lJ CB CS TN))(G4:Has P w K mg base 1 "has_goal" ["board","search"] (xM CB CS))(G5:Has P w K mg base 1 "shortage" ["board","search","hand"] (lG CB CS))(G6:Has P w K mg base 1 "raise_prices" ["board","search"] (uE CB CS))(G7:Has P w K mg base 2 "move_along" ["board","search"] (xG CB CS))(D:cE K mg "settled" lS ["many","rows","tasks","prices"]):Has P w K mg base 5 "settled" ["many","rows","tasks","prices"] (lH K CB TN):=by
 refine D.has iC (fun vs H Q E h=>?_) fun f cdv A outer s₁ H vs Q E hr h=>?_
 . obtain⟨ra,ta,pa,m,bs,T,p,tk0,rfl,_⟩:=h;rfl
 . obtain⟨ra,ta,pa,m,bs,T,p0,tk0,rfl,RA,hta,inj0,hpa,hm,hT,hTab,k⟩:=h;refine⟨_,aC (aX (i:=4) iC.nd rfl (Or.inl rfl) (yJ G1 (hr.mono (by decide)) (by rfl) (aA (pv 0) (aA (pv 1) (aA (pv 3) aF))))) (aC (bE (bX G2 (hr.mono (by decide)) (by rfl) (aA (pv 4) (aA (pv 2) aF)))) (aC (dM PassesOwn.never rfl (dE (by rfl) B.range (aA (aM aO (by rfl) B.len boot_len (aA (aY (pv 4) rfl) aF)) aF)) (bB (i:=5) iC.nd rfl (Or.inl rfl)) (aG (bC (aP nH (aR aQ (aY (pv 4) rfl) (pv 5) (fun _ _=>rfl)) bW (aU _)) (aC (aX (i:=6) iC.nd rfl (Or.inl rfl) (bX G3 hr (by rfl) (aA (pv 4) (aA (pv 5) aF)))) (aC (bC (cA (bP (bX G4 (hr.mono (by decide)) (by rfl) (aA (pv 4) (aA (pv 6) aF))))) (aC (dO (pv 4) (bX G5 (hr.mono (by decide)) (by rfl) (aA (pv 4) (aA (pv 6) (aA (pv 5) aF)))) rfl) (aG (aS (pv 4)))) aT) (aC (bE (bX G6 (hr.mono (by decide)) (by rfl) (aA (pv 4) (aA (pv 6) aF)))) (aG (bE (bX G7 (hr.mono (by decide)) (by rfl) (aA (pv 4) (aA (pv 6) aF)))))))) aT))) (aG (aS (pv 4))))),?_⟩;refine⟨_,rfl,_,rfl,_,rfl,fun b dx hb hdx hne=>?_⟩;have s0:Same H (upd (upd H dx (.own b)) b (.ins CB dx [])):=fun c o ec=>by
     rw[aE (aH ec hb),aE (aH ec hdx)];exact ec
   refine⟨b,dx,ra,pa,m,bs,T,p0,rfl,aB,s0.seq RA.ls,RA.len,RA.wide,fun i a r e1 e2=>s0 _ _ (RA.row i a r e1 e2),s0.seq hpa,by omega,by omega,fun q as H1 B1 f1 f2 f3 f4 k1=>⟨rfl,?_⟩⟩;have sm1:Same H H1:=fun c o ec=>k1 c o (s0 c o ec) (by simpa using aH ec hb);have free:∀x,(upd (upd H dx (.own b)) b (.ins CB dx [])) x=none->H x=none:=fun x hx=>s0.free hx;have qr:=free _ f1;have qp:=free _ f2;have qt:=free _ f3;have qh:=free _ f4;have hkeep:∀H',bD [q.t,q.h] H1 H'->SqL K H' ta ((tab T.length tk0).map oV):=fun H' kk=>by
     rcases hta with(z|⟨o,z⟩)|z
     . exact .inl (.inl (kk _ _ (sm1 _ _ z) (by simp only[List.mem_cons,List.not_mem_nil,or_false,not_or];exact⟨aH z qt,aH z qh⟩)))
     . exact .inl (.inr ⟨o,kk _ _ (sm1 _ _ z) (by simp only[List.mem_cons,List.not_mem_nil,or_false,not_or];exact⟨aH z qt,aH z qh⟩)⟩)
     . exact .inr z
   refine⟨_,rfl,_,rfl,b,ta,q,as,m,max T.length m,T.length,_,_,p0,tk0,_,rfl,B1,sm1.seq hta,hkeep,Nat.le_max_left _ _,by omega,inj0,fun H1b tkb hdb B1b seat0 k1b=>?_⟩;have tab1:fW H1b TN:=(hTab.same sm1).kept k1b fun x hx=>by
     rcases List.mem_cons.mp hx with y|y
     . rw[y,B1.tk];trivial
     . rw[List.mem_singleton.mp y,B1.hd];trivial
   have kp1:bD [TN] H H1b:=(sm1.kept (ex:=[TN])).then k1b fun x hx=>by
     rcases List.mem_cons.mp hx with y|y
     . rw[y];exact .inl qt
     . rw[List.mem_singleton.mp y];exact .inl qh
   obtain⟨dx1,fs1,e1,F1⟩:=B1b.ob;refine⟨_,rfl,b,CB,dx1,fs1,_,rfl,e1,T0.cl,T0.rows,F1.rows,q.r,_,rfl,.inl (SqL.of B1b.rows),((max T.length m:Nat):Int),by rw[List.length_map,B1b.len],by omega,by omega,?_⟩;refine dF (n:=(((max T.length m:Nat):Int)).toNat) (fun i σ H2=>∃(p:Nat->Int)(tk hd:Nat->Option Nat)(v5 v6:Option V),σ=[some (.int (m:Int)),some (.ref ra),some (.ref ta),some (.ref pa),some (.ref b),v5,v6]/\BS CB H2 b q as m (max T.length m) (T.length:Int) (brd T) p tk hd .non/\eS m (max T.length m) (brd T) p tk hd /\ (∀h,h<i->tk h≠none)/\fW H2 TN/\bD [TN] H H2) ⟨p0,_,_,none,none,rfl,B1b,seat0,fun h hh=>absurd hh (Nat.not_lt_zero _),tab1,kp1⟩ ?_ ?_
   . rintro i σ H2 hi ⟨p,tk,hd,v5,v6,rfl,B2,SE,hall,t2,kp2⟩;have hin:i<max T.length m:=by omega
     obtain⟨dx2,fs2,e2,F2⟩:=B2.ob;have ei:(0:Int)+(i:Int)=(i:Int):=Int.zero_add _;rw[ei];refine⟨_,rfl,b,CB,dx2,fs2,_,rfl,e2,T0.cl,T0.tasks,F2.tasks,_,rfl,q.t,_,_,oV (tk i),rfl,rfl,SqL.of B2.tk,cJ hin,rfl,_,rfl,?_⟩;cases hti:tk i with
     |some t=>
       refine cI ⟨p,tk,hd,_,_,rfl,B2,SE,fun h hh=>?_,t2,kp2⟩;by_cases y:h=i
       . rw[y,hti];exact fun z=>nomatch z
       . exact hall h (by omega)
     |none=>
       refine iH ⟨_,rfl,_,rfl,b,q,as,m,max T.length m,_,brd T,p,tk,hd,.non,i,rfl,B2,SE,hti,hin,by omega,t2,fun H3 s z far thr ahead reached B3 S3 ap hend k3 t3=>?_⟩;have kp3:bD [TN] H H3:=kp2.trans k3;have hlt:∀t,t∈reached->t<m:=fun t ht=>by
         cases hend with
         |goal t0 g h1 h2 h3 h4 h5=>exact(h4 t ht).1
         |stuck h1 h2 h3 h4 h5=>exact(h2 t ht).1
       refine⟨_,rfl,_,rfl,b,q,as,m,max T.length m,_,brd T,p,tk,hd,.non,s,z,far,thr,ahead,reached,rfl,B3,S3,hlt,_,rfl,?_⟩;cases hend with
       |goal t0 g h1 h2 h3 h4 h5=>
         refine eE (fun y=>?_) (fun _=>?_)
         . rw[kD h1,h2] at y;cases y
         refine⟨_,rfl,_,rfl,b,q,as,m,max T.length m,_,brd T,p,tk,hd,.non,s,z,far,thr,ahead,reached,t0,g,rfl,B3,S3,ap,h5.rN,h4,h1,h3,fun H4 B4 k4=>?_⟩;have S4:=S3.kept k4 fun x hx=>by
           rw[List.mem_singleton.mp hx];exact⟨ap.1.2.2.1.symm,ap.2.1.2.2.1.symm,ap.2.2.1.2.2.1.symm,ap.2.2.2.1.2.2.1.symm,ap.2.2.2.2.2.2.1.symm⟩
         refine⟨_,rfl,_,rfl,b,q,as,m,max T.length m,_,brd T,p,cR reached far g p,tk,hd,.non,s,z,far,thr,ahead,reached,i,t0,rfl,B4,S4,ap,h5,SE,hti,hin,h1,h2,fun H5 tk' hd' SE5 hne5 hmore B5 k5=>?_⟩;have t4:fW H4 TN:=t3.kept k4 fun x hx=>by rw[List.mem_singleton.mp hx,B3.pr];trivial
         have t5:fW H5 TN:=t4.kept k5 fun x hx=>by
           rcases List.mem_cons.mp hx with y|y
           . rw[y,B4.tk];trivial
           . rw[List.mem_singleton.mp y,B4.hd];trivial
         refine⟨_,tk',hd',_,_,rfl,B5,SE5,fun h hh=>?_,t5,(kp3.then k4 fun x hx=>?_).then k5 fun x hx=>?_⟩
         . by_cases y:h=i
           . rw[y];exact hne5
           . exact hmore h (by omega) (hall h (by omega))
         . rw[List.mem_singleton.mp hx];exact .inl qp
         . rcases List.mem_cons.mp hx with y|y
           . rw[y];exact .inl qt
           . rw[List.mem_singleton.mp y];exact .inl qh
       |stuck h1 h2 h3 h4 h5=>
         have hfalse:wH hd reached=false:=by
           cases hl:hU reached with
           |none=>exact wG hl
           |some t=>rw[kD hl];exact h1 t hl
         refine eE (fun _=>?_) (fun y=>absurd (by rw[hfalse];rfl) y);have hg:∀t,t∈reached->t<m/\hd t=some ((hd t).getD 0)/\(hd t).getD 0<max T.length m/\(hd t).getD 0≠i:=fun t ht=>by
           obtain⟨a1,h,a2,a3,a4⟩:=h2 t ht;rw[a2];exact⟨a1,rfl,a3,a4⟩
         refine⟨_,rfl,_,rfl,_,rfl,b,q,as,m,max T.length m,_,brd T,p,tk,hd,.non,s,z,far,thr,ahead,reached,i,fun t=>(hd t).getD 0,rfl,B3,S3,Nat.le_trans (kN m reached h5 hlt) (by omega),fun t ht=>⟨(hg t ht).1,(hg t ht).2.1⟩,fun H4 tp l1 l2 hs ts w1 w2 w3 w4 w5 w6 w7 w8 w9=>?_⟩;have B4:=B3.same w8;obtain⟨dx4,fs4,e4,F4⟩:=B4.ob;refine⟨_,rfl,b,CB,dx4,fs4,rfl,e4,T0.cl,T0.short,Nat.lt_of_lt_of_le F4.len (by decide),?_⟩;refine⟨_,rfl,?_⟩;have B5:=B4.short (sh':=.ref tp) e4 F4;have hSh:pW m T hs ts:=tE RA.wide rfl hin hg h3 h4 h5 w4 w5 w6 w7;have bH:H b=none:=hb;have t4:fW H4 TN:=t3.same w8;refine k b _ ⟨q,as,p,tk,hd,hb,qp,qt,SE,.inr ⟨tp,l1,l2,hs,ts,B5,?_,?_,?_,kp3.freeN t3 w9.1,kp3.freeN t3 w9.2,hSh⟩⟩ ((kp3.trans w8.kept).off bH) ?_
         . rw[aE (bS w1 e4 (by intro y;cases y))];exact w1
         . rw[aE (bS w2 e4 (by intro y;cases y))];exact w2
         . rw[aE (bS w3 e4 (by intro y;cases y))];exact w3
         . exact t4.kept (ex:=[b]) ((bD.refl H4).upd (by simp)) fun x hx=>by rw[List.mem_singleton.mp hx,e4];trivial
   . rintro σ H2 ⟨p,tk,hd,v5,v6,rfl,B2,SE,hall,t2,kp2⟩;exact⟨_,rfl,k b H2 ⟨q,as,p,tk,hd,hb,qp,qt,SE,.inl ⟨B2,fun i hi=>hall i (by omega)⟩⟩ kp2 t2⟩
end
section
variable{P:Program}{w:World}{K:W.Frag}{mg:Str->Option Value}{base:Heap}{CB CS cN TN:Addr}
def aAj(H0 H:Hp)(tp:Addr)(m:Nat)(T:gL):Prop:=∃(l1 l2:Addr)(us vs:List Int),H l1=some (.lst (us.map V.int))/\H l2=some (.lst (vs.map V.int))/\H0 l1=none/\H0 l2=none /\ ((H tp=some (.tup [.str "dealt", .ref l1,.ref l2])/\aAd m T us vs)\/(H tp=some (.tup [.str "short", .ref l1,.ref l2])/\pW m T us vs))
def uC(CB:Addr):Sp:=fun vs H Q _=>∃(b:Addr)(m:Nat)(T:gL)(H0:Hp),vs=[.ref b]/\mZ CB H0 H b m T/\(∀x,H x=none->H0 x=none)/\rW m T/\m <= 40/\T.length <= 41/\∀(tp:Addr)(H':Hp),aAj H0 H' tp m T->Same H H'->Q (.ref tp) H'
theorem aB6(B:Blt mg)(T0:CBd K CB)(D:cE K mg "told" uK ["board"]):Has P w K mg base 1 "told" ["board"] (uC CB):=by
 refine D.has xR (fun vs H Q E h=>?_) fun f cdv A outer s₁ H vs Q E hr h=>?_
 . obtain⟨b,m,T,H0,rfl,_⟩:=h;rfl
 . obtain⟨b,m,T,H0,rfl,⟨q,as,p,tk,hd,_,_,_,SE,hdone⟩,hfr,hw,hm,hT,k⟩:=h;refine⟨_,aC (bC (aP eA (aY (pv 0) rfl) bW (aU _)) (aG (aS (eY (aA bG (aA (aR aZ (aY (pv 0) rfl) aJ (fun _ _=>rfl)) (aA (aR aZ (aY (pv 0) rfl) aJ (fun _ _=>rfl)) aF)))))) aT) (aC (aX (i:=1) xR.nd rfl (Or.inr rfl) (qP (aA9 rfl) (by rfl) B.min boot_min (aA (aY (pv 0) rfl) aF) (oS aJ yF))) (aG (aS (eY (aA bG (aA (oU sD (aY (pv 0) rfl) yE (oR (aY (pv 0) rfl))) (aA (gH (sc:=aI uK) (XN:=["board","least"]) (own:=["price"]) (fr:=["least"]) (js:=[1]) rfl rfl rfl (⟨rfl,by decide +kernel,by decide +kernel,by decide +kernel,rfl,by decide +kernel⟩) (cC (aY (pv 0) rfl)) (fun _ _ _ _ _=>(bB (i:=0) (show List.Nodup (["price","least"]:List Str) by decide +kernel) rfl (Or.inl rfl))) (fun _ _ _ _ _=>fJ) (fun _ _ _ _ _=>(bF iL (pv 0) (pv 1)))) aF))))))),?_⟩;rcases hdone with⟨BB,hall⟩|⟨tp,l1,l2,hs,ts,BB,w1,w2,w3,w4,w5,hSh⟩
   . obtain⟨dx,fs,e,F⟩:=BB.ob;refine⟨_,rfl,b,CB,dx,fs,_,rfl,e,T0.cl,T0.short,F.short,rfl,_,rfl,cI ?_⟩;refine⟨_,rfl,b,CB,dx,fs,_,rfl,e,T0.cl,T0.prices,F.prices,q.p,tab m p,0,rfl,rfl,SqL.of BB.pr,?_⟩;have hle:∀t,t<m->(pG (tab m p)).getD 0 <= p t:=fun t ht=>by
       have hmem:p t∈tab m p:=List.mem_of_getElem? (cY ht);cases em:pG (tab m p) with
       |none=>rw[mH.mp em] at hmem;cases hmem
       |some x=>exact yW em _ hmem
     have hat:∀t,t<m->∃t',t'<m/\p t'=(pG (tab m p)).getD 0:=fun t ht=>by
       have hmem:p t∈tab m p:=List.mem_of_getElem? (cY ht);cases em:pG (tab m p) with
       |none=>rw[mH.mp em] at hmem;cases hmem
       |some x=>
         obtain⟨j,hj,ej⟩:=List.getElem_of_mem (uY em);have hj':j<m:=by rw[cV] at hj;exact hj
         have:=cY (f:=p) hj';rw[List.getElem?_eq_getElem hj,ej] at this;exact⟨j,hj',(Option.some.inj this).symm⟩
     generalize (pG (tab m p)).getD 0=least at hle hat ⊢;have HL:=tG hw rfl SE hall hle hat;refine⟨_,rfl,b,CB,dx,fs,_,rfl,e,T0.cl,T0.tasks,F.tasks,_,rfl,b,CB,dx,fs,_,rfl,e,T0.cl,T0.count,F.count,_,rfl,q.t,_,rfl,SqL.of BB.tk,fun l1 hl1=>?_⟩;rw[show wP ((tab (max T.length m) tk).map oV) none (some (T.length:Int))=((List.range T.length).map fun i=>(((tk i).getD 0:Nat):Int)).map V.int by rw[aE4,aAp (Nat.le_max_left _ _) hall]];have sm1:Same H (upd H l1 (.lst (((List.range T.length).map fun i=>(((tk i).getD 0:Nat):Int)).map V.int))):=(Same.refl H).upd hl1;have B1:=BB.same sm1;obtain⟨dx1,fs1,e1,F1⟩:=B1.ob;refine⟨_,rfl,b,CB,dx1,fs1,_,rfl,e1,T0.cl,T0.prices,F1.prices,q.p,rfl,⟨_,SqL.of B1.pr⟩,?_⟩;refine eO (K:=K) (xs:=(tab m p).map V.int) (fun i=>some (.int (p i - least))) (SqL.of B1.pr) (by rw[cB];omega) ?_ ?_
     . intro H2 sm2 l2 hl2;rw[cB,show(List.range m).filterMap (fun i=>some (V.int (p i - least)))=(tab m fun t=>p t - least).map V.int by rw[iM];unfold tab;rw[<- List.filterMap_eq_map];rfl];refine⟨by show 3 <= sizeLine;decide,fun tp htp=>?_⟩;have g1:=sm2 _ _ (aB (H:=H) (a:=l1) (o:=.lst (((List.range T.length).map fun i=>(((tk i).getD 0:Nat):Int)).map V.int)));have n12:l1≠l2:=aH g1 hl2;have g1':(upd H2 l2 (.lst ((tab m fun t=>p t - least).map V.int))) l1=some (.lst (((List.range T.length).map fun i=>(((tk i).getD 0:Nat):Int)).map V.int)):=by rw[aE n12];exact g1
       have n1:l1≠tp:=aH g1' htp;have n2:l2≠tp:=fun y=>by rw[<- y,aB] at htp;cases htp
       refine k tp _ ⟨l1,l2,_,_,by rw[aE n1];exact g1',by rw[aE n2];exact aB,hfr _ hl1,hfr _ ((sm1.trans sm2).free hl2),.inl ⟨aB,HL⟩⟩ (((sm1.trans sm2).upd hl2).upd htp)
     . intro i ys H2 x N hx sm2 hN;obtain⟨hi,e2⟩:i<m/\x=.int (p i):=by
         rw[List.getElem?_map] at hx;by_cases hi:i<m
         . rw[cY hi] at hx;exact⟨hi,(Option.some.inj hx).symm⟩
         . rw[nX (by omega)] at hx;cases hx
       subst e2;exact⟨_,rfl,_,rfl,_,_,rfl,rfl,hN H2 sm2⟩
   . obtain⟨dx,fs,e,F⟩:=BB.ob;refine⟨_,rfl,b,CB,dx,fs,_,rfl,e,T0.cl,T0.short,F.short,rfl,_,rfl,iH ?_⟩;refine⟨_,rfl,b,CB,dx,fs,_,rfl,e,T0.cl,T0.short,F.short,tp,_,_,.ref l1,rfl,rfl,SqT.of w1,rfl,_,rfl,b,CB,dx,fs,_,rfl,e,T0.cl,T0.short,F.short,tp,_,_,.ref l2,rfl,rfl,SqT.of w1,rfl,by show 3 <= sizeLine;decide,fun t ht=>?_⟩;exact k t _ ⟨l1,l2,hs,ts,by rw[aE (aH w2 ht)];exact w2,by rw[aE (aH w3 ht)];exact w3,w4,w5,.inr ⟨aB,hSh⟩⟩ ((Same.refl H).upd ht)
end
theorem _root_.L2.Same.put{H H':Hp}{p:Addr}{o:HO}(e:Same H H')(h:H p=none):Same H (upd H' p o):=fun b u q=>by
 rw[aE (aH q h)];exact e b u q
theorem xY{α:Type}(x:α):∀n,(List.replicate n [x]).flatten=List.replicate n x
 |0=>rfl
 |n+1=>by rw[List.replicate_succ,List.flatten_cons,xY x n,List.replicate_succ];rfl
theorem zG{n:Nat}{i:Int}(h0:0 <= i)(h1:i<n):ixN n i=some i.toNat:=by
 unfold ixN;rw[if_pos h0,if_pos h1]
theorem aAq{ts:List Int}(nd:ts.Nodup){i:Nat}{t:Int}(h:ts[i]?=some t):t∉ts.take i:=by
 intro z;obtain⟨j,hj,e⟩:=List.mem_iff_getElem.mp z;rw[List.length_take] at hj;have hi:=(List.getElem?_eq_some_iff.mp h).1;have e2:ts[j]?=some t:=by
   rw[List.getElem_take] at e;rw[<- e];exact List.getElem?_eq_getElem _
 have:=(List.getElem?_inj (List.getElem?_eq_some_iff.mp e2).1 nd).mp (e2.trans h.symm);omega
theorem xC{ts:List Int}{i:Nat}{t x:Int}(h:ts[i]?=some t):x∈ts.take (i+1)↔x∈ts.take i\/x=t:=by
 rw[List.take_add_one,h];simp
theorem fV{b:Bool}(h:¬ (!b)=true):b=true:=by
 cases b with
 |true=>rfl
 |false=>exact absurd rfl h
theorem eG{b:Bool}(h:(!b)=true):b=false:=by
 cases b with
 |true=>cases h
 |false=>rfl
section
variable{P:Program}{w:World}{K:W.Frag}{mg:Str->Option Value}{base:Heap}
def jF(K:W.Frag):Sp:=fun vs H Q _=>∃(m:Int)(a c:Addr)(T:gL)(ts:List Int),vs=[.int m,.ref a,.ref c]/\mX K H a T/\jS K H c ts/\rW m T/\T.length <= 1000/\0 <= m/\m <= 1000 /\ ∀(b:Bool)H',(b=true↔aH2 T ts)->Same H H'->Q (.bl b) H'
theorem oY(B:Blt mg)(D:cE K mg "_law_one_to_one" gQ ["_law_many","_law_rows","_law_tasks"]):Has P w K mg base 1 "_law_one_to_one" ["_law_many","_law_rows","_law_tasks"] (jF K):=by
 refine D.has eD (fun vs H Q E h=>?_) fun f cdv A outer s H vs Q E hr h=>?_
 . obtain⟨m,a,c,T,ts,rfl,_⟩:=h;rfl
 . obtain⟨m,a,c,T,ts,rfl,⟨as,ha,hl,hrow⟩,hc,hw,hT,hm0,hm1,k⟩:=h;refine⟨_,aC (bC (aP gZ (aM aO (by rfl) B.len boot_len (aA (pv 2) aF)) (aM aO (by rfl) B.len boot_len (aA (pv 1) aF)) (aU _)) (aG (aS cP)) aT) (aC (aX (i:=3) eD.nd rfl (Or.inl rfl) (bF qR (cF (aA cP aF)) (pv 0))) (aC (dM PassesOwn.never rfl (dE (by rfl) B.range (aA (aM aO (by rfl) B.len boot_len (aA (pv 1) aF)) aF)) (bB (i:=4) eD.nd rfl (Or.inl rfl)) (aC (aX (i:=5) eD.nd rfl (Or.inl rfl) (aR aQ (pv 2) (pv 4) (fun _ _=>rfl))) (aC (bC ((dW (aP mT (pv 5) aJ (aU _)) (dW (aP aB4 (pv 5) (pv 0) (aU _)) (dW (bP (aR aQ (pv 3) (pv 5) (fun _ _=>rfl))) (dI (aP nH (aR aQ (aR aQ (pv 1) (pv 4) (fun _ _=>rfl)) (pv 5) (fun _ _=>rfl)) bW (aU _))))))).pt (aG (aS cP)) aT) (aG (lX cP (lZ (pv 3) (pv 5) eV)))))) (aG (aS cP)))),?_⟩;refine⟨_,rfl,c,_,rfl,.inl hc,_,rfl,a,_,rfl,.inl ha,rfl,_,rfl,?_⟩;refine eE (fun h1=>?_) (fun h1=>?_)
   . refine k false H (rC fun z=>?_) (Same.refl H);have h2:=neI h1;rw[List.length_map,List.length_map] at h2;have:=z.1;omega
   . have hlen:ts.length=T.length:=by
       have h2:=eqI h1;rw[List.length_map,List.length_map] at h2;omega
     refine⟨by show 1 <= sizeLine;decide,fun p hp=>⟨_,rfl,p,m,_,rfl,rfl,aB,by omega,by omega,?_,fun g hg=>?_⟩⟩
     . rw[List.length_singleton,Nat.one_mul];exact Nat.le_trans (show m.toNat <= 1000 by omega) (by decide)
     have hgH:H g=none:=((Same.refl H).upd hp).free hg;have sm1:Same H (upd (upd H p (.lst [.bl false])) g (.lst (List.replicate m.toNat [V.bl false]).flatten)):=((Same.refl H).upd hp).upd hg;refine⟨_,rfl,a,_,rfl,.inl (sm1.seq ha),_,rfl,by omega,by rw[List.length_map];omega,?_⟩;refine dF (fun i σ H2=>∃v4 v5 flags,σ=[some (.int m),some (.ref a),some (.ref c),some (.ref g),v4,v5]/\Same H H2/\H2 g=some (.lst (flags.map V.bl))/\flags.length=m.toNat /\ (∀(t:Nat)b,flags[t]?=some b->(b=true↔(t:Int)∈ts.take i))/\(ts.take i).Nodup/\∀(j:Nat)r t,j<i->T[j]?=some r->ts[j]?=some t->0 <= t/\∃c,r[t.toNat]?=some (some c)) ⟨none,none,List.replicate m.toNat false,rfl,sm1,?_,List.length_replicate,?_,List.nodup_nil,fun j r t hj=>absurd hj (Nat.not_lt_zero j)⟩ ?_ ?_
     . rw[aB,xY,List.map_replicate]
     . intro t b hb;rw[List.getElem?_replicate] at hb;split at hb
       . cases hb;simp
       . cases hb
     . rintro i σ H2 hi ⟨v4,v5,flags,rfl,sm,hg2,hfl,hfs,hnd,hok⟩;have hiT:i<T.length:=by simpa [hl] using hi
       have hts:ts[i]?=some (ts[i]'(by omega)):=List.getElem?_eq_getElem _;generalize ts[i]'(by omega)=t at hts;have hT':T[i]?=some T[i]:=List.getElem?_eq_getElem hiT;generalize T[i]=r at hT';have has:as[i]?=some (as[i]'(by omega)):=List.getElem?_eq_getElem _;generalize as[i]'(by omega)=b at has;have hwr:=hw i r hT';refine⟨_,rfl,_,rfl,c,_,_,.int t,rfl,rfl,sm.seq hc,by rw[Int.zero_add];exact dA (by rw[List.getElem?_map,hts];rfl),?_⟩;refine⟨_,rfl,_,_,rfl,rfl,_,rfl,?_⟩;refine eE (fun h2=>?_) (fun h2=>?_)
       . refine k false H2 (rC fun z=>?_) sm;have q1:=(z.2.2 i r t hT' hts).1;have q2:t<0:=of_decide_eq_true h2;omega
       . have q2:¬ t<0:=fun z=>h2 (decide_eq_true z);refine⟨_,rfl,_,rfl,_,_,rfl,rfl,_,rfl,?_⟩;refine eE (fun h3=>?_) (fun h3=>?_)
         . refine k false H2 (rC fun z=>?_) sm;obtain⟨_,c1,q1⟩:=z.2.2 i r t hT' hts;have q3:m <= t:=of_decide_eq_true h3;have:=(List.getElem?_eq_some_iff.mp q1).1;omega
         . have q3:¬ m <= t:=fun z=>h3 (decide_eq_true z);have hft:flags[t.toNat]?=some (flags[t.toNat]'(by omega)):=List.getElem?_eq_getElem _;generalize flags[t.toNat]'(by omega)=fl at hft;refine⟨_,rfl,_,rfl,g,_,t,.bl fl,rfl,rfl,SqL.of hg2,eB (by omega) (by rw[List.getElem?_map,hft];rfl),fl,rfl,?_⟩;have hfl2:=hfs t.toNat fl hft;rw[Int.toNat_of_nonneg (by omega)] at hfl2;refine eE (fun h4=>?_) (fun h4=>?_)
           . refine k false H2 (rC fun z=>?_) sm;exact aAq z.2.1 hts (hfl2.mp h4)
           . have hrt:r[t.toNat]?=some (r[t.toNat]'(by omega)):=List.getElem?_eq_getElem _;generalize r[t.toNat]'(by omega)=cell at hrt;refine⟨_,rfl,_,rfl,a,_,_,.ref b,rfl,rfl,sm.seq ha,by rw[Int.zero_add];exact dA (by rw[List.getElem?_map,has];rfl),_,rfl,b,_,t,aV cell,rfl,rfl,sm.seq (hrow i b r has hT'),eB (by omega) (by rw[List.getElem?_map,hrt];rfl),rfl,_,rfl,?_⟩;cases cell with
             |none=>
               refine k false H2 (rC fun z=>?_) sm;obtain⟨_,c1,q1⟩:=z.2.2 i r t hT' hts;rw[hrt] at q1;cases q1
             |some c1=>
               refine⟨_,rfl,_,rfl,g,_,t,t.toNat,rfl,rfl,hg2,zG (by omega) (by rw[List.length_map];omega),?_⟩;refine⟨_,_,flags.set t.toNat true,rfl,sm.put hgH,?_,by rw[List.length_set];exact hfl,fun t2 b2 hb2=>?_,?_,fun j r2 t2 hj e1 e2=>?_⟩
               . rw[aB,List.map_set]
               . by_cases ht2:t2=t.toNat
                 . subst ht2;rw[List.getElem?_set_self (by omega)] at hb2;cases hb2;refine⟨fun _=>(xC hts).mpr (.inr (Int.toNat_of_nonneg (by omega))),fun _=>rfl⟩
                 . rw[List.getElem?_set_ne (Ne.symm ht2)] at hb2;rw[hfs t2 b2 hb2,xC hts];exact⟨.inl,fun z=>z.resolve_right (by omega)⟩
               . rw[List.take_add_one,hts];refine List.nodup_append.mpr ⟨hnd,by simp,fun x h1 y h2'=>?_⟩;have:y=t:=by simpa using h2'
                 rw[this];intro e;rw[e] at h1;exact h4 (hfl2.mpr h1)
               . by_cases hji:j=i
                 . subst hji;rw[hT'] at e1;rw[hts] at e2;cases e1;cases e2;exact⟨by omega,c1,hrt⟩
                 . exact hok j r2 t2 (by omega) e1 e2
     . rintro σ H2 ⟨v4,v5,flags,rfl,sm,hg2,hfl,hfs,hnd,hok⟩;have en:(as.map V.ref).length=ts.length:=by rw[List.length_map];omega
       have en2:((as.map V.ref).length:Int).toNat=ts.length:=by omega
       rw[en2,List.take_of_length_le (Nat.le_refl _)] at hnd;refine k true H2 (aGn ⟨hlen,hnd,fun j r t e1 e2=>hok j r t ?_ e1 e2⟩) sm;have:=(List.getElem?_eq_some_iff.mp e2).1;rw[en2];exact this
end
def vL(H:Hp)(tp:Addr)(m:Nat)(T:gL):Prop:=∃(l1 l2:Addr)(us vs:List Int),H l1=some (.lst (us.map V.int))/\H l2=some (.lst (vs.map V.int)) /\ ((H tp=some (.tup [.str "dealt", .ref l1,.ref l2])/\aAd m T us vs)\/(H tp=some (.tup [.str "short", .ref l1,.ref l2])/\pW m T us vs))
theorem vL.same{H H':Hp}{tp:Addr}{m:Nat}{T:gL}(h:vL H tp m T)(e:Same H H'):vL H' tp m T:=by
 obtain⟨l1,l2,us,vs,h1,h2,h3⟩:=h;refine⟨l1,l2,us,vs,e _ _ h1,e _ _ h2,?_⟩;rcases h3 with⟨a,b⟩|⟨a,b⟩
 . exact .inl ⟨e _ _ a,b⟩
 . exact .inr ⟨e _ _ a,b⟩
inductive fM where
 |come (r:mP)|leave (h:Int)|cost (h t:Int) (c:Option Int)|deal
def cW(m:Nat)(F:FL)(g:Nat):fM->FL×Nat×Option V
 |.come r=>if r.length=m then(F++[(g,r)],g+1,some (.int (g:Int))) else(F,g,some (.str "no table"))
 |.leave h=>if kC F h=true then(zW F h,g,some (.str "done")) else(F,g,some (.str "no hand"))
 |.cost h t c=>if kC F h=true then(if 0 <= t/\t<m then(aEv F h t.toNat c,g,some (.str "done")) else(F,g,some (.str "no task"))) else(F,g,some (.str "no hand"))
 |.deal=>(F,g,none)
section
variable{m g:Nat}{F:FL}{r:mP}{h t:Int}{c:Option Int}
theorem jC(e:r.length=m):cW m F g (.come r)=(F++[(g,r)],g+1,some (.int (g:Int))):=if_pos e
theorem kJ(e:r.length≠m):cW m F g (.come r)=(F,g,some (.str "no table")):=if_neg e
theorem jA(e:kC F h=true):cW m F g (.leave h)=(zW F h,g,some (.str "done")):=if_pos e
theorem kG(e:kC F h=false):cW m F g (.leave h)=(F,g,some (.str "no hand")):=if_neg (by rw[e];exact Bool.false_ne_true)
theorem jB(e:kC F h=true)(e2:0 <= t/\t<m):cW m F g (.cost h t c)=(aEv F h t.toNat c,g,some (.str "done")):=(if_pos e).trans (if_pos e2)
theorem kH(e:kC F h=true)(e2:¬ (0 <= t/\t<m)):cW m F g (.cost h t c)=(F,g,some (.str "no task")):=(if_pos e).trans (if_neg e2)
theorem kI(e:kC F h=false):cW m F g (.cost h t c)=(F,g,some (.str "no hand")):=if_neg (by rw[e];exact Bool.false_ne_true)
end
def gG(m:Nat)(ds:List fM):FL×Nat:=ds.foldl (fun s d=>((cW m s.1 s.2 d).1,(cW m s.1 s.2 d).2.1)) ([],0)
theorem qL(m:Nat)(ds:List fM)(d:fM):gG m (ds++[d])=((cW m (gG m ds).1 (gG m ds).2 d).1,(cW m (gG m ds).1 (gG m ds).2 d).2.1):=by unfold gG;rw[List.foldl_append];rfl
theorem aAu(m:Nat)(F:FL)(g:Nat)(d:fM):(cW m F g d).1.length <= F.length+1:=by
 cases d with
 |come r=>
   by_cases e:r.length=m
   . rw[jC e,List.length_append];exact Nat.le_refl _
   . rw[kJ e];exact Nat.le_succ _
 |leave h=>
   cases e:kC F h with
   |true=>rw[jA e];exact Nat.le_succ_of_le (List.length_filter_le _ _)
   |false=>rw[kG e];exact Nat.le_succ _
 |cost h t c=>
   cases e:kC F h with
   |true=>
     by_cases e2:0 <= t/\t<m
     . rw[jB e e2];show(F.map _).length <= _;rw[List.length_map];exact Nat.le_succ _
     . rw[kH e e2];exact Nat.le_succ _
   |false=>rw[kI e];exact Nat.le_succ _
 |deal=>exact Nat.le_succ _
theorem sK(m:Nat)(ds:List fM):∀i,i <= ds.length->(gG m (ds.take i)).1.length <= i
 |0,_=>Nat.le_refl _
 |i+1,hi=>by
   have ih:=sK m ds i (by omega);rw[List.take_succ_eq_append_getElem (by omega),qL];exact Nat.le_trans (aAu _ _ _ _) (by omega)
theorem oK(m:Nat)(ds:List fM){i:Nat}{d:fM}(h:ds[i]?=some d):gG m (ds.take (i+1))=((cW m (gG m (ds.take i)).1 (gG m (ds.take i)).2 d).1,(cW m (gG m (ds.take i)).1 (gG m (ds.take i)).2 d).2.1):=by
 obtain⟨hi,e⟩:=List.getElem?_eq_some_iff.mp h;rw[List.take_succ_eq_append_getElem hi,qL,e]
def dQ(H:Hp)(p:Addr):fM->Prop
 |.come r=>∃a,H p=some (.tup [.str "come", .ref a])/\H a=some (.lst (r.map aV))
 |.leave h=>H p=some (.tup [.str "leave", .int h])
 |.cost h t c=>H p=some (.tup [.str "cost", .int h,.int t,aV c])
 |.deal=>H p=some (.tup [.str "deal"])
def hZ(H:Hp)(tp:Addr)(m:Nat)(F:FL):Prop:=∃(l1 l2:Addr)(vs:List Int),H l2=some (.lst (vs.map V.int)) /\ ((∃(us:List Int)(ts:List Addr),H tp=some (.tup [.str "dealt", .ref l1,.ref l2])/\H l1=some (.lst (ts.map V.ref))/\ts.length=F.length/\(∀(i:Nat)t x u,ts[i]?=some t->F[i]?=some x->us[i]?=some u->H t=some (.tup [.int (x.1:Int),.int u]))/\aAd m (F.map (·.2)) us vs) \/ ∃(hs:List Int),H tp=some (.tup [.str "short", .ref l1,.ref l2])/\H l1=some (.lst ((hs.map fun h=>((F.map fun x=>(x.1:Int)).getD h.toNat 0)).map V.int))/\pW m (F.map (·.2)) hs vs)
def kY(H:Hp)(m:Nat)(F:FL)(g:Nat)(d:fM)(u:V):Prop:=match (cW m F g d).2.2 with
 |some v=>u=v
 |none=>∃tp,u=.ref tp/\hZ H tp m F
theorem hZ.same{H H':Hp}{tp:Addr}{m:Nat}{F:FL}(h:hZ H tp m F)(e:Same H H'):hZ H' tp m F:=by
 obtain⟨l1,l2,vs,a,b⟩:=h;refine⟨l1,l2,vs,e _ _ a,?_⟩;rcases b with⟨us,ts,b1,b2,b3,b4,b5⟩|⟨hs,b1,b2,b3⟩
 . exact .inl ⟨us,ts,e _ _ b1,e _ _ b2,b3,fun i t x u e1 e2 e3=>e _ _ (b4 i t x u e1 e2 e3),b5⟩
 . exact .inr ⟨hs,e _ _ b1,e _ _ b2,b3⟩
theorem kY.same{H H':Hp}{m:Nat}{F:FL}{g:Nat}{d:fM}{u:V}(h:kY H m F g d u)(e:Same H H'):kY H' m F g d u:=by
 unfold kY at h ⊢;split
 . rename_i v hv;rw[hv] at h;exact h
 . rename_i hv;rw[hv] at h;obtain⟨tp,a,b⟩:=h;exact⟨tp,a,b.same e⟩
def off(ex:List Addr)(H:Hp):Hp:=fun a=>if a∈ex then none else H a
theorem fR{ex:List Addr}{H:Hp}{a:Addr}(h:a∉ex):off ex H a=H a:=if_neg h
theorem uU{ex:List Addr}{H:Hp}{a:Addr}{o:HO}(h:off ex H a=some o):a∉ex/\H a=some o:=by
 unfold off at h;by_cases e:a∈ex
 . rw[if_pos e] at h;cases h
 . rw[if_neg e] at h;exact⟨e,h⟩
theorem gJ{ex ex':List Addr}{H H':Hp}(k:bD ex H H')(n:∀x∈ex',x∈ex\/H x=none):Same (off ex H) (off ex' H'):=fun a o e=>by
 obtain⟨h1,h2⟩:=uU e;have:a∉ex':=fun z=>(n a z).elim h1 fun y=>by rw[h2] at y;cases y
 rw[fR this];exact k a o h2 h1
theorem mE{ex:List Addr}{H:Hp}:Same (off ex H) H:=fun a o e=>(uU e).2
structure CFr (K:W.Frag) (C:Addr):Prop where
 cl:Cls K C
 many:dG K C "many"
 rows:dG K C "rows"
 given:dG K C "given"
 tasks:dG K C "tasks"
 prices:dG K C "prices"
structure FF (fs:List (Str×V)) (m g:Nat) (rd td pa:Addr):Prop where
 many:fs.lookup ("many":Str)=some (.int (m:Int))
 rows:fs.lookup ("rows":Str)=some (.ref rd)
 given:fs.lookup ("given":Str)=some (.int (g:Int))
 tasks:fs.lookup ("tasks":Str)=some (.ref td)
 prices:fs.lookup ("prices":Str)=some (.ref pa)
 come:fs.lookup ("come":Str)=none
 leave:fs.lookup ("leave":Str)=none
 cost:fs.lookup ("set_cost":Str)=none
 deal:fs.lookup ("deal":Str)=none
 len:fs.length<100
theorem lB{x:Str}{v:V}:∀{fs:List (Str×V)}{u:V},fs.lookup x=some u->(bI x v fs).length=fs.length
 |[],_,h=>by cases h
 |(k,y)::r,u,h=>by
   by_cases e:k=x
   . show(if k=x then(k,v)::r else(k,y)::bI x v r).length=_;rw[if_pos e];rfl
   . show(if k=x then(k,v)::r else(k,y)::bI x v r).length=_;rw[if_neg e];have h':r.lookup x=some u:=by
       rw[List.lookup_cons] at h;have:(x==k)=false:=beq_eq_false_iff_ne.mpr fun z=>e z.symm;rw[this] at h;exact h
     rw[List.length_cons,List.length_cons,lB h']
theorem FF.put{fs:List (Str×V)}{m g g':Nat}{rd td pa td' pa':Addr}(f:FF fs m g rd td pa){x:Str}{v:V}(h:(x = "given"/\v=.int (g':Int)/\td'=td/\pa'=pa)\/(x = "tasks"/\v=.ref td'/\g'=g/\pa'=pa)\/(x = "prices"/\v=.ref pa'/\g'=g/\td'=td)): FF (bI x v fs) m g' rd td' pa':=by
 rcases h with⟨rfl,rfl,rfl,rfl⟩|⟨rfl,rfl,rfl,rfl⟩|⟨rfl,rfl,rfl,rfl⟩
 . refine⟨?_,?_,?_,?_,?_,?_,?_,?_,?_,by rw[lB f.given];exact f.len⟩ <;> rw[aD]
   . rw[if_neg (by decide +kernel)];exact f.many
   . rw[if_neg (by decide +kernel)];exact f.rows
   . rw[if_pos rfl]
   . rw[if_neg (by decide +kernel)];exact f.tasks
   . rw[if_neg (by decide +kernel)];exact f.prices
   . rw[if_neg (by decide +kernel)];exact f.come
   . rw[if_neg (by decide +kernel)];exact f.leave
   . rw[if_neg (by decide +kernel)];exact f.cost
   . rw[if_neg (by decide +kernel)];exact f.deal
 . refine⟨?_,?_,?_,?_,?_,?_,?_,?_,?_,by rw[lB f.tasks];exact f.len⟩ <;> rw[aD]
   . rw[if_neg (by decide +kernel)];exact f.many
   . rw[if_neg (by decide +kernel)];exact f.rows
   . rw[if_neg (by decide +kernel)];exact f.given
   . rw[if_pos rfl]
   . rw[if_neg (by decide +kernel)];exact f.prices
   . rw[if_neg (by decide +kernel)];exact f.come
   . rw[if_neg (by decide +kernel)];exact f.leave
   . rw[if_neg (by decide +kernel)];exact f.cost
   . rw[if_neg (by decide +kernel)];exact f.deal
 . refine⟨?_,?_,?_,?_,?_,?_,?_,?_,?_,by rw[lB f.prices];exact f.len⟩ <;> rw[aD]
   . rw[if_neg (by decide +kernel)];exact f.many
   . rw[if_neg (by decide +kernel)];exact f.rows
   . rw[if_neg (by decide +kernel)];exact f.given
   . rw[if_neg (by decide +kernel)];exact f.tasks
   . rw[if_pos rfl]
   . rw[if_neg (by decide +kernel)];exact f.come
   . rw[if_neg (by decide +kernel)];exact f.leave
   . rw[if_neg (by decide +kernel)];exact f.cost
   . rw[if_neg (by decide +kernel)];exact f.deal
def aHf(kt:List (Key×V)):Prop:=∃tkf:Int->Option Nat,(∀h,(lA kt (Sum.inl h)).getD .non=oV (tkf h))/\∀h h' t,tkf h=some t->tkf h'=some t->h=h'
structure dY (CF:Addr) (H:Hp) (fa:Addr) (ex:List Addr) (m g:Nat) (F:FL):Prop where
 ob:∃(dx rd td pa:Addr)(fs:List (Str×V))(R:FR)(kt:List (Key×V))(p:Nat->Int),H fa=some (.ins CF dx fs)/\FF fs m g rd td pa/\mO H rd R/\flR R=F/\dJ R g/\H td=some (.dK kt)/\aHf kt/\H pa=some (.lst ((tab m p).map V.int)) /\
   rd∈ex/\(∀x∈R,x.2.1∈ex)/\td∉ex/\pa∉ex
 fa:fa∈ex
 al:∀x∈ex,H x≠none
 wide:rW m (F.map (·.2))
theorem dY.same{CF:Addr}{H H':Hp}{fa:Addr}{ex:List Addr}{m g:Nat}{F:FL}(h:dY CF H fa ex m g F)(e:Same H H'):dY CF H' fa ex m g F:=by
 obtain⟨dx,rd,td,pa,fs,R,kt,p,h1,h2,h3,h4,h5,h6,h7,h8,h9⟩:=h.ob;refine⟨⟨dx,rd,td,pa,fs,R,kt,p,e _ _ h1,h2,h3.same e,h4,h5,e _ _ h6,h7,e _ _ h8,h9⟩,h.fa,fun x hx z=>?_,h.wide⟩;cases q:H x with
 |none=>exact h.al x hx q
 |some o=>rw[e _ _ q] at z;cases z
section
variable{P:Program}{w:World}{K:W.Frag}{mg:Str->Option Value}{base:Heap}{CH CK TN:Addr}
def jI(CK:Addr):Sp:=fun vs H Q E=>∃(m t:Int),vs=[.int m,.int t]/\(0 <= t->t<m->Q .non H)/\(¬ (0 <= t/\t<m)->E (.ref CK) none H)
theorem pE(B:Blt mg)(XK:ExC K mg "NoTask" CK)(D:cE K mg "check_task" gU ["many","task"]):aAf P w K mg base 1 "check_task" ["many","task"] (jI CK):=by
 refine D.hasE oC (fun vs H Q E h=>?_) fun f cdv A outer s H vs Q E hr h=>?_
 . obtain⟨m,t,rfl,_⟩:=h;rfl
 . obtain⟨m,t,rfl,k1,k2⟩:=h;refine⟨_,aG (bC (cA (aAy aDi mT aJ (pv 1) (pv 0))) (aG (oP (E:=E) (C:=CK) XK rfl (by rfl) kB (aA bG aF))) aT),?_⟩;refine⟨_,rfl,_,_,rfl,rfl,_,rfl,?_⟩;refine eE (fun h0=>?_) (fun h0=>?_)
   . refine⟨_,rfl,_,_,rfl,rfl,_,rfl,?_⟩;refine eE (fun h1=>?_) (fun h1=>?_)
     . refine⟨by decide,k2 fun z=>?_⟩;have:=eG h1;rw[decide_eq_true z.2] at this;cases this
     . exact k1 (of_decide_eq_true h0) (of_decide_eq_true (fV h1))
   . exact⟨false,rfl,by decide,k2 fun z=>h0 (decide_eq_true z.1)⟩
end
section
variable{P:Program}{w:World}{K:W.Frag}{mg:Str->Option Value}{base:Heap}{CF CT CH CK CB TN:Addr}
def aAe(P:Program)(w:World)(K:W.Frag)(mg:Str->Option Value)(base:Heap)(k:Nat)(C:Addr)(m:Str)(ps:List Str)(sp:Sp):Prop:=∃f fd,Cls K C/\aFs K C m f/\iB K fd ps []/\gO P w K mg base (CXe P w) k f fd ps sp
theorem tD{x q:Str}{st:Stmt}{N ps:List Str}{k:Nat}{sp:Sp}{a:Addr}{fd:FuncData}(F:Fun K x q st a fd)(S:aW N ps (aI st))(len:∀vs H Q E,sp vs H Q E->vs.length=ps.length)(hbody:∀(cdv:Value)(A:Around)(outer:List Env)(s:Shared)(H:Hp)(vs:List V)(Q:VK)(E:XK),eU k (A.deeper (envOfC q (aI st) s.heap.objs.size a cdv))->sp vs H Q E -> ∃t,PSs (cxE P w K mg base N q (aI st) a cdv A outer s H E) (bM st) t/\t {nx:=fun _ H'=>Q .non H',rt:=Q} (kU N vs) H):gO P w K mg base (CXe P w) (k+1) a fd ps sp:=by
 obtain⟨oc,od,kV,doc,pm,an,cdv,ct,osl,rfl,lk,hcd⟩:=F.ex;exact aBr lk hcd S len fun A outer s H vs Q E hr h=>hbody cdv A outer s H vs Q E hr h
theorem sN{X:Cx}{E:XK}{k:Nat}{C:Addr}{m:Str}{ps:List Str}{sp:Sp}{apos pos:Pos}{o e:Expr}{es:List Expr}{ta:TE}{t:TA}{pl:Sem Bool}(h:aAe X.prog X.w X.K X.mg X.base k C m ps sp)(hr:eU k X.A)(hx:jR (CXe X.prog X.w) X E)(he:PE X o ta)(ha:PA X (e::es) t)(hst:starEach (e::es) X.env=(false,eval e X.env)::starEach es X.env:=by rfl)(hpl:(backTo pos (starEach es X.env)).any (·.1)=false:=by rfl)(ht:eval (.Call (.Attribute o m apos) (e::es) [] pos) X.env=(do
     let ov <- eval o X.env
     standAt apos.atName
     let (f,first) <- holding [ov] (getMethod ov m pl)
     callWith pos f first (backTo pos (starEach (e::es) X.env)) (backToKw pos (keywordEach [] X.env))):=by rfl):
   PE X (.Call (.Attribute o m apos) (e::es) [] pos) (xD C m sp [] E ta t):=by
 obtain⟨f,fd,c,h1,h2,h3⟩:=h;exact yK he c h1 h3 hr h2 .nil hx ha hst hpl ht
theorem aDd{X:Cx}{k:Nat}{C:Addr}{m:Str}{ps:List Str}{sp:Sp}{apos pos:Pos}{o:Expr}{ta:TE}{pl:Sem Bool}(h:aEh X.prog X.w X.K X.mg X.base k C m ps sp)(hr:eU k X.A)(he:PE X o ta)(ht:eval (.Call (.Attribute o m apos) [] [] pos) X.env=(do
     let ov <- eval o X.env
     standAt apos.atName
     let (f,first) <- holding [ov] (getMethod ov m pl)
     callWith pos f first (backTo pos (starEach [] X.env)) (backToKw pos (keywordEach [] X.env))):=by rfl):
   PE X (.Call (.Attribute o m apos) [] [] pos) (xD C m sp [] E0 ta aEg):=by
 obtain⟨f,fd,c,h1,h2,h3⟩:=h;exact aAz he c h1 h3 hr h2 .nil aB3 ht
def gP(K:W.Frag)(CT:Addr):Sp:=fun vs H Q E=>∃(m:Int)(a:Addr)(T:gL),vs=[.int m,.ref a]/\mX K H a T/\(rW m T->Q .non H)/\(¬ rW m T->E (.ref CT) none H)
theorem mC(B:Blt mg)(XT:ExC K mg "NoTable" CT)(D:cE K mg "check_table" gE ["many","rows"]):aAf P w K mg base 1 "check_table" ["many","rows"] (gP K CT):=by
 refine D.hasE iK (fun vs H Q E h=>?_) fun f cdv A outer s H vs Q E hr h=>?_
 . obtain⟨m,a,T,rfl,_⟩:=h;rfl
 . obtain⟨m,a,T,rfl,⟨as,ha,hl,hrow⟩,k1,k2⟩:=h;refine⟨_,aG (aGk (E:=E) rfl wE (fun C=>kB) (dM (aF4 rfl rfl) rfl (cC (pv 1)) (bB (i:=2) iK.nd rfl (Or.inl rfl)) (aG (bC (aP gZ (aM aO (by rfl) B.len boot_len (aA (pv 2) aF)) (pv 0) (aU _)) (aG (oP (E:=E) (C:=CT) XT rfl (by rfl) yB (aA bG aF))) aT)))),?_⟩;refine⟨_,rfl,a,rfl,⟨_,ha⟩,?_⟩;refine fA (xs:=as.map V.ref) (fun i σ H2=>(∃v,σ=[some (.int m),some (.ref a),v])/\H2=H/\∀(j:Nat)r,j<i->T[j]?=some r->(r.length:Int)=m) ⟨⟨none,rfl⟩,rfl,fun j r z=>absurd z (Nat.not_lt_zero _)⟩ (fun i σ H2 _ p=>by obtain⟨_,rfl,_⟩:=p;exact ha) ?_ ?_
   . rintro i x σ H2 hx ⟨⟨v,rfl⟩,rfl,old⟩;rw[List.getElem?_map] at hx;cases hb:as[i]? with
     |none=>rw[hb] at hx;cases hx
     |some b=>
       rw[hb] at hx;cases hx;obtain⟨r,hr'⟩:=aCy (H:=H2) hl hb;refine⟨_,rfl,b,_,rfl,.inl (hrow i b r hb hr'),_,rfl,rfl,_,rfl,?_⟩;refine eE (fun z=>?_) (fun z=>?_)
       . refine⟨by decide,k2 fun y=>neI z ?_⟩;rw[List.length_map];exact y i r hr'
       . refine⟨⟨_,rfl⟩,rfl,fun j q hj eq=>?_⟩;by_cases y:j=i
         . subst y;rw[hr'] at eq;cases eq;have:=eqI z;rwa [List.length_map] at this
         . exact old j q (by omega) eq
   . rintro σ H2 ⟨⟨v,rfl⟩,rfl,old⟩;exact k1 fun i r e=>old i r (by rw[List.length_map,hl];exact(List.getElem?_eq_some_iff.mp e).1) e
def fC(CH:Addr):Sp:=fun vs H Q E=>∃(d:Addr)(R:FR)(h:Int),vs=[.ref d,.int h]/\mO H d R/\(kC (flR R) h=true->Q .non H)/\(kC (flR R) h=false->E (.ref CH) none H)
theorem mW(B:Blt mg)(XH:ExC K mg "NoHand" CH)(D:cE K mg "check_there" gD ["rows","hand"]):aAf P w K mg base 1 "check_there" ["rows","hand"] (fC CH):=by
 refine D.hasE mR (fun vs H Q E h=>?_) fun f cdv A outer s H vs Q E hr h=>?_
 . obtain⟨d,R,h,rfl,_⟩:=h;rfl
 . obtain⟨d,R,h,rfl,b,k1,k2⟩:=h;refine⟨_,aG (bC (aC9 (qQ (pM hr) (pv 1) (pv 0))) (aG (oP (E:=E) (C:=CH) XH rfl (by rfl) kB (aA bG aF))) aT),?_⟩;refine⟨_,rfl,_,rfl,d,_,rfl,pZ.k (k:=Sum.inl h) b.dic,_,rfl,?_⟩;rw[aG0];cases e:kC (flR R) h with
   |true=>exact cI (k1 e)
   |false=>exact iH ⟨by decide,k2 e⟩
end
section
variable{P:Program}{w:World}{K:W.Frag}{mg:Str->Option Value}{base:Heap}{CF CT CH CK CB TN:Addr}
theorem nJ{a b:Addr}{l:List Addr}(h1:a≠b)(h2:a∉l):a∉b::l:=fun z=>(List.mem_cons.mp z).elim h1 h2
theorem lE{H:Hp}{a x:Addr}{o:HO}(h:H x≠none):upd H a o x≠none:=by
 by_cases e:x=a
 . rw[e,aB];exact fun z=>nomatch z
 . rw[aE e];exact h
theorem sI{H H':Hp}{x:Addr}(e:Same H H')(h:H x≠none):H' x≠none:=by
 cases q:H x with
 |none=>exact absurd q h
 |some o=>rw[e _ _ q];exact fun z=>nomatch z
def uI(CF:Addr):Sp:=fun vs H Q _=>∃(fa dx:Addr)(m:Nat),vs=[.ref fa,.int (m:Int)]/\H fa=some (.ins CF dx [])/\m <= 500 /\ ∀(rd td pa:Addr)(fs:List (Str×V))(H':Hp),H' fa=some (.ins CF dx fs)->FF fs m 0 rd td pa->H' rd=some (.dK [])->H' td=some (.dK [])->H' pa=some (.lst ((tab m fun _=>(0:Int)).map V.int))->H rd=none->H td=none->H pa=none->rd≠td->bD [fa] H H'->Q .non H'
theorem aBa(T0:CFr K CF){f:Addr}{fd:FuncData}(F:Fun K "__init__" "Fair.__init__" iP f fd):gO P w K mg base CX0 1 f fd ["self","many"] (uI CF):=by
 refine F.ok qJ (fun vs H Q E h=>?_) (fun cdv A outer s H vs Q E hr h=>?_)
 . obtain⟨fa,dx,m,rfl,_⟩:=h;rfl
 . obtain⟨fa,dx,m,rfl,e,hm,k⟩:=h;refine⟨_,aC (dO (pv 0) (pv 1) rfl) (aC (dO (pv 0) oW rfl) (aC (dO (pv 0) aJ rfl) (aC (dO (pv 0) oW rfl) (aG (dO (pv 0) (bF qR (cF (aA aJ aF)) (pv 1)) rfl))))),?_⟩;have sb:∀{a:Addr},a≠fa->a∉[fa]:=fun h=>by simpa using h
   refine⟨_,rfl,_,rfl,fa,CF,dx,[],rfl,e,T0.cl,T0.many,by show 0<1000;decide,?_⟩;generalize hH1:upd H fa (.ins CF dx (bI "many" (.int (m:Int)) []))=H1;have x1:H1 fa=some (.ins CF dx (bI "many" (.int (m:Int)) [])):=by rw[<- hH1];exact aB
   have k1:bD [fa] H H1:=by rw[<- hH1];exact(bD.refl H).upd (by simp)
   clear hH1;intro rd hrd;have n1:fa≠rd:=aH x1 hrd;refine⟨_,rfl,fa,CF,dx,_,rfl,by rw[aE n1];exact x1,T0.cl,T0.rows,Nat.lt_of_le_of_lt (aK ..) (by show 0+1<1000;decide),?_⟩;generalize hH2:upd (upd H1 rd (.dK [])) fa (.ins CF dx (bI "rows" (.ref rd) (bI "many" (.int (m:Int)) [])))=H2;have x2:H2 fa=some (.ins CF dx (bI "rows" (.ref rd) (bI "many" (.int (m:Int)) []))):=by rw[<- hH2];exact aB
   have r2:H2 rd=some (.dK []):=by rw[<- hH2,aE n1.symm,aB]
   have k12:bD [fa] H1 H2:=by rw[<- hH2];exact((bD.refl H1).new hrd).upd (by simp)
   have rdH:H rd=none:=by
     cases q:H rd with
     |none=>rfl
     |some o=>have:=k1 rd o q (sb n1.symm);rw[hrd] at this;cases this
   clear hH2;refine⟨_,rfl,fa,CF,dx,_,rfl,x2,T0.cl,T0.given,Nat.lt_of_le_of_lt (Nat.le_trans (aK ..) (Nat.succ_le_succ (aK ..))) (by show 0+1+1<1000;decide),?_⟩;generalize hH3:upd H2 fa (.ins CF dx (bI "given" (.int 0) (bI "rows" (.ref rd) (bI "many" (.int (m:Int)) []))))=H3;have x3:H3 fa=some (.ins CF dx (bI "given" (.int 0) (bI "rows" (.ref rd) (bI "many" (.int (m:Int)) [])))):=by rw[<- hH3];exact aB
   have r3:H3 rd=some (.dK []):=by rw[<- hH3,aE n1.symm];exact r2
   have k23:bD [fa] H2 H3:=by rw[<- hH3];exact(bD.refl H2).upd (by simp)
   clear hH3;have k3:=(k1.trans k12).trans k23;intro td htd;have n2:fa≠td:=aH x3 htd;have n3:rd≠td:=aH r3 htd;refine⟨_,rfl,fa,CF,dx,_,rfl,by rw[aE n2];exact x3,T0.cl,T0.tasks,Nat.lt_of_le_of_lt (Nat.le_trans (aK ..) (Nat.succ_le_succ (Nat.le_trans (aK ..) (Nat.succ_le_succ (aK ..))))) (by show 0+1+1+1<1000;decide),?_⟩;generalize hH4:upd (upd H3 td (.dK [])) fa (.ins CF dx (bI "tasks" (.ref td) (bI "given" (.int 0) (bI "rows" (.ref rd) (bI "many" (.int (m:Int)) [])))))=H4;have x4:H4 fa=some (.ins CF dx (bI "tasks" (.ref td) (bI "given" (.int 0) (bI "rows" (.ref rd) (bI "many" (.int (m:Int)) []))))):=by rw[<- hH4];exact aB
   have r4:H4 rd=some (.dK []):=by rw[<- hH4,aE n1.symm,aE n3];exact r3
   have t4:H4 td=some (.dK []):=by rw[<- hH4,aE n2.symm,aB]
   have k34:bD [fa] H3 H4:=by rw[<- hH4];exact((bD.refl H3).new htd).upd (by simp)
   have tdH:H td=none:=by
     cases q:H td with
     |none=>rfl
     |some o=>have:=k3 td o q (sb n2.symm);rw[htd] at this;cases this
   clear hH4;have k4:=k3.trans k34;refine⟨by show 1 <= sizeLine;decide,fun l hl=>?_⟩;refine⟨_,rfl,l,_,_,rfl,rfl,aB,by omega,by omega,by show 1*_ <= sizeLine;exact Nat.le_of_lt (bR (by omega)),fun pa hpa=>?_⟩;have y4:(upd H4 l (.lst [.int 0])) fa=some (.ins CF dx (bI "tasks" (.ref td) (bI "given" (.int 0) (bI "rows" (.ref rd) (bI "many" (.int (m:Int)) []))))):=by rw[aE (aH x4 hl)];exact x4
   have n5:fa≠pa:=aH y4 hpa;refine⟨_,rfl,fa,CF,dx,_,rfl,by rw[aE n5];exact y4,T0.cl,T0.prices,Nat.lt_of_le_of_lt (Nat.le_trans (aK ..) (Nat.succ_le_succ (Nat.le_trans (aK ..) (Nat.succ_le_succ (Nat.le_trans (aK ..) (Nat.succ_le_succ (aK ..))))))) (by show 0+1+1+1+1<1000;decide),?_⟩;have k5:bD [fa] H4 (upd (upd (upd H4 l (.lst [.int 0])) pa (.lst (List.replicate (m:Int).toNat [V.int 0]).flatten)) fa (.ins CF dx (bI "prices" (.ref pa) (bI "tasks" (.ref td) (bI "given" (.int 0) (bI "rows" (.ref rd) (bI "many" (.int (m:Int)) []))))))):=(((bD.refl H4).new hl).new hpa).upd (by simp);have paH:H pa=none:=by
     cases q:H pa with
     |none=>rfl
     |some o=>
       have z:=(k4.new hl (o:=.lst [.int 0])) pa o q (sb n5.symm);rw[hpa] at z;cases z
   refine k rd td pa _ _ aB ⟨?_,?_,?_,?_,?_,?_,?_,?_,?_,?_⟩ (k5 _ _ r4 (sb n1.symm)) (k5 _ _ t4 (sb n2.symm)) ?_ rdH tdH paH n3 (k4.trans k5)
   . rw[aD,if_neg (by decide +kernel),aD,if_neg (by decide +kernel),aD,if_neg (by decide +kernel),aD,if_neg (by decide +kernel),aD,if_pos rfl]
   . rw[aD,if_neg (by decide +kernel),aD,if_neg (by decide +kernel),aD,if_neg (by decide +kernel),aD,if_pos rfl]
   . rw[aD,if_neg (by decide +kernel),aD,if_neg (by decide +kernel),aD,if_pos rfl];rfl
   . rw[aD,if_neg (by decide +kernel),aD,if_pos rfl]
   . rw[aD,if_pos rfl]
   . rw[aD,if_neg (by decide +kernel),aD,if_neg (by decide +kernel),aD,if_neg (by decide +kernel),aD,if_neg (by decide +kernel),aD,if_neg (by decide +kernel)];rfl
   . rw[aD,if_neg (by decide +kernel),aD,if_neg (by decide +kernel),aD,if_neg (by decide +kernel),aD,if_neg (by decide +kernel),aD,if_neg (by decide +kernel)];rfl
   . rw[aD,if_neg (by decide +kernel),aD,if_neg (by decide +kernel),aD,if_neg (by decide +kernel),aD,if_neg (by decide +kernel),aD,if_neg (by decide +kernel)];rfl
   . rw[aD,if_neg (by decide +kernel),aD,if_neg (by decide +kernel),aD,if_neg (by decide +kernel),aD,if_neg (by decide +kernel),aD,if_neg (by decide +kernel)];rfl
   . exact Nat.lt_of_le_of_lt (Nat.le_trans (aK ..) (Nat.succ_le_succ (Nat.le_trans (aK ..) (Nat.succ_le_succ (Nat.le_trans (aK ..) (Nat.succ_le_succ (Nat.le_trans (aK ..) (Nat.succ_le_succ (aK ..))))))))) (by show 0+1+1+1+1+1<100;decide)
   . rw[aE n5.symm,aB];exact congrArg (fun l=>some (HO.lst l)) (oM m (0:Int) V.int)
theorem tY{m:Nat}{r:mP}:rW (m:Int) [r]↔r.length=m:=by
 refine⟨fun h=>by have:=h 0 r rfl;omega,fun h i q e=>?_⟩;match i,e with
 |0,e=>cases e;omega
 |n+1,e=>simp at e
def xP(K:W.Frag)(CF CT:Addr):Sp:=fun vs H Q E=>∃(fa ra:Addr)(ex:List Addr)(m g:Nat)(F:FL)(r:mP),vs=[.ref fa,.ref ra]/\dY CF H fa ex m g F/\H ra=some (.lst (r.map aV))/\F.length <= 1000 /\ (r.length=m->∀a H',H a=none->dY CF H' fa (a::ex) m (g+1) (F++[(g,r)])->bD ex H H'->(∀TN,fW H TN->fW H' TN)->Q (.int (g:Int)) H')/\(r.length≠m->∀H',Same H H'->E (.ref CT) none H')
theorem aDp(B:Blt mg)(T0:CFr K CF)(G:aAf P w K mg base 1 "check_table" ["many","rows"] (gP K CT)){f:Addr}{fd:FuncData}(F:Fun K "come" "Fair.come" jZ f fd):gO P w K mg base (CXe P w) 2 f fd ["self","row"] (xP K CF CT):=by
 refine tD F lQ (fun vs H Q E h=>?_) (fun cdv A outer s H vs Q E hr h=>?_)
 . obtain⟨fa,ra,ex,m,g,F,r,rfl,_⟩:=h;rfl
 . obtain⟨fa,ra,ex,m,g,FL0,r,rfl,FA,hra,hF,k1,k2⟩:=h;obtain⟨dx,rd,td,pa,fs,R,kt,p,h1,f1,b1,e1,rs1,ht,tk,hp,m1,m2,m3,m4⟩:=FA.ob;refine⟨_,aC (bE (qO (E:=fun _=>E) G hr (by rfl) (fun pins σ H s e s' I h=>gI pins σ H s e s' I h) (aA (aY (pv 0) rfl) (aA (cF (aA (pv 1) aF)) aF)))) (aC (aX (i:=2) lQ.nd rfl (Or.inl rfl) (aY (pv 0) rfl)) (aC (yC (pM hr) (aY (pv 0) rfl) (pv 2) (cO cS (by rfl) B.list boot_list (aA (pv 1) aF)) rfl) (aC (dO (pv 0) (bF eN (pv 2) aJ) rfl) (aG (aS (pv 2)))))),?_⟩;refine⟨_,rfl,fa,CF,dx,fs,_,rfl,h1,T0.cl,T0.many,f1.many,_,rfl,by show 1 <= sizeLine;decide,fun l hl=>?_⟩;have s1:Same H (upd H l (.lst [.ref ra])):=(Same.refl H).upd hl;have a1:(upd H l (.lst [.ref ra])) l=some (.lst ([ra].map V.ref)):=aB;generalize upd H l (.lst [.ref ra])=H1 at s1 a1;refine⟨(m:Int),l,[r],rfl,⟨[ra],SqL.of a1,rfl,fun i b q z1 z2=>?_⟩,fun hw=>?_,fun hw=>k2 (fun z=>hw (tY.mpr z)) H1 s1⟩
   . match i,z1,z2 with
     |0,z1,z2=>cases z1;cases z2;exact SqL.of (s1 _ _ hra)
     |n+1,z1,_=>simp at z1
   have hm:=tY.mp hw;refine⟨_,rfl,fa,CF,dx,fs,_,rfl,s1 _ _ h1,T0.cl,T0.given,f1.given,?_⟩;refine⟨_,rfl,ra,_,rfl,.inl (SqL.of (s1 _ _ hra)),fun a ha=>?_⟩;have haH:H a=none:=s1.free ha;have s2:Same H1 (upd H1 a (.lst (r.map aV))):=(Same.refl H1).upd ha;have a2:(upd H1 a (.lst (r.map aV))) a=some (.lst (r.map aV)):=aB;generalize upd H1 a (.lst (r.map aV))=H2 at s2 a2;have s12:=s1.trans s2;have b2:=b1.same s12;have hna:∀x∈R,x.2.1≠a:=fun x hx=>aH (b1.row x hx) haH;have len:R.length <= 1000:=by have:=congrArg List.length e1;unfold flR at this;rw[List.length_map] at this;omega
   refine⟨_,rfl,fa,CF,dx,fs,_,rfl,s12 _ _ h1,T0.cl,T0.rows,f1.rows,_,rfl,rd,_,rfl,aCr.k (k:=Sum.inl (g:Int)) b2.dic (by rw[zB];exact bR len),?_⟩;rw[rs1.new];have b3:=b2.push (g:=g) a2 hna;have k3:bD ex H2 (upd H2 rd (.dK (kvR R++[(Sum.inl (g:Int),.ref a)]))):=(bD.refl H2).upd m1;have nfr:fa≠rd:=bS h1 b1.dic (by intro z;cases z);have ntr:td≠rd:=fun z=>m3 (z▸m1);have npr:pa≠rd:=bS hp b1.dic (by intro z;cases z);have q1:(upd H2 rd (.dK (kvR R++[(Sum.inl (g:Int),.ref a)]))) fa=some (.ins CF dx fs):=by rw[aE nfr];exact s12 _ _ h1
   have q2:(upd H2 rd (.dK (kvR R++[(Sum.inl (g:Int),.ref a)]))) td=some (.dK kt):=by rw[aE ntr];exact s12 _ _ ht
   have q3:(upd H2 rd (.dK (kvR R++[(Sum.inl (g:Int),.ref a)]))) pa=some (.lst ((tab m p).map V.int)):=by rw[aE npr];exact s12 _ _ hp
   have al3:∀x∈a::ex,(upd H2 rd (.dK (kvR R++[(Sum.inl (g:Int),.ref a)]))) x≠none:=fun x hx=>by
     rcases List.mem_cons.mp hx with z|z
     . subst z;exact lE (by rw[a2];exact fun z=>nomatch z)
     . exact lE (sI s12 (FA.al x z))
   have tb3:∀TN,fW H TN->fW (upd H2 rd (.dK (kvR R++[(Sum.inl (g:Int),.ref a)]))) TN:=fun TN t=>(TabOk.same t s12).kept (ex:=[rd]) ((bD.refl H2).upd (by simp)) fun x hx=>by rw[List.mem_singleton.mp hx,b2.dic];trivial
   generalize upd H2 rd (.dK (kvR R++[(Sum.inl (g:Int),.ref a)]))=H3 at b3 k3 q1 q2 q3 al3 tb3;refine⟨_,rfl,_,_,rfl,rfl,_,rfl,fa,CF,dx,fs,rfl,q1,T0.cl,T0.given,Nat.lt_of_lt_of_le f1.len (by decide),?_⟩;refine⟨_,rfl,k1 hm a _ haH ⟨⟨dx,rd,td,pa,_,R++[(g,a,r)],kt,p,aB,f1.put (g':=g+1) (.inl ⟨rfl,by push_cast;rfl,rfl,rfl⟩),b3.away (Ne.symm ?_).symm ?_,?_,rs1.push a r,?_,tk,?_,List.mem_cons_of_mem _ m1,fun x hx=>?_,?_,?_⟩,List.mem_cons_of_mem _ FA.fa,fun x hx=>lE (al3 x hx),?_⟩ (((s12.kept (ex:=ex)).trans k3).upd FA.fa) fun TN t=>(tb3 TN t).kept (ex:=[fa]) ((bD.refl H3).upd (by simp)) fun x hx=>by rw[List.mem_singleton.mp hx,q1];trivial⟩
   . exact nfr
   . intro x hx;exact bS (b3.row x hx) q1 (by intro z;cases z)
   . unfold flR;rw[List.map_append];show flR R++[(g,r)]=_;rw[e1]
   . rw[aE (bS q2 q1 (by intro z;cases z))];exact q2
   . rw[aE (bS q3 q1 (by intro z;cases z))];exact q3
   . rcases List.mem_append.mp hx with z|z
     . exact List.mem_cons_of_mem _ (m2 x z)
     . rw[List.mem_singleton.mp z];exact List.mem_cons_self
   . exact nJ (aH ht haH) m3
   . exact nJ (aH hp haH) m4
   . rw[List.map_append];intro i q eq;by_cases hi:i<(FL0.map (·.2)).length
     . rw[List.getElem?_append_left hi] at eq;exact FA.wide i q eq
     . rw[List.getElem?_append_right (by omega)] at eq;match i - (FL0.map (·.2)).length,eq with
       |0,eq=>cases eq;show(r.length:Int)=m;omega
       |n+1,eq=>simp at eq
def uF(CF CH:Addr):Sp:=fun vs H Q E=>∃(fa:Addr)(ex:List Addr)(m g:Nat)(F:FL)(h:Int),vs=[.ref fa,.int h]/\dY CF H fa ex m g F /\ (kC F h=true->∀H',dY CF H' fa ex m g (zW F h)->bD ex H H'->(∀TN,fW H TN->fW H' TN)->Q .non H')/\(kC F h=false->E (.ref CH) none H)
theorem aB7(T0:CFr K CF)(G:aAf P w K mg base 1 "check_there" ["rows","hand"] (fC CH)){f:Addr}{fd:FuncData}(F:Fun K "leave" "Fair.leave" iO f fd):gO P w K mg base (CXe P w) 2 f fd ["self","hand"] (uF CF CH):=by
 refine tD F qI (fun vs H Q E h=>?_) (fun cdv A outer s H vs Q E hr h=>?_)
 . obtain⟨fa,ex,m,g,F,h,rfl,_⟩:=h;rfl
 . obtain⟨fa,ex,m,g,FL0,h,rfl,FA,k1,k2⟩:=h;obtain⟨dx,rd,td,pa,fs,R,kt,p,h1,f1,b1,e1,rs1,ht,tk,hp,m1,m2,m3,m4⟩:=FA.ob;refine⟨_,aC (bE (qO (E:=fun _=>E) G hr (by rfl) (fun pins σ H s e s' I h=>gI pins σ H s e s' I h) (aA (aY (pv 0) rfl) (aA (pv 1) aF)))) (aG (bE (uR (aY (pv 0) rfl) (pv 1) ⟨rfl,rfl,rfl,rfl⟩))),?_⟩;subst e1;refine⟨_,rfl,fa,CF,dx,fs,_,rfl,h1,T0.cl,T0.rows,f1.rows,_,rfl,rd,R,h,rfl,b1,fun hh=>?_,k2⟩;obtain⟨x,hx,hxh,hf⟩:=jP hh;refine⟨_,rfl,fa,CF,dx,fs,_,rfl,h1,T0.cl,T0.rows,f1.rows,rd,rfl,.inl ⟨_,.inl b1.dic⟩,_,rfl,kvR R,Sum.inl h,V.ref x.2.1,b1.dic,rfl,by rw[aAk,hf];rfl,?_⟩;rw[zV];have nfr:fa≠rd:=bS h1 b1.dic (by intro z;cases z);refine k1 hh _ ⟨⟨dx,rd,td,pa,fs,pO R h,kt,p,by rw[aE nfr];exact h1,f1,b1.drop h,vC R h,rs1.drop h,by rw[aE (show td≠rd from fun z=>m3 (z▸m1))];exact ht,tk,by rw[aE (bS hp b1.dic (by intro z;cases z))];exact hp,m1,fun y hy=>m2 y (List.mem_filter.mp hy).1,m3,m4⟩,FA.fa,fun y hy=>lE (FA.al y hy),?_⟩ ((bD.refl H).upd m1) fun TN t=>t.kept (ex:=[rd]) ((bD.refl H).upd (by simp)) fun x hx=>by rw[List.mem_singleton.mp hx,b1.dic];trivial
   intro i q eq;obtain⟨y,hy,rfl⟩:=List.mem_map.mp (List.mem_of_getElem? eq);have hy':y∈flR R:=(List.mem_filter.mp hy).1;obtain⟨j,hj,ej⟩:=List.mem_iff_getElem.mp hy';exact FA.wide j y.2 (by rw[List.getElem?_map,List.getElem?_eq_getElem hj,ej];rfl)
def lI(CF CH CK:Addr):Sp:=fun vs H Q E=>∃(fa:Addr)(ex:List Addr)(m g:Nat)(F:FL)(h t:Int)(c:Option Int),vs=[.ref fa,.int h,.int t,aV c]/\dY CF H fa ex m g F /\ (kC F h=true->0 <= t->t<m->∀H',dY CF H' fa ex m g (aEv F h t.toNat c)->bD ex H H'->(∀TN,fW H TN->fW H' TN)->Q .non H')/\(kC F h=false->E (.ref CH) none H)/\(kC F h=true->¬ (0 <= t/\t<m)->E (.ref CK) none H)
theorem sR(T0:CFr K CF)(G:aAf P w K mg base 1 "check_there" ["rows","hand"] (fC CH))(G2:aAf P w K mg base 1 "check_task" ["many","task"] (jI CK)){f:Addr}{fd:FuncData}(F:Fun K "set_cost" "Fair.set_cost" fH f fd): gO P w K mg base (CXe P w) 2 f fd ["self","hand","task","cost"] (lI CF CH CK):=by
 refine tD F lP (fun vs H Q E h=>?_) (fun cdv A outer s H vs Q E hr h=>?_)
 . obtain⟨fa,ex,m,g,F,h,t,c,rfl,_⟩:=h;rfl
 . obtain⟨fa,ex,m,g,FL0,h,t,c,rfl,FA,k1,k2,k3⟩:=h;obtain⟨dx,rd,td,pa,fs,R,kt,p,h1,f1,b1,e1,rs1,ht,tk,hp,m1,m2,m3,m4⟩:=FA.ob;refine⟨_,aC (bE (qO (E:=fun _=>E) G hr (by rfl) (fun pins σ H s e s' I h=>gI pins σ H s e s' I h) (aA (aY (pv 0) rfl) (aA (pv 1) aF)))) (aC (bE (qO (E:=fun _=>E) G2 hr (by rfl) (fun pins σ H s e s' I h=>gI pins σ H s e s' I h) (aA (aY (pv 0) rfl) (aA (pv 2) aF)))) (aG (lX (pv 3) (lZ (oX (pM hr) (aY (pv 0) rfl) (pv 1) (fun _ _=>rfl)) (pv 2) eV)))),?_⟩;subst e1;refine⟨_,rfl,fa,CF,dx,fs,_,rfl,h1,T0.cl,T0.rows,f1.rows,_,rfl,rd,R,h,rfl,b1,fun hh=>?_,k2⟩;refine⟨_,rfl,fa,CF,dx,fs,_,rfl,h1,T0.cl,T0.many,f1.many,_,rfl,(m:Int),t,rfl,fun t0 t1=>?_,k3 hh⟩;obtain⟨x,hx,hxh,hf⟩:=jP hh;have hxr:=b1.row x hx;have hxw:x.2.2.length=m:=by
     obtain⟨j,hj,ej⟩:=List.mem_iff_getElem.mp hx;have:=FA.wide j x.2.2 (by unfold flR;rw[List.map_map,List.getElem?_map,List.getElem?_eq_getElem hj,ej];rfl);omega
   refine⟨_,rfl,_,rfl,fa,CF,dx,fs,_,rfl,h1,T0.cl,T0.rows,f1.rows,_,rfl,rd,V.ref x.2.1,rfl,?_,_,rfl,x.2.1,_,t,t.toNat,rfl,rfl,hxr,zG t0 (by rw[List.length_map];omega),?_⟩
   . have:=pZ.k (k:=Sum.inl h) b1.dic;rw[aAk,hf] at this;exact this
   have e2:(x.2.2.map aV).set t.toNat (aV c)=(x.2.2.set t.toNat c).map aV:=by rw[List.map_set]
   rw[e2];subst hxh;refine k1 hh t0 t1 _ ⟨⟨dx,rd,td,pa,fs,setR R (x.1:Int) t.toNat c,kt,p,by rw[aE (bS h1 hxr (by intro z;cases z))];exact h1,f1,b1.cost rs1 hx t.toNat c,zR R _ _ _,rs1.set _ _ _,by rw[aE (bS ht hxr (by intro z;cases z))];exact ht,tk,by rw[aE (show pa≠x.2.1 from fun z=>m4 (z▸m2 x hx))];exact hp,m1,fun y hy=>?_,m3,m4⟩,FA.fa,fun y hy=>lE (FA.al y hy),?_⟩ ((bD.refl H).upd (m2 x hx)) fun TN t=>t.kept (ex:=[x.2.1]) ((bD.refl H).upd (by simp)) fun y hy=>by rw[List.mem_singleton.mp hy,hxr];trivial
   . obtain⟨z,hz,rfl⟩:=List.mem_map.mp hy;by_cases e:(z.1:Int)=(x.1:Int)
     . rw[if_pos e];exact m2 z hz
     . rw[if_neg e];exact m2 z hz
   . intro i q eq;obtain⟨y,hy,rfl⟩:=List.mem_map.mp (List.mem_of_getElem? eq);obtain⟨z,hz,rfl⟩:=List.mem_map.mp hy;obtain⟨j,hj,ej⟩:=List.mem_iff_getElem.mp hz;have:=FA.wide j z.2 (by rw[List.getElem?_map,List.getElem?_eq_getElem hj,ej];rfl);by_cases e:(z.1:Int)=(x.1:Int)
     . rw[if_pos e];show((z.2.set _ _).length:Int)=m;rw[List.length_set];exact this
     . rw[if_neg e];exact this
end
theorem eR:bootBuiltins "tuple"=some (.type "tuple"):=by decide +kernel
theorem fU:bootBuiltins "str"=some (.type "str"):=by decide +kernel
theorem hX:bootBuiltins "sorted"=some (.builtin "sorted"):=by decide +kernel
section
variable{P:Program}{w:World}{K:W.Frag}{mg:Str->Option Value}{base:Heap}{TN:Addr}
theorem uN{ns:List Int}{n:Int}(h:pX ns n):∀(i:Nat)x,ns[i]?=some x->(i:Int) <= x
 |0,x,e=>by have:(-1:Int)<x:=(h 0 x e).1;omega
 |i+1,x,e=>by
   have hl:=(List.getElem?_eq_some_iff.mp e).1;have hy:ns[i]?=some (ns[i]'(by omega)):=List.getElem?_eq_getElem _;have:=uN h i _ hy;have h1:ns.getD i 0<x:=(h (i+1) x e).1;have e2:ns.getD i 0=ns[i]'(by omega):=by simp[List.getD,hy]
   omega
theorem lU{ns:List Int}{n:Nat}(h:pX ns n):ns.length <= n:=by
 cases hl:ns.length with
 |zero=>exact Nat.zero_le _
 |succ k=>
   have hy:ns[k]?=some (ns[k]'(by omega)):=List.getElem?_eq_getElem _;have h1:=uN h k _ hy;have h2:=(h k _ hy).2;omega
end
section
variable{P:Program}{w:World}{K:W.Frag}{mg:Str->Option Value}{base:Heap}{CF CT CH CK CB TN:Addr}
abbrev yS(F:FL):List Int:=F.map fun x=>(x.1:Int)
def jJ:Sp:=fun vs H Q _=>∃(na tp:Addr)(m:Nat)(F:FL)(H0:Hp)(ex:List Addr),vs=[.ref na,.ref tp]/\H na=some (.lst ((yS F).map V.int))/\aAj H0 H tp m (F.map (·.2))/\F.length <= 41/\m <= 40/\(∀x,H x=none->H0 x=none)/\(∀x∈ex,H0 x≠none) /\ ∀(t2:Addr)(H':Hp),hZ (off ex H') t2 m F->Same H H'->Q (.ref t2) H'
theorem aFi(n:Nat)(g:Nat->Int):(List.range n).filterMap (fun i=>some (V.int (g i)))=((List.range n).map g).map V.int:=by
 rw[List.map_map,<- List.filterMap_eq_map];rfl
theorem aAx(us:List Int)(g:Int->Int):(List.range us.length).map (fun i=>g (us.getD i 0))=us.map g:=by
 refine List.ext_getElem? fun i=>?_;rw[List.getElem?_map,List.getElem?_map];by_cases hi:i<us.length
 . rw[List.getElem?_range hi,List.getElem?_eq_getElem hi];show some (g (us.getD i 0))=some (g us[i]);rw[List.getD,List.getElem?_eq_getElem hi];rfl
 . rw[List.getElem?_eq_none_iff.mpr (by simp;omega),List.getElem?_eq_none_iff.mpr (by omega)];rfl
theorem pF(B:Blt mg)(D:cE K mg "by_numbers" eX ["numbers","answer"]):Has P w K mg base 1 "by_numbers" ["numbers","answer"] jJ:=by
 refine D.has oE (fun vs H Q E h=>?_) fun f cdv A outer s H vs Q E hr h=>?_
 . obtain⟨na,tp,m,F,H0,ex,rfl,_⟩:=h;rfl
 . obtain⟨na,tp,m,F,H0,ex,rfl,hna,⟨l1,l2,us,vs,h1,h2,f1,f2,hA⟩,hF,hm,hfr,hex,k⟩:=h;refine⟨_,aC (bC (aP fL (aR aZ (pv 1) aJ (fun _ _=>rfl)) bG (aU _)) (aG (aS (eY (aA bG (aA (gH (sc:=aI eX) (XN:=["numbers","answer"]) (own:=["hand"]) (fr:=["numbers"]) (js:=[0]) rfl rfl rfl (⟨rfl,by decide +kernel,by decide +kernel,by decide +kernel,rfl,by decide +kernel⟩) (cC (aR aZ (pv 1) aJ (fun _ _=>rfl))) (fun _ _ _ _ _=>(bB (i:=0) (show List.Nodup (["hand","numbers"]:List Str) by decide +kernel) rfl (Or.inl rfl))) (fun _ _ _ _ _=>fJ) (fun _ _ _ _ _=>(aR (jO (K:=K) rfl) (pv 1) (pv 0) (fun _ _=>rfl)))) (aA (aR aZ (pv 1) aJ (fun _ _=>rfl)) aF)))))) aT) (aG (aS (eY (aA bG (aA (vU rfl (by rfl) B.list (by rfl) B.zip (aA (pv 0) (aA (aR aZ (pv 1) aJ (fun _ _=>rfl)) aF))) (aA (aR aZ (pv 1) aJ (fun _ _=>rfl)) aF)))))),?_⟩;have out:∀{x:Addr},H0 x=none->x∉ex:=fun h z=>hex _ z h;rcases hA with⟨htp,HL⟩|⟨htp,HS⟩
   . refine⟨_,rfl,tp,_,0,.str "dealt", rfl,rfl,SqT.of htp,rfl,rfl,_,rfl,?_⟩;refine cI ?_;refine⟨_,rfl,_,rfl,tp,_,1,.ref l1,rfl,rfl,SqT.of htp,rfl,na,l1,(yS F).map V.int,us.map V.int,rfl,SqL.of hna,SqL.of h1,fun l ts H1 sm hl hlen hpair fl ft=>?_⟩;refine⟨_,rfl,tp,_,2,.ref l2,rfl,rfl,SqT.of (sm _ _ htp),rfl,by show 3 <= sizeLine;decide,fun t2 ht2=>?_⟩;have hul:us.length=F.length:=by rw[HL.1.1,List.length_map]
     have e2:Same H1 (upd H1 t2 (.tup [.str "dealt", .ref l,.ref l2])):=(Same.refl H1).upd ht2;have o2:=out (hfr _ (sm.free ht2));have ol:=out (hfr _ fl);have ol2:=out f2;refine k t2 _ ⟨l,l2,vs,by rw[fR ol2];exact e2 _ _ (sm _ _ h2),.inl ⟨us,ts,by rw[fR o2];exact aB,by rw[fR ol];exact e2 _ _ hl,by rw[hlen,List.length_map,List.length_map,List.length_map,hul,Nat.min_self],fun i t x u z1 z2 z3=>?_,HL⟩⟩ (sm.trans e2);rw[fR (out (hfr _ (ft t (List.mem_of_getElem? z1))))];exact e2 _ _ (hpair i t _ _ z1 (by rw[List.getElem?_map,List.getElem?_map,z2];rfl) (by rw[List.getElem?_map,z3];rfl))
   . refine⟨_,rfl,tp,_,0,.str "short", rfl,rfl,SqT.of htp,rfl,rfl,_,rfl,?_⟩;refine iH ?_;have hr1:∀(i:Nat)x,us[i]?=some x->0 <= x/\x<F.length:=fun i x e=>⟨HS.1.lo i x e,by have:=(HS.1 i x e).2;rwa [List.length_map] at this⟩;have hul:us.length <= 41:=Nat.le_trans (lU HS.1) (by rw[List.length_map];exact hF);refine⟨_,rfl,tp,_,1,.ref l1,rfl,rfl,SqT.of htp,rfl,l1,rfl,⟨_,SqL.of h1⟩,?_⟩;refine eO (K:=K) (xs:=us.map V.int) (fun i=>some (.int ((yS F).getD (us.getD i 0).toNat 0))) (SqL.of h1) (by rw[List.length_map];omega) ?_ ?_
     . intro H1 sm l hl;rw[List.length_map,aFi,aAx us fun h=>(yS F).getD h.toNat 0];have e1:Same H1 (upd H1 l (.lst ((us.map fun h=>(yS F).getD h.toNat 0).map V.int))):=(Same.refl H1).upd hl;have al:(upd H1 l (.lst ((us.map fun h=>(yS F).getD h.toNat 0).map V.int))) l=some (.lst ((us.map fun h=>(yS F).getD h.toNat 0).map V.int)):=aB;generalize upd H1 l (.lst ((us.map fun h=>(yS F).getD h.toNat 0).map V.int))=H2 at e1 al;have sm2:=sm.trans e1;refine⟨_,rfl,tp,_,2,.ref l2,rfl,rfl,SqT.of (sm2 _ _ htp),rfl,by show 3 <= sizeLine;decide,fun t2 ht2=>?_⟩;have e2:Same H2 (upd H2 t2 (.tup [.str "short", .ref l,.ref l2])):=(Same.refl H2).upd ht2;have o2:=out (hfr _ (sm2.free ht2));have ol:=out (hfr _ (sm.free hl));have ol2:=out f2;exact k t2 _ ⟨l,l2,vs,by rw[fR ol2];exact e2 _ _ (sm2 _ _ h2),.inr ⟨us,by rw[fR o2];exact aB,by rw[fR ol];exact e2 _ _ al,HS⟩⟩ (sm2.trans e2)
     . intro i ys H1 x N hx sm hN;rw[List.getElem?_map] at hx;cases e:us[i]? with
       |none=>rw[e] at hx;cases hx
       |some y=>
         rw[e] at hx;cases hx;obtain⟨y0,y1⟩:=hr1 i y e;have hy:us.getD i 0=y:=by rw[List.getD,e];rfl
         have hyn:y.toNat<(yS F).length:=by rw[List.length_map];omega
         refine⟨_,rfl,_,rfl,na,_,y,.int ((yS F).getD y.toNat 0),rfl,rfl,SqL.of (sm _ _ hna),eB y0 ?_,?_⟩
         . rw[List.getElem?_map,List.getElem?_eq_getElem hyn,List.getD,List.getElem?_eq_getElem hyn];rfl
         . have:=hN H1 sm;rw[hy] at this;exact this
end
theorem tZ:∀(ns:List Int)(ys:List V)(h:Int),ns.length <= ys.length->lA ((ns.zip ys).map fun x=>((Sum.inl x.1:Key),x.2)) (Sum.inl h)=(ns.findIdx? (fun n=>decide (n=h))).bind fun i=>ys[i]?
 |[],_,_,_=>rfl
 |n::ns,[],_,hl=>by simp at hl
 |n::ns,y::ys,h,hl=>by
   have ih:=tZ ns ys h (by simpa using hl);show lA ((Sum.inl n,y)::(ns.zip ys).map fun x=>((Sum.inl x.1:Key),x.2)) (Sum.inl h)=_;by_cases e:n=h
   . rw[iW (by show(Sum.inl n:Key)=Sum.inl h;rw[e]),List.findIdx?_cons,if_pos (by simpa using e)];rfl
   . rw[iX (by show ¬ (Sum.inl n:Key)=Sum.inl h;exact fun z=>e (Sum.inl.inj z)),ih,List.findIdx?_cons,if_neg (by simpa using e)];cases ns.findIdx? fun n=>decide (n=h) with
     |none=>rfl
     |some i=>rfl
def aFx(ns:List Int)(n:Nat)(tk:Nat->Option Nat)(h:Int):Option Nat:=(ns.findIdx? (fun x=>decide (x=h))).bind fun i=>if i<n then tk i else none
theorem qB{ns:List Int}{n:Nat}{tk:Nat->Option Nat}{h:Int}{t:Nat}(e:aFx ns n tk h=some t):∃i:Nat,ns[i]?=some h/\i<n/\tk i=some t:=by
 unfold aFx at e;cases q:ns.findIdx? fun x=>decide (x=h) with
 |none=>rw[q] at e;cases e
 |some i=>
   rw[q] at e;by_cases hi:i<n
   . have e':tk i=some t:=by
       have:(if i<n then tk i else none)=some t:=e;rwa [if_pos hi] at this
     obtain⟨hl,a,_⟩:=List.findIdx?_eq_some_iff_getElem.mp q;exact⟨i,by rw[List.getElem?_eq_getElem hl];exact congrArg some (of_decide_eq_true a),hi,e'⟩
   . have:(if i<n then tk i else none)=some t:=e;rw[if_neg hi] at this;cases this
theorem aG4{ns:List Int}{m n:Nat}{R:Nat->Nat->Option Int}{p:Nat->Int}{tk hd:Nat->Option Nat}(S:eS m n R p tk hd)(hl:ns.length <= n):aHf ((ns.zip ((tab n tk).map oV)).map fun x=>((Sum.inl x.1:Key),x.2)):=by
 refine⟨aFx ns n tk,fun h=>?_,fun h h' t e e'=>?_⟩
 . rw[tZ _ _ _ (by rw[cB];exact hl)];unfold aFx;cases q:ns.findIdx? fun x=>decide (x=h) with
   |none=>rfl
   |some i=>
     obtain⟨hi,_,_⟩:=List.findIdx?_eq_some_iff_getElem.mp q;show(((tab n tk).map oV)[i]?).getD .non=oV (if i<n then tk i else none);rw[if_pos (by omega),List.getElem?_map,cY (by omega)];rfl
 . obtain⟨i,a1,a2,a3⟩:=qB e;obtain⟨j,b1,b2,b3⟩:=qB e';have c1:=(S.a i t a2 a3).2.1;have c2:=(S.a j t b2 b3).2.1;have c3:i=j:=Option.some.inj (c1.symm.trans c2);subst c3;exact Option.some.inj (a1.symm.trans b1)
section
variable{P:Program}{w:World}{K:W.Frag}{mg:Str->Option Value}{base:Heap}{CF CT CH CK CB TN:Addr}
theorem mZ.same{H0 H H':Hp}{b:Addr}{m:Nat}{T:gL}(d:mZ CB H0 H b m T)(e:Same H H'):mZ CB H0 H' b m T:=by
 obtain⟨q,as,p,tk,hd,d1,d2,d3,SE,h⟩:=d;refine⟨q,as,p,tk,hd,d1,d2,d3,SE,?_⟩;rcases h with⟨a,c⟩|⟨tp,l1,l2,hs,ts,a,c1,c2,c3,c4,c5,c6⟩
 . exact .inl ⟨a.same e,c⟩
 . exact .inr ⟨tp,l1,l2,hs,ts,a.same e,e _ _ c1,e _ _ c2,e _ _ c3,c4,c5,c6⟩
theorem mZ.put{H0 H:Hp}{b fa C dx:Addr}{m:Nat}{T:gL}{fs fs':List (Str×V)}(d:mZ CB H0 H b m T)(h:H fa=some (.ins C dx fs))(h0:H0 fa≠none):mZ CB H0 (upd H fa (.ins C dx fs')) b m T:=by
 obtain⟨q,as,p,tk,hd,d1,d2,d3,SE,r⟩:=d;have nb:fa≠b:=fun z=>h0 (by rw[z];exact d1);have ofB:∀{sh:V},BS CB H b q as m (max T.length m) (T.length:Int) (brd T) p tk hd sh->BS CB (upd H fa (.ins C dx fs')) b q as m (max T.length m) (T.length:Int) (brd T) p tk hd sh:=fun a=>
   a.kept (ex:=[fa]) ((bD.refl H).upd (by simp)) fun x hx=>by
     rw[List.mem_singleton.mp hx];refine⟨nb,bS h a.rows (by intro z;cases z),bS h a.pr (by intro z;cases z),bS h a.tk (by intro z;cases z),bS h a.hd (by intro z;cases z),fun z=>?_⟩;obtain⟨i,hi,e⟩:=List.mem_iff_getElem.mp z;have:=a.row i fa (by rw[List.getElem?_eq_getElem hi,e]);rw[h] at this;cases this
 refine⟨q,as,p,tk,hd,d1,d2,d3,SE,?_⟩;rcases r with⟨a,c⟩|⟨tp,l1,l2,hs,ts,a,c1,c2,c3,c4,c5,c6⟩
 . exact .inl ⟨ofB a,c⟩
 . exact .inr ⟨tp,l1,l2,hs,ts,ofB a,by rw[aE (bS c1 h (by intro z;cases z))];exact c1,by rw[aE (bS c2 h (by intro z;cases z))];exact c2,by rw[aE (bS c3 h (by intro z;cases z))];exact c3,c4,c5,c6⟩
theorem zS{R:FR}{g i:Nat}{x:Nat×Addr×List (Option Int)}(r:dJ R g)(h:R[i]?=some x):R.find? (fun y=>decide ((y.1:Int)=(x.1:Int)))=some x:=by
 have hx:x∈R:=List.mem_of_getElem? h;cases q:R.find? fun y=>decide ((y.1:Int)=(x.1:Int)) with
 |none=>
   have:=List.find?_eq_none.mp q x hx;simp at this
 |some y=>
   have e1:(y.1:Int)=x.1:=by simpa using List.find?_some q
   rw[zJ r.inc (List.mem_of_find?_eq_some q) hx (by omega)]
theorem oN{α:Type}:∀(R:List α)(g:α->V),(List.range R.length).filterMap (fun i=>(R[i]?).map g)=R.map g
 |[],_=>rfl
 |x::r,g=>by
   have ih:=oN r g;rw[List.length_cons,List.range_succ_eq_map,List.filterMap_cons];show g x::((List.range r.length).map Nat.succ).filterMap (fun i=>((x::r)[i]?).map g)=_;rw[List.filterMap_map,List.map_cons,<- ih];rfl
def xO(CF TN:Addr):Sp:=fun vs H Q _=>∃(fa:Addr)(ex:List Addr)(m g:Nat)(F:FL),vs=[.ref fa]/\dY CF H fa ex m g F/\F.length <= 41/\m <= 40/\fW H TN/\TN∈ex /\ ∀(tp:Addr)(H':Hp),dY CF H' fa ex m g F->hZ (off ex H') tp m F->bD ex H H'->fW H' TN->Q (.ref tp) H'
theorem aDo(B:Blt mg)(T0:CFr K CF)(TB:CBd K CB)(Gs:Has P w K mg base 5 "settled" ["many","rows","tasks","prices"] (lH K CB TN))(Gt:Has P w K mg base 1 "told" ["board"] (uC CB))(Gb:Has P w K mg base 1 "by_numbers" ["numbers","answer"] jJ){f:Addr}{fd:FuncData}(F:Fun K "deal" "Fair.deal" fP f fd):gO P w K mg base CX0 6 f fd ["self"] (xO CF TN):=by
 refine F.ok fZ (fun vs H Q E h=>?_) (fun cdv A outer s H vs Q E hr h=>?_)
 . obtain⟨fa,ex,m,g,F,rfl,_⟩:=h;rfl
 . obtain⟨fa,ex,m,g,FL0,rfl,FA,hF,hm,hTab,hTN,k⟩:=h;obtain⟨dx,rd,td,pa,fs,R,kt,p,h1,f1,b1,e1,rs1,ht,⟨tkf,tk1,tk2⟩,hp,m1,m2,m3,m4⟩:=FA.ob;subst e1;have lenR:(flR R).length=R.length:=by unfold flR;rw[List.length_map]
   have lenN:(dR R).length=R.length:=by unfold dR;rw[List.length_map]
   refine⟨_,aC (aX (i:=1) fZ.nd rfl (Or.inl rfl) (aM (rO rfl) (by rfl) B.sorted hX (aA (aY (pv 0) rfl) aF))) (aC (oQ (i:=2) (sc:=aI fP) (XN:=["self","numbers","rows","board"]) (own:=["number"]) (fr:=["self"]) (js:=[0]) fZ.nd rfl rfl rfl rfl rfl rfl (⟨rfl,by decide +kernel,by decide +kernel,by decide +kernel,rfl,by decide +kernel⟩) (cC (pv 1)) (fun _ _ _ _ _=>(bB (i:=0) (show List.Nodup (["number","self"]:List Str) by decide +kernel) rfl (Or.inl rfl))) (fun _ _ _ _ _=>fJ) (fun _ _ _ _ _=>(oX (pM hr) (sO (K:=K) rfl (pv 1) rfl) (pv 0) (fun _ _=>rfl)))) (aC (aX (i:=3) fZ.nd rfl (Or.inl rfl) (bX Gs hr (by rfl) (aA (aY (pv 0) rfl) (aA (pv 2) (aA (gH (sc:=aI fP) (XN:=["self","numbers","rows","board"]) (own:=["number"]) (fr:=["self"]) (js:=[0]) rfl rfl rfl (⟨rfl,by decide +kernel,by decide +kernel,by decide +kernel,rfl,by decide +kernel⟩) (cC (pv 1)) (fun _ _ _ _ _=>(bB (i:=0) (show List.Nodup (["number","self"]:List Str) by decide +kernel) rfl (Or.inl rfl))) (fun _ _ _ _ _=>fJ) (fun _ _ _ _ _=>(aB0 (pM hr) (sO (K:=K) rfl (pv 1) rfl) (pv 0) ⟨rfl,rfl,rfl,rfl⟩))) (aA (aY (pv 0) rfl) aF)))))) (aC (dO (pv 0) (vV rfl (by rfl) B.dict (by rfl) B.zip (aA (pv 1) (aA (aY (pv 3) rfl) aF))) rfl) (aC (dO (pv 0) (aY (pv 3) rfl) rfl) (aG (aS (bX Gb (hr.mono (by decide)) (by rfl) (aA (pv 1) (aA (bX Gt (hr.mono (by decide)) (by rfl) (aA (pv 3) aF)) aF))))))))),?_⟩;refine⟨_,rfl,fa,CF,dx,fs,_,rfl,h1,T0.cl,T0.rows,f1.rows,rd,kvR R,dR R,rfl,b1.dic,aBi R,by omega,fun na ns' hna p1 p2=>?_⟩;obtain rfl:=qG rs1.nums p1 p2;have s1:Same H (upd H na (.lst ((dR R).map V.int))):=(Same.refl H).upd hna;have a1:(upd H na (.lst ((dR R).map V.int))) na=some (.lst ((dR R).map V.int)):=aB;generalize upd H na (.lst ((dR R).map V.int))=H1 at s1 a1;refine⟨_,rfl,na,rfl,⟨_,SqL.of a1⟩,?_⟩;refine eO (K:=K) (xs:=(dR R).map V.int) (fun i=>(R[i]?).map fun x=>V.ref x.2.1) (SqL.of a1) (by rw[List.length_map];omega) ?_ ?_
   . intro H2 sm2 ra hra;have er:(List.range ((dR R).map V.int).length).filterMap (fun i=>(R[i]?).map fun x=>V.ref x.2.1)=(R.map (·.2.1)).map V.ref:=by
       rw[List.length_map,lenN,List.map_map];exact oN R fun x=>V.ref x.2.1
     rw[er];have e3:Same H2 (upd H2 ra (.lst ((R.map (·.2.1)).map V.ref))):=(Same.refl H2).upd hra;have a3:(upd H2 ra (.lst ((R.map (·.2.1)).map V.ref))) ra=some (.lst ((R.map (·.2.1)).map V.ref)):=aB;generalize upd H2 ra (.lst ((R.map (·.2.1)).map V.ref))=H3 at e3 a3;have s13:=sm2.trans e3;have s3:=s1.trans s13;refine⟨_,rfl,fa,CF,dx,fs,_,rfl,s3 _ _ h1,T0.cl,T0.many,f1.many,_,rfl,_,rfl,na,rfl,⟨_,SqL.of (s13 _ _ a1)⟩,?_⟩;refine eO (K:=K) (xs:=(dR R).map V.int) (fun i=>some (oV (tkf ((dR R).getD i 0)))) (SqL.of (s13 _ _ a1)) (by rw[List.length_map];omega) ?_ ?_
     . intro H4 sm4 ta hta;have et:(List.range ((dR R).map V.int).length).filterMap (fun i=>some (oV (tkf ((dR R).getD i 0))))=(tab ((flR R).map (·.2)).length fun i=>tkf ((dR R).getD i 0)).map oV:=by
         rw[List.length_map,List.length_map,lenN,lenR,iM];unfold tab;rw[<- List.filterMap_eq_map];rfl
       rw[et];have e5:Same H4 (upd H4 ta (.lst ((tab ((flR R).map (·.2)).length fun i=>tkf ((dR R).getD i 0)).map oV))):=(Same.refl H4).upd hta;have a5:(upd H4 ta (.lst ((tab ((flR R).map (·.2)).length fun i=>tkf ((dR R).getD i 0)).map oV))) ta=some (.lst ((tab ((flR R).map (·.2)).length fun i=>tkf ((dR R).getD i 0)).map oV)):=aB;generalize upd H4 ta (.lst ((tab ((flR R).map (·.2)).length fun i=>tkf ((dR R).getD i 0)).map oV))=H5 at e5 a5;have s35:=sm4.trans e5;have s5:=s3.trans s35;have lenT:((flR R).map (·.2)).length=R.length:=by rw[List.length_map,lenR]
       have t5:fW H5 TN:=hTab.same s5;refine⟨_,rfl,fa,CF,dx,fs,_,rfl,s5 _ _ h1,T0.cl,T0.prices,f1.prices,ra,ta,pa,m,R.map (·.2.1),(flR R).map (·.2),p,fun i=>tkf ((dR R).getD i 0),rfl,⟨SqL.of (s35 _ _ a3),by rw[List.length_map,lenT],FA.wide,fun i a r z1 z2=>?_⟩,SqL.of a5,fun i j t hi hj z1 z2=>?_,SqL.of (s5 _ _ hp),hm,by rw[lenT];omega,t5,fun b H6 dn k6 t6=>?_⟩
       . rw[List.getElem?_map] at z1;cases q:R[i]? with
         |none=>rw[q] at z1;cases z1
         |some x=>
           rw[q] at z1;cases z1;unfold flR at z2;rw[List.getElem?_map,List.getElem?_map,q] at z2;cases z2;exact s5 _ _ (b1.row x (List.mem_of_getElem? q))
       . have q:=tk2 _ _ _ z1 z2;rw[lenT] at hi hj;rw[List.getD,List.getD,List.getElem?_eq_getElem (by omega),List.getElem?_eq_getElem (by omega)] at q;have nd:=rs1.nums;rcases Nat.lt_trichotomy i j with l|l|l
         . exact absurd q (Int.ne_of_lt (List.pairwise_iff_getElem.mp nd i j (by omega) (by omega) l))
         . exact l
         . exact absurd q.symm (Int.ne_of_lt (List.pairwise_iff_getElem.mp nd j i (by omega) (by omega) l))
       have kp6:∀{a:Addr}{o:HO},H5 a=some o->(∀ps,o≠.tbl ps)->H6 a=some o:=fun {a o} h n=>k6 _ _ h (by
         intro z;obtain⟨ps,q,_⟩:=t5;rw[<- List.mem_singleton.mp z,h] at q;exact n ps (Option.some.inj q))
       have fa6:H6 fa=some (.ins CF dx fs):=kp6 (s5 _ _ h1) (fun ps z=>nomatch z);have na6:H6 na=some (.lst ((dR R).map V.int)):=kp6 (s35 _ _ (s13 _ _ a1)) (fun ps z=>nomatch z);have al5:∀x∈ex,H5 x≠none:=fun x hx=>sI s5 (FA.al x hx);have fa5:H5 fa≠none:=al5 _ FA.fa;obtain⟨q,as,p',tk,hd,d1,d2,d3,SE,r⟩:=id dn;have hBB:∃sh,BS CB H6 b q as m (max ((flR R).map (·.2)).length m) (((flR R).map (·.2)).length:Int) (brd ((flR R).map (·.2))) p' tk hd sh:=by
         rcases r with⟨a,_⟩|⟨tp,l1,l2,hs,ts,a,_⟩
         . exact⟨_,a⟩
         . exact⟨_,a⟩
       obtain⟨sh,BB⟩:=hBB;obtain⟨dxb,fsb,eb,FB⟩:=BB.ob;have nd:=rs1.nums.imp fun {a b} (l:a<b)=>Int.ne_of_lt l;refine⟨_,rfl,_,rfl,b,CB,dxb,fsb,_,rfl,eb,TB.cl,TB.tasks,FB.tasks,na,q.t,dR R,_,rfl,SqL.of na6,SqL.of BB.tk,by rw[cB];omega,nd,fun d hd'=>?_⟩;have TK:=aG4 (ns:=dR R) SE (by omega);generalize hkt:((dR R).zip ((tab (max ((flR R).map (·.2)).length m) tk).map oV)).map (fun x=>((Sum.inl x.1:Key),x.2))=kt' at TK;have e7:Same H6 (upd H6 d (.dK kt')):=(Same.refl H6).upd hd';have a7:(upd H6 d (.dK kt')) d=some (.dK kt'):=aB;generalize upd H6 d (.dK kt')=H7 at e7 a7;have fa7:=e7 _ _ fa6;refine⟨_,rfl,fa,CF,dx,fs,rfl,fa7,T0.cl,T0.tasks,Nat.lt_of_lt_of_le f1.len (by decide),?_⟩;have f8:FF (bI "tasks" (.ref d) fs) m g rd d pa:=f1.put (.inr (.inl ⟨rfl,rfl,rfl,rfl⟩));have dn8:=(dn.same e7).put (fs':=bI "tasks" (.ref d) fs) fa7 fa5;have x8:(upd H7 fa (.ins CF dx (bI "tasks" (.ref d) fs))) fa=some (.ins CF dx (bI "tasks" (.ref d) fs)):=aB;have k8:bD [fa] H7 (upd H7 fa (.ins CF dx (bI "tasks" (.ref d) fs))):=(bD.refl H7).upd (by simp);have al8:∀x,H7 x≠none->(upd H7 fa (.ins CF dx (bI "tasks" (.ref d) fs))) x≠none:=fun x h=>lE h;generalize upd H7 fa (.ins CF dx (bI "tasks" (.ref d) fs))=H8 at dn8 x8 k8 al8;have nfa:∀{a:Addr}{o:HO},H7 a=some o->(∀C dx fs,o≠.ins C dx fs)->H8 a=some o:=fun {a o} h n=>k8 _ _ h (by
         intro z;rw[List.mem_singleton.mp z,fa7] at h;exact n _ _ _ (Option.some.inj h).symm)
       have nbf:b≠fa:=fun z=>fa5 (by rw[<- z];exact d1);have eb8:H8 b=some (.ins CB dxb fsb):=k8 _ _ (e7 _ _ eb) (by simpa using nbf);refine⟨_,rfl,b,CB,dxb,fsb,_,rfl,eb8,TB.cl,TB.prices,FB.prices,_,rfl,fa,CF,dx,_,rfl,x8,T0.cl,T0.prices,Nat.lt_of_lt_of_le f8.len (by decide),?_⟩;have f9:FF (bI "prices" (.ref q.p) (bI "tasks" (.ref d) fs)) m g rd d q.p:=f8.put (.inr (.inr ⟨rfl,rfl,rfl,rfl⟩));have dn9:=dn8.put (fs':=bI "prices" (.ref q.p) (bI "tasks" (.ref d) fs)) x8 fa5;have x9:(upd H8 fa (.ins CF dx (bI "prices" (.ref q.p) (bI "tasks" (.ref d) fs)))) fa=some (.ins CF dx (bI "prices" (.ref q.p) (bI "tasks" (.ref d) fs))):=aB;have k9:bD [fa] H8 (upd H8 fa (.ins CF dx (bI "prices" (.ref q.p) (bI "tasks" (.ref d) fs)))):=(bD.refl H8).upd (by simp);have al9:∀x,H8 x≠none->(upd H8 fa (.ins CF dx (bI "prices" (.ref q.p) (bI "tasks" (.ref d) fs)))) x≠none:=fun x h=>lE h;generalize upd H8 fa (.ins CF dx (bI "prices" (.ref q.p) (bI "tasks" (.ref d) fs)))=H9 at dn9 x9 k9 al9;have up9:∀{a:Addr}{o:HO},H7 a=some o->(∀C dx fs,o≠.ins C dx fs)->H9 a=some o:=fun {a o} h n=>k9 _ _ (nfa h n) (by
         intro z;rw[List.mem_singleton.mp z,fa7] at h;exact n _ _ _ (Option.some.inj h).symm)
       have up59:∀{a:Addr}{o:HO},H5 a=some o->(∀ps,o≠.tbl ps)->(∀C dx fs,o≠.ins C dx fs)->H9 a=some o:=fun h n1 n2=>up9 (e7 _ _ (kp6 h n1)) n2;have alv:∀x,H6 x≠none->H9 x≠none:=fun x h=>al9 x (al8 x (sI e7 h));have hfr9:∀x,H9 x=none->H5 x=none:=fun x h=>k6.freeN t6 (by
         cases y:H6 x with
         |none=>rfl
         | some o=>exact absurd h (alv x (by rw[y];exact fun z=>nomatch z)))
       have t9:fW H9 TN:=by
         have t7:fW H7 TN:=t6.same e7;have t8:fW H8 TN:=t7.kept k8 fun x hx=>by rw[List.mem_singleton.mp hx,fa7];trivial
         exact t8.kept k9 fun x hx=>by rw[List.mem_singleton.mp hx,x8];trivial
       have kall:bD ex H H9:=fun a o h n=>by
         have nT:a≠TN:=fun z=>n (z▸hTN);have nf:a≠fa:=fun z=>n (z▸FA.fa);exact k9 _ _ (k8 _ _ (e7 _ _ (k6 _ _ (s5 _ _ h) (by simpa using nT))) (by simpa using nf)) (by simpa using nf)
       have dout:d∉ex:=fun z=>al5 d z (k6.freeN t6 hd');have pout:q.p∉ex:=fun z=>al5 _ z d2;have FA9:dY CF H9 fa ex m g (flR R):=by
         refine⟨⟨dx,rd,d,q.p,_,R,kt',p',x9,f9,⟨up59 (s5 _ _ b1.dic) (fun ps z=>nomatch z) (fun C dx fs z=>nomatch z),fun x hx=>up59 (s5 _ _ (b1.row x hx)) (fun ps z=>nomatch z) (fun C dx fs z=>nomatch z),b1.nd⟩,rfl,rs1,up9 a7 (fun C dx fs z=>nomatch z),TK,up9 (e7 _ _ BB.pr) (fun C dx fs z=>nomatch z),m1,m2,dout,pout⟩,FA.fa,fun x hx z=>?_,FA.wide⟩;exact al5 x hx (hfr9 x z)
       refine⟨_,rfl,_,rfl,b,m,(flR R).map (·.2),H5,rfl,dn9,hfr9,FA.wide,hm,by rw[lenT];omega,fun tp H10 ans s10=>?_⟩;have na10:H10 na=some (.lst ((yS (flR R)).map V.int)):=by
         have:=s10 _ _ (up9 (e7 _ _ na6) (fun C dx fs z=>nomatch z));rw[yR] at this;exact this
       refine⟨na,tp,m,flR R,H5,ex,rfl,na10,ans,hF,hm,fun x h=>hfr9 x (s10.free h),al5,fun t2 H11 da s11=>?_⟩;have s911:=s10.trans s11;exact k t2 H11 (FA9.same s911) da (kall.trans s911.kept) (t9.same s911)
     . intro i ys H4 x N hx sm4 hN;have hi:i<R.length:=by
         have:=(List.getElem?_eq_some_iff.mp hx).1;rw[List.length_map] at this;omega
       have hx':x=.int ((dR R).getD i 0):=by
         rw[List.getElem?_map,List.getElem?_eq_getElem (by omega)] at hx;rw[List.getD,List.getElem?_eq_getElem (by omega)];exact(Option.some.inj hx).symm
       subst hx';have s4:=s3.trans sm4;refine⟨_,rfl,fa,CF,dx,fs,_,rfl,s4 _ _ h1,T0.cl,T0.tasks,f1.tasks,td,rfl,.inl ⟨_,.inl (s4 _ _ ht)⟩,_,rfl,_,pZ.k (k:=Sum.inl ((dR R).getD i 0)) (s4 _ _ ht),?_⟩;rw[tk1];exact hN H4 sm4
   . intro i ys H2 x N hx sm2 hN;have hi:i<R.length:=by
       have:=(List.getElem?_eq_some_iff.mp hx).1;rw[List.length_map] at this;omega
     have hR:R[i]?=some R[i]:=List.getElem?_eq_getElem hi;have hx':x=.int (R[i].1:Int):=by
       unfold dR at hx;rw[List.getElem?_map,List.getElem?_map,hR] at hx;exact(Option.some.inj hx).symm
     subst hx';have s2:=s1.trans sm2;refine⟨_,rfl,fa,CF,dx,fs,_,rfl,s2 _ _ h1,T0.cl,T0.rows,f1.rows,_,rfl,rd,V.ref R[i].2.1,rfl,?_,?_⟩
     . have:=pZ.k (k:=Sum.inl (R[i].1:Int)) (s2 _ _ b1.dic);rw[aAk,zS rs1 hR] at this;exact this
     . have:=hN H2 sm2;rw[hR] at this;exact this
end
section
variable{P:Program}{w:World}{K:W.Frag}{mg:Str->Option Value}{base:Heap}{CF CT CH CK CB TN:Addr}
def aCq(CF TN:Addr)(H:Hp)(fa:Addr)(ex:List Addr)(m g:Nat)(F:FL)(d:fM)(Q:VK):Prop:=∀(u:V)(ex':List Addr)(H':Hp),kY (off ex' H') m F g d u->dY CF H' fa ex' m (cW m F g d).2.1 (cW m F g d).1->bD ex H H'->(∀x∈ex',x∈ex\/H x=none)->TN∈ex'->fW H' TN->Q u H'
def xN(CF CT CH CK TN:Addr):Sp:=fun vs H Q E=>∃(fa p:Addr)(ex:List Addr)(m g:Nat)(F:FL)(d:fM),vs=[.ref fa,.ref p]/\dY CF H fa ex m g F/\dQ H p d/\F.length <= 41/\m <= 40/\fW H TN/\TN∈ex/\aCq CF TN H fa ex m g F d Q /\ ((cW m F g d).2.2=some (.str "no table")->∀H',Same H H'->E (.ref CT) none H')/\((cW m F g d).2.2=some (.str "no hand")->∀H',Same H H'->E (.ref CH) none H')/\((cW m F g d).2.2=some (.str "no task")->∀H',Same H H'->E (.ref CK) none H')
theorem aDn(T0:CFr K CF)(Gc:aAe P w K mg base 2 CF "come" ["self","row"] (xP K CF CT))(Gl:aAe P w K mg base 2 CF "leave" ["self","hand"] (uF CF CH))(Gk:aAe P w K mg base 2 CF "set_cost" ["self","hand","task","cost"] (lI CF CH CK))(Gd:aEh P w K mg base 6 CF "deal" ["self"] (xO CF TN))(D:cE K mg "done" xW ["fair","deed"]):aAf P w K mg base 7 "done" ["fair","deed"] (xN CF CT CH CK TN):=by
 refine D.hasE aD4 (fun vs H Q E h=>?_) fun f cdv A outer s H vs Q E hr h=>?_
 . obtain⟨fa,p,ex,m,g,F,d,rfl,_⟩:=h;rfl
 . obtain⟨fa,p,ex,m,g,F,d,rfl,FA,hd,hF,hm,hTab,hTN,ok,xT,xH,xK⟩:=h;refine⟨_,aC (bC (aP fL (aR aZ (pv 1) aJ (fun _ _=>rfl)) bG (aU _)) (aG (aS (sN (E:=E) Gc (hr.mono (by decide)) (fun pins σ H s e s' I h=>gI pins σ H s e s' I h) (pv 0) (aA (aR aZ (pv 1) aJ (fun _ _=>rfl)) aF)))) aT) (aC (bC (aP fL (aR aZ (pv 1) aJ (fun _ _=>rfl)) bG (aU _)) (aC (bE (sN (E:=E) Gl (hr.mono (by decide)) (fun pins σ H s e s' I h=>gI pins σ H s e s' I h) (pv 0) (aA (aR aZ (pv 1) aJ (fun _ _=>rfl)) aF))) (aG (aS bG))) aT) (aC (bC (aP fL (aR aZ (pv 1) aJ (fun _ _=>rfl)) bG (aU _)) (aC (bE (sN (E:=E) Gk (hr.mono (by decide)) (fun pins σ H s e s' I h=>gI pins σ H s e s' I h) (pv 0) (aA (aR aZ (pv 1) aJ (fun _ _=>rfl)) (aA (aR aZ (pv 1) aJ (fun _ _=>rfl)) (aA (aR aZ (pv 1) aJ (fun _ _=>rfl)) aF))))) (aG (aS bG))) aT) (aG (aS (aDd Gd hr (pv 0)))))),?_⟩;obtain⟨dx,rd,td,pa,fs,R,kt,p0,h1,f1,_⟩:=id FA.ob;cases d with
   |come r=>
     obtain⟨a,hp,ha⟩:=hd;refine⟨_,rfl,p,_,0,.str "come", rfl,rfl,SqT.of hp,rfl,rfl,_,rfl,iH ?_⟩;refine⟨_,rfl,fa,dx,fs,rfl,h1,f1.come,_,rfl,p,_,1,.ref a,rfl,rfl,SqT.of hp,rfl,fa,a,ex,m,g,F,r,rfl,FA,ha,by omega,fun hl b H' hb FA' k' t'=>?_,fun hl H' s'=>xT (by rw[kJ hl]) H' s'⟩;refine ok _ (b::ex) H' ?_ (by rw[jC hl];exact FA') k' (fun x hx=>?_) (List.mem_cons_of_mem _ hTN) (t' TN hTab)
     . unfold kY;rw[jC hl]
     . rcases List.mem_cons.mp hx with z|z
       . exact .inr (z▸hb)
       . exact .inl z
   |leave h=>
     have hp:H p=some (.tup [.str "leave", .int h]):=hd;refine⟨_,rfl,p,_,0,.str "leave", rfl,rfl,SqT.of hp,rfl,rfl,_,rfl,cI ?_⟩;refine⟨_,rfl,p,_,0,.str "leave", rfl,rfl,SqT.of hp,rfl,rfl,_,rfl,iH ?_⟩;refine⟨_,rfl,fa,dx,fs,rfl,h1,f1.leave,_,rfl,p,_,1,.int h,rfl,rfl,SqT.of hp,rfl,fa,ex,m,g,F,h,rfl,FA,fun hh H' FA' k' t'=>?_,fun hh=>xH (by rw[kG hh]) H (Same.refl H)⟩;exact ok _ ex H' (by unfold kY;rw[jA hh]) (by rw[jA hh];exact FA') k' (fun x hx=>.inl hx) hTN (t' TN hTab)
   |cost h t c=>
     have hp:H p=some (.tup [.str "cost", .int h,.int t,aV c]):=hd;refine⟨_,rfl,p,_,0,.str "cost", rfl,rfl,SqT.of hp,rfl,rfl,_,rfl,cI ?_⟩;refine⟨_,rfl,p,_,0,.str "cost", rfl,rfl,SqT.of hp,rfl,rfl,_,rfl,cI ?_⟩;refine⟨_,rfl,p,_,0,.str "cost", rfl,rfl,SqT.of hp,rfl,rfl,_,rfl,iH ?_⟩;refine⟨_,rfl,fa,dx,fs,rfl,h1,f1.cost,_,rfl,p,_,1,.int h,rfl,rfl,SqT.of hp,rfl,_,rfl,p,_,2,.int t,rfl,rfl,SqT.of hp,rfl,_,rfl,p,_,3,aV c,rfl,rfl,SqT.of hp,rfl,fa,ex,m,g,F,h,t,c,rfl,FA,fun hh t0 t1 H' FA' k' t'=>?_,fun hh=>xH (by rw[kI hh]) H (Same.refl H),fun hh ht=>xK (by rw[kH hh ht]) H (Same.refl H)⟩;exact ok _ ex H' (by unfold kY;rw[jB hh ⟨t0,t1⟩]) (by rw[jB hh ⟨t0,t1⟩];exact FA') k' (fun x hx=>.inl hx) hTN (t' TN hTab)
   |deal=>
     have hp:H p=some (.tup [.str "deal"]):=hd;refine⟨_,rfl,p,_,0,.str "deal", rfl,rfl,SqT.of hp,rfl,rfl,_,rfl,cI ?_⟩;refine⟨_,rfl,p,_,0,.str "deal", rfl,rfl,SqT.of hp,rfl,rfl,_,rfl,cI ?_⟩;refine⟨_,rfl,p,_,0,.str "deal", rfl,rfl,SqT.of hp,rfl,rfl,_,rfl,cI ?_⟩;refine⟨_,rfl,fa,dx,fs,rfl,h1,f1.deal,fa,ex,m,g,F,rfl,FA,hF,hm,hTab,hTN,fun tp H' FA' da k' t'=>?_⟩;exact ok _ ex H' ⟨tp,rfl,da⟩ FA' k' (fun x hx=>.inl hx) hTN t'
structure XR (K:W.Frag) (mg:Str->Option Value) (CT CH CK:Addr):Prop where
 t:ExC K mg "NoTable" CT
 h:ExC K mg "NoHand" CH
 k:ExC K mg "NoTask" CK
 tt:W.exmOne K (.ref CT) (.ref CT)=some true
 ht:W.exmOne K (.ref CH) (.ref CT)=some false
 hh:W.exmOne K (.ref CH) (.ref CH)=some true
 kt:W.exmOne K (.ref CK) (.ref CT)=some false
 kh:W.exmOne K (.ref CK) (.ref CH)=some false
 kk:W.exmOne K (.ref CK) (.ref CK)=some true
def lM(CF TN:Addr):Sp:=fun vs H Q _=>∃(fa p:Addr)(ex:List Addr)(m g:Nat)(F:FL)(d:fM),vs=[.ref fa,.ref p]/\dY CF H fa ex m g F/\dQ H p d/\F.length <= 41/\m <= 40/\fW H TN/\TN∈ex/\aCq CF TN H fa ex m g F d Q
theorem aAt{m g:Nat}{F:FL}{d:fM}{x:Str}(h:(cW m F g d).2.2=some (.str x))(hx:x≠"done"):(cW m F g d).1=F/\(cW m F g d).2.1=g:=by
 have nd:∀{y:Str},some (V.str "done")=some (V.str y)->y≠"done"->False:=fun z n=>n (V.str.inj (Option.some.inj z)).symm;cases d with
 |come r=>
   by_cases e:r.length=m
   . rw[jC e] at h;cases h
   . rw[kJ e];exact⟨rfl,rfl⟩
 |leave a=>
   cases e:kC F a with
   |true=>rw[jA e] at h;exact(nd h hx).elim
   |false=>rw[kG e];exact⟨rfl,rfl⟩
 |cost a t c=>
   cases e:kC F a with
   |true=>
     by_cases e2:0 <= t/\t<m
     . rw[jB e e2] at h;exact(nd h hx).elim
     . rw[kH e e2];exact⟨rfl,rfl⟩
   |false=>rw[kI e];exact⟨rfl,rfl⟩
 |deal=>exact⟨rfl,rfl⟩
theorem sV(Y:XR K mg CT CH CK)(Gd:aAf P w K mg base 7 "done" ["fair","deed"] (xN CF CT CH CK TN))(D:cE K mg "answered" jY ["fair","deed"]):Has P w K mg base 8 "answered" ["fair","deed"] (lM CF TN):=by
 refine D.has sH (fun vs H Q E h=>?_) fun f cdv A outer s H vs Q E hr h=>?_
 . obtain⟨fa,p,ex,m,g,F,d,rfl,_⟩:=h;rfl
 . obtain⟨fa,p,ex,m,g,F,d,rfl,FA,hd,hF,hm,hTab,hTN,ok⟩:=h;refine⟨_,aG (aD8 rfl rfl (fun pins E=>aG (aS (qO (E:=E) Gd hr (by rfl) aGl (aA (pv 0) (aA (pv 1) aF))))) (.cons Y.t.gl (by rfl) (by decide) (fun a pn xe=>aG (aS bG)) (.cons Y.h.gl (by rfl) (by decide) (fun a pn xe=>aG (aS bG)) (.cons Y.k.gl (by rfl) (by decide) (fun a pn xe=>aG (aS bG)) .nil)))),?_⟩;have refuse:∀{x:Str},(cW m F g d).2.2=some (.str x)->x≠"done"->∀H',Same H H'->Q (.str x) H':=fun {x} e hx H' s'=>by
     obtain⟨e1,e2⟩:=aAt e hx;refine ok (.str x) ex H' ?_ (by rw[e1,e2];exact FA.same s') s'.kept (fun y hy=>.inl hy) hTN (hTab.same s');unfold kY;rw[e]
   refine⟨_,rfl,_,rfl,fa,p,ex,m,g,F,d,rfl,FA,hd,hF,hm,hTab,hTN,ok,fun e H' s'=>?_,fun e H' s'=>?_,fun e H' s'=>?_⟩
   . exact⟨CT,rfl,.inl ⟨Y.tt,refuse e (by decide) H' s'⟩⟩
   . exact⟨CH,rfl,.inr ⟨Y.ht,.inl ⟨Y.hh,refuse e (by decide) H' s'⟩⟩⟩
   . exact⟨CK,rfl,.inr ⟨Y.kt,.inr ⟨Y.kh,.inl ⟨Y.kk,refuse e (by decide) H' s'⟩⟩⟩⟩
end
section
variable{P:Program}{w:World}{K:W.Frag}{mg:Str->Option Value}{base:Heap}{CF CT CH CK CB TN:Addr}
structure dU (H:Hp) (dl:Addr) (ps:List Addr) (ds:List fM):Prop where
 ls:H dl=some (.lst (ps.map V.ref))
 len:ps.length=ds.length
 deed:∀(i:Nat)p d,ps[i]?=some p->ds[i]?=some d->dQ H p d
theorem dQ.same{H H':Hp}{p:Addr}{d:fM}(h:dQ H p d)(e:∀a o,H a=some o->(∀ps,o≠.tbl ps)->H' a=some o):dQ H' p d:=by
 cases d with
 |come r=>
   obtain⟨a,h1,h2⟩:=h;exact⟨a,e _ _ h1 (fun ps z=>nomatch z),e _ _ h2 (fun ps z=>nomatch z)⟩
 |leave x=>exact e _ _ h (fun ps z=>nomatch z)
 |cost x t c=>exact e _ _ h (fun ps z=>nomatch z)
 |deal=>exact e _ _ h (fun ps z=>nomatch z)
theorem dU.same{H H':Hp}{dl:Addr}{ps:List Addr}{ds:List fM}(h:dU H dl ps ds)(e:∀a o,H a=some o->(∀ps,o≠.tbl ps)->H' a=some o):dU H' dl ps ds:=⟨e _ _ h.ls (fun ps z=>nomatch z),h.len,fun i p d e1 e2=>(h.deed i p d e1 e2).same e⟩
theorem aDw{H H':Hp}(t:fW H TN)(k:bD [TN] H H'):∀a o,H a=some o->(∀ps,o≠.tbl ps)->H' a=some o:=fun a o h n=>k _ _ h (by
 intro z;obtain⟨ps,q,_⟩:=t;rw[<- List.mem_singleton.mp z,h] at q;exact n ps (Option.some.inj q))
def aCt(H:Hp)(m:Nat)(ds:List fM)(us:List V):Prop:=∀(i:Nat)d u,ds[i]?=some d->us[i]?=some u->kY H m (gG m (ds.take i)).1 (gG m (ds.take i)).2 d u
def nD(TN:Addr):Sp:=fun vs H Q _=>∃(m:Nat)(dl:Addr)(ps:List Addr)(ds:List fM),vs=[.int (m:Int),.ref dl]/\dU H dl ps ds/\ds.length <= 41/\m <= 40/\fW H TN /\ ∀(lf:Addr)(us:List V)(H':Hp),H' lf=some (.lst us)->us.length=ds.length->aCt H' m ds us->bD [TN] H H'->fW H' TN->Q (.ref lf) H'
theorem wA(T0:CFr K CF)(Gf:aFt P w K mg base 1 "Fair" CF ["self","many"] (uI CF))(Ga:Has P w K mg base 8 "answered" ["fair","deed"] (lM CF TN))(D:cE K mg "answers" jL ["many","deeds"]):Has P w K mg base 9 "answers" ["many","deeds"] (nD TN):=by
 refine D.has nF (fun vs H Q E h=>?_) fun f cdv A outer s H vs Q E hr h=>?_
 . obtain⟨m,dl,ps,ds,rfl,_⟩:=h;rfl
 . obtain⟨m,dl,ps,ds,rfl,DA,hds,hm,hTab,k⟩:=h;refine⟨_,aC (aX (i:=2) nF.nd rfl (Or.inr rfl) (yJ Gf (hr.mono (by decide)) (by rfl) (aA (pv 0) aF))) (aG (aS (gH (sc:=aI jL) (XN:=["many","deeds","fair"]) (own:=["deed"]) (fr:=["fair"]) (js:=[2]) rfl rfl rfl (⟨rfl,by decide +kernel,by decide +kernel,by decide +kernel,rfl,by decide +kernel⟩) (cC (pv 1)) (fun _ _ _ _ _=>(bB (i:=0) (show List.Nodup (["deed","fair"]:List Str) by decide +kernel) rfl (Or.inl rfl))) (fun _ _ _ _ _=>fJ) (fun _ _ _ _ _=>(bX Ga hr (by rfl) (aA (pv 1) (aA (pv 0) aF))))))),?_⟩;refine⟨_,rfl,fun fa dx hfa hdx hne=>?_⟩;have s0:Same H (upd (upd H dx (.own fa)) fa (.ins CF dx [])):=fun c o ec=>by
     rw[aE (aH ec hfa),aE (aH ec hdx)];exact ec
   refine⟨fa,dx,m,rfl,aB,by omega,fun rd td pa fs H1 x1 f1 r1 t1 p1 nr nt np ne k1=>⟨rfl,?_⟩⟩;have sm1:Same H H1:=fun c o ec=>k1 c o (s0 c o ec) (by simpa using aH ec hfa);have rH:=s0.free nr;have tH:=s0.free nt;have pH:=s0.free np;have nTN:∀{x:Addr},H x=none->x≠TN:=fun h z=>by
     obtain⟨ps,q,_⟩:=hTab;rw[z,q] at h;cases h
   have tab1:fW H1 TN:=hTab.same sm1;have FA1:dY CF H1 fa [TN,fa,rd] m 0 []:=by
     refine⟨⟨dx,rd,td,pa,fs,[],[],fun _=>0,x1,f1,⟨r1,fun x hx=>(nomatch hx),List.nodup_nil⟩,rfl,⟨List.Pairwise.nil,fun x hx=>(nomatch hx)⟩,t1,⟨fun _=>none,fun _=>rfl,fun h h' t e=>(nomatch e)⟩,p1,by simp,fun x hx=>(nomatch hx),?_,?_⟩,by simp,fun x hx=>?_,fun i r e=>(nomatch e)⟩
     . simp only[List.mem_cons,List.not_mem_nil,or_false,not_or];exact⟨nTN tH,bS t1 x1 (by intro z;cases z),ne.symm⟩
     . simp only[List.mem_cons,List.not_mem_nil,or_false,not_or];exact⟨nTN pH,bS p1 x1 (by intro z;cases z),bS p1 r1 (by intro z;cases z)⟩
     . simp only[List.mem_cons,List.not_mem_nil,or_false] at hx;rcases hx with rfl|rfl|rfl
       . obtain⟨ps,q,_⟩:=tab1;rw[q];exact fun z=>nomatch z
       . rw[x1];exact fun z=>nomatch z
       . rw[r1];exact fun z=>nomatch z
   have at1:∀a o,H a=some o->(∀ps,o≠.tbl ps)->H1 a=some o:=fun a o h _=>sm1 a o h;refine⟨_,rfl,dl,rfl,⟨_,SqL.of (DA.same at1).ls⟩,?_⟩;refine fB (K:=K) (xs:=ps.map V.ref) (fun i us H2=>i <= ds.length/\us.length=i/\bD [TN] H H2/\fW H2 TN/\∃ex,(∀x∈ex,x=TN\/H x=none)/\TN∈ex/\dY CF H2 fa ex m (gG m (ds.take i)).2 (gG m (ds.take i)).1 /\ ∀(j:Nat)d u,ds[j]?=some d->us[j]?=some u->kY (off ex H2) m (gG m (ds.take j)).1 (gG m (ds.take j)).2 d u) ⟨Nat.zero_le _,rfl,sm1.kept,tab1,_,fun x hx=>?_,by simp,FA1,fun j d u _ e=>by simp at e⟩ (by rw[List.length_map,DA.len];omega) (fun i us H2 p=>Nat.le_of_eq p.2.1) (fun i us H2 p=>SqL.of (DA.same (aDw hTab p.2.2.1)).ls) ?_ ?_
   . simp only[List.mem_cons,List.not_mem_nil,or_false] at hx;rcases hx with rfl|rfl|rfl
     . exact .inl rfl
     . exact .inr hfa
     . exact .inr rH
   . rintro us H2 ⟨_,hl,k2,t2,ex,hex,hTN,FA2,ans⟩ lf hlf;rw[List.length_map,DA.len] at hl;have sm:=(Same.refl H2).upd hlf (o:=HO.lst us);exact k lf us _ aB hl (fun i d u e1 e2=>((ans i d u e1 e2).same mE).same sm) (k2.trans sm.kept) (t2.same sm)
   . rintro i us H2 x hx ⟨hi,hl,k2,t2,ex,hex,hTN,FA2,ans⟩;rw[List.getElem?_map] at hx;cases hp:ps[i]? with
     |none=>rw[hp] at hx;cases hx
     |some p=>
       rw[hp] at hx;cases hx;have hi':i<ds.length:=by have:=(List.getElem?_eq_some_iff.mp hp).1;rw[DA.len] at this;exact this
       have hd:ds[i]?=some ds[i]:=List.getElem?_eq_getElem hi';have hD:=(DA.same (aDw hTab k2)).deed i p _ hp hd;refine⟨_,rfl,_,rfl,fa,p,ex,m,_,_,ds[i],rfl,FA2,hD,Nat.le_trans (sK m ds i hi) (by omega),hm,t2,hTN,fun u ex' H3 an FA3 k3 hx' hTN' t3=>?_⟩;have hex':∀x∈ex',x=TN\/H x=none:=fun x hx=>by
         rcases hx' x hx with z|z
         . exact hex x z
         . by_cases y:x=TN
           . exact .inl y
           . refine .inr ?_;cases q:H x with
             |none=>rfl
             |some o=>rw[k2 x o q (by simpa using y)] at z;cases z
       refine⟨hi',by rw[List.length_append,hl];rfl,fun a o h n=>k3 a o (k2 a o h n) fun z=>?_,t3,ex',hex',hTN',by rw[oK m ds hd];exact FA3,fun j d v e1 e2=>?_⟩
       . rcases hex a z with y|y
         . exact n (by rw[y];exact List.mem_singleton.mpr rfl)
         . rw[h] at y;cases y
       . by_cases hj:j<us.length
         . rw[List.getElem?_append_left hj] at e2;exact(ans j d v e1 e2).same (gJ k3 hx')
         . rw[List.getElem?_append_right (by omega)] at e2;have h0:j - us.length=0:=by
             have:=(List.getElem?_eq_some_iff.mp e2).1;simp at this;omega
           rw[h0] at e2;cases e2;have hj':j=i:=by omega
           subst hj';rw[hd] at e1;cases e1;exact an
end
section
variable{P:Program}{w:World}{K:W.Frag}{mg:Str->Option Value}{base:Heap}
def iJ(K:W.Frag):Sp:=fun vs H Q _=>∃(m:Int)(a c d:Addr)(T:gL)(ts ps:List Int),vs=[.int m,.ref a,.ref c,.ref d]/\mX K H a T/\jS K H c ts/\jS K H d ps/\rW m T/\T.length <= 1000/\0 <= m/\m <= 1000 /\ ∀(b:Bool)H',(b=true↔aAd m T ts ps)->Same H H'->Q (.bl b) H'
theorem mV(B:Blt mg)(G1:Has P w K mg base 1 "_law_one_to_one" ["_law_many","_law_rows","_law_tasks"] (jF K))(D:cE K mg "_law_least_shown" gB ["_law_many","_law_rows","_law_tasks","_law_prices"]): Has P w K mg base 2 "_law_least_shown" ["_law_many","_law_rows","_law_tasks","_law_prices"] (iJ K):=by
 refine D.has dB (fun vs H Q E h=>?_) fun f cdv A outer s H vs Q E hr h=>?_
 . obtain⟨m,a,c,d,T,ts,ps,rfl,_⟩:=h;rfl
 . obtain⟨m,a,c,d,T,ts,ps,rfl,hA,hc,hd,hw,hT,hm0,hm1,k⟩:=h;refine⟨_,aC (bC ((dW (cA (bP (bX G1 (hr.mono (by decide)) (by rfl) (aA (pv 0) (aA (pv 1) (aA (pv 2) aF)))))) (dI (aP gZ (aM aO (by rfl) B.len boot_len (aA (pv 3) aF)) (pv 0) (aU _))))).pt (aG (aS cP)) aT) (aC (dM PassesOwn.never rfl (dE (by rfl) B.range (aA (pv 0) aF)) (bB (i:=4) dB.nd rfl (Or.inl rfl)) (aG (bC ((dW (aP mT (aR aQ (pv 3) (pv 4) (fun _ _=>rfl)) aJ (aU _)) (dI ((nG (aP yL (aR aQ (pv 3) (pv 4) (fun _ _=>rfl)) aJ (aU _)) (lW (aP gY (pv 4) (pv 2) (by with_unfolding_all rfl))))).pt))).pt (aG (aS cP)) aT))) (aC (dM PassesOwn.never rfl (dE (by rfl) B.range (aA (aM aO (by rfl) B.len boot_len (aA (pv 1) aF)) aF)) (bB (i:=5) dB.nd rfl (Or.inl rfl)) (aC (aX (i:=6) dB.nd rfl (Or.inl rfl) (bF eN (aR aQ (aR aQ (pv 1) (pv 5) (fun _ _=>rfl)) (aR aQ (pv 2) (pv 5) (fun _ _=>rfl)) (fun _ _=>rfl)) (aR aQ (pv 3) (aR aQ (pv 2) (pv 5) (fun _ _=>rfl)) (fun _ _=>rfl)))) (aG (dM PassesOwn.never rfl (dE (by rfl) B.range (aA (pv 0) aF)) (bB (i:=4) dB.nd rfl (Or.inl rfl)) (aG (bC (aP eA (aR aQ (aR aQ (pv 1) (pv 5) (fun _ _=>rfl)) (pv 4) (fun _ _=>rfl)) bW (aU _)) (aG (bC (aP mT (bF eN (aR aQ (aR aQ (pv 1) (pv 5) (fun _ _=>rfl)) (pv 4) (fun _ _=>rfl)) (aR aQ (pv 3) (pv 4) (fun _ _=>rfl))) (pv 6) (aU _)) (aG (aS cP)) aT)) aT)))))) (aG (aS cP)))),?_⟩;refine⟨_,rfl,_,rfl,_,rfl,m,a,c,T,ts,rfl,hA,hc,hw,hT,hm0,hm1,fun b1 H1 e1 s1=>⟨b1,rfl,?_⟩⟩;refine eE (fun h1=>?_) (fun h1=>?_)
   . refine iH (k false H1 (rC fun z=>?_) s1);have:=e1.mpr z.1;rw[eG h1] at this;cases this
   have hD:aH2 T ts:=e1.mp (fV h1);obtain⟨as,ha,hl,hrow⟩:=s1.tab hA;have hc1:=s1.seq hc;have hd1:=s1.seq hd;refine⟨_,rfl,d,_,rfl,.inl hd1,_,rfl,rfl,_,rfl,?_⟩;refine eE (fun h2=>?_) (fun h2=>?_)
   . refine k false H1 (rC fun z=>?_) s1;have h3:=neI h2;rw[List.length_map] at h3;exact h3 z.2.1.1
   have hpl:(ps.length:Int)=m:=by
     have h3:=eqI h2;rwa [List.length_map] at h3
   refine⟨_,rfl,m,rfl,by omega,by omega,?_⟩;refine dF (fun i σ H2=>∃v4 v5 v6,σ=[some (.int m),some (.ref a),some (.ref c),some (.ref d),v4,v5,v6]/\H2=H1/\∀(j:Nat)p,j<i->ps[j]?=some p->0 <= p/\(p=0\/(j:Int)∈ts)) ⟨none,none,none,rfl,rfl,fun j p hj=>absurd hj (Nat.not_lt_zero j)⟩ ?_ ?_
   . rintro i σ H2 hi ⟨v4,v5,v6,rfl,rfl,hok⟩;have hpi:ps[i]?=some (ps[i]'(by omega)):=List.getElem?_eq_getElem _;generalize ps[i]'(by omega)=p at hpi;have hat:atI (ps.map V.int) (0+(i:Int))=some (.int p):=by rw[Int.zero_add];exact dA (by rw[List.getElem?_map,hpi];rfl)
     refine⟨_,rfl,_,rfl,d,_,_,.int p,rfl,rfl,hd1,hat,_,_,rfl,rfl,_,rfl,?_⟩;refine eE (fun h3=>?_) (fun h3=>?_)
     . refine k false H2 (rC fun z=>?_) s1;have q1:p<0:=of_decide_eq_true h3;have:=z.2.1.2 p (List.mem_of_getElem? hpi);omega
     . have q1:¬ p<0:=fun z=>h3 (decide_eq_true z);refine⟨_,rfl,_,rfl,d,_,_,.int p,rfl,rfl,hd1,hat,_,_,rfl,rfl,_,rfl,?_⟩;refine eE (fun h4=>?_) (fun h4=>?_)
       . have q2:0<p:=of_decide_eq_true h4;refine⟨_,rfl,_,rfl,c,_,rfl,.inl hc1,rfl,rA ts,_,rfl,?_⟩;rw[Int.zero_add,sZ];refine eE (fun h5=>?_) (fun h5=>?_)
         . refine k false H2 (rC fun z=>?_) s1;have:=eG h5;rcases z.2.2.2 i p hpi with e|e
           . omega
           . rw[decide_eq_true e] at this;cases this
         . refine⟨_,_,_,rfl,rfl,fun j q hj e=>?_⟩;by_cases hji:j=i
           . subst hji;rw[hpi] at e;cases e;exact⟨by omega,.inr (of_decide_eq_true (fV h5))⟩
           . exact hok j q (by omega) e
       . have q2:¬ 0<p:=fun z=>h4 (decide_eq_true z);refine⟨_,_,_,rfl,rfl,fun j q hj e=>?_⟩;by_cases hji:j=i
         . subst hji;rw[hpi] at e;cases e;exact⟨by omega,.inl (by omega)⟩
         . exact hok j q (by omega) e
   . rintro σ H2 ⟨v4,v5,v6,rfl,rfl,hok⟩;have hP:aCo m ps:=⟨hpl,fun p hp=>by
       obtain⟨j,hj,e⟩:=List.mem_iff_getElem.mp hp;exact(hok j p (by omega) (by rw[<- e];exact List.getElem?_eq_getElem hj)).1⟩
     have hLf:vJ ts ps:=fun j p e=>by
       have:=(List.getElem?_eq_some_iff.mp e).1;exact(hok j p (by omega) e).2
     refine⟨_,rfl,a,_,rfl,.inl ha,_,rfl,by omega,by rw[List.length_map];omega,?_⟩;refine dF (fun i σ H3=>∃v4 v5 v6,σ=[some (.int m),some (.ref a),some (.ref c),some (.ref d),v4,v5,v6]/\H3=H2/\∀(h:Nat)r t c1 p,h<i->T[h]?=some r->ts[h]?=some t->r[t.toNat]?=some (some c1)->ps[t.toNat]?=some p -> ∀(j:Nat)c' p',r[j]?=some (some c')->ps[j]?=some p'->c1+p <= c'+p') ⟨_,_,_,rfl,rfl,fun h r t c1 p hh=>absurd hh (Nat.not_lt_zero h)⟩ ?_ ?_
     . rintro i σ H3 hi ⟨v4',v5',v6',rfl,rfl,hcon⟩;have hiT:i<T.length:=by simpa [hl] using hi
       have hts:ts[i]?=some (ts[i]'(by have:=hD.1;omega)):=List.getElem?_eq_getElem _;generalize ts[i]'(by have:=hD.1;omega)=t at hts;have hT':T[i]?=some T[i]:=List.getElem?_eq_getElem hiT;generalize T[i]=r at hT';have has:as[i]?=some (as[i]'(by omega)):=List.getElem?_eq_getElem _;generalize as[i]'(by omega)=b at has;have hwr:=hw i r hT';obtain⟨h0,c1,hc1r⟩:=hD.2.2 i r t hT' hts;have hlt:=(List.getElem?_eq_some_iff.mp hc1r).1;have hp1:ps[t.toNat]?=some (ps[t.toNat]'(by omega)):=List.getElem?_eq_getElem _;generalize ps[t.toNat]'(by omega)=p1 at hp1;have hR:=hrow i b r has hT';have atb:atI (as.map V.ref) (0+(i:Int))=some (.ref b):=by rw[Int.zero_add];exact dA (by rw[List.getElem?_map,has];rfl)
       have att:atI (ts.map V.int) (0+(i:Int))=some (.int t):=by rw[Int.zero_add];exact dA (by rw[List.getElem?_map,hts];rfl)
       refine⟨_,rfl,_,rfl,a,_,_,.ref b,rfl,rfl,ha,atb,_,rfl,_,rfl,c,_,_,.int t,rfl,rfl,hc1,att,b,_,t,.int c1,rfl,rfl,hR,eB h0 (by rw[List.getElem?_map,hc1r];rfl),?_⟩;refine⟨_,rfl,_,rfl,_,rfl,c,_,_,.int t,rfl,rfl,hc1,att,d,_,t,.int p1,rfl,rfl,hd1,eB h0 (by rw[List.getElem?_map,hp1];rfl),_,_,rfl,rfl,?_⟩;refine⟨_,rfl,m,rfl,by omega,by omega,?_⟩;refine dF (fun i2 σ H4=>∃w4,σ=[some (.int m),some (.ref a),some (.ref c),some (.ref d),w4,some (.int (0+(i:Int))),some (.int (c1+p1))]/\H4=H3/\∀(j:Nat)c' p',j<i2->r[j]?=some (some c')->ps[j]?=some p'->c1+p1 <= c'+p') ⟨_,rfl,rfl,fun j c' p' hj=>absurd hj (Nat.not_lt_zero j)⟩ ?_ ?_
       . rintro i2 σ H4 hi2 ⟨w4,rfl,rfl,hle⟩;have hpj:ps[i2]?=some (ps[i2]'(by omega)):=List.getElem?_eq_getElem _;generalize ps[i2]'(by omega)=pj at hpj;have hrj:r[i2]?=some (r[i2]'(by omega)):=List.getElem?_eq_getElem _;generalize r[i2]'(by omega)=cj at hrj;have atc:atI (r.map aV) (0+(i2:Int))=some (aV cj):=by rw[Int.zero_add];exact dA (by rw[List.getElem?_map,hrj];rfl)
         refine⟨_,rfl,_,rfl,a,_,_,.ref b,rfl,rfl,ha,atb,_,rfl,b,_,_,aV cj,rfl,rfl,hR,atc,rfl,_,rfl,?_⟩;cases cj with
         |none=>
           refine⟨_,rfl,rfl,fun j c' p' hj g1 g2=>?_⟩;by_cases hji:j=i2
           . subst hji;rw[hrj] at g1;cases g1
           . exact hle j c' p' (by omega) g1 g2
         |some c2=>
           refine⟨_,rfl,_,rfl,a,_,_,.ref b,rfl,rfl,ha,atb,_,rfl,b,_,_,aV (some c2),rfl,rfl,hR,atc,?_⟩;refine⟨_,rfl,_,rfl,d,_,_,.int pj,rfl,rfl,hd1,by rw[Int.zero_add];exact dA (by rw[List.getElem?_map,hpj];rfl),_,_,rfl,rfl,_,rfl,_,_,rfl,rfl,_,rfl,?_⟩;refine eE (fun h6=>?_) (fun h6=>?_)
           . refine k false H4 (rC fun z=>?_) s1;have q1:c2+pj<c1+p1:=of_decide_eq_true h6;have:=z.2.2.1 i r t c1 p1 hT' hts hc1r hp1 i2 c2 pj hrj hpj;omega
           . have q1:¬ c2+pj<c1+p1:=fun z=>h6 (decide_eq_true z);refine⟨_,rfl,rfl,fun j c' p' hj g1 g2=>?_⟩;by_cases hji:j=i2
             . subst hji;rw[hrj] at g1;rw[hpj] at g2;cases g1;cases g2;omega
             . exact hle j c' p' (by omega) g1 g2
       . rintro σ H4 ⟨w4,rfl,rfl,hle⟩;refine⟨_,_,_,rfl,rfl,fun h r2 t2 c2 p2 hh g1 g2 g3 g4 j c' p' g5 g6=>?_⟩;by_cases hhi:h=i
         . subst hhi;rw[hT'] at g1;rw[hts] at g2;cases g1;cases g2;rw[hc1r] at g3;rw[hp1] at g4;cases g3;cases g4;have:=(List.getElem?_eq_some_iff.mp g6).1;exact hle j c' p' (by omega) g5 g6
         . exact hcon h r2 t2 c2 p2 (by omega) g1 g2 g3 g4 j c' p' g5 g6
     . rintro σ H3 ⟨v4',v5',v6',rfl,rfl,hcon⟩;refine k true H3 (aGn ⟨hD,hP,fun h r t c1 p g1 g2=>?_,hLf⟩) s1;have:=(List.getElem?_eq_some_iff.mp g1).1;exact hcon h r t c1 p (by rw[List.length_map];omega) g1 g2
end
section
variable{P:Program}{w:World}{K:W.Frag}{mg:Str->Option Value}{base:Heap}
def uD(K:W.Frag):Sp:=fun vs H Q _=>∃(a:Addr)(n:Int)(ns:List Int),vs=[.ref a,.int n]/\jS K H a ns/\∀b:Bool,(b=true↔pX ns n)->Q (.bl b) H
theorem aDa{ns:List Int}{i:Nat}{x:Int}(h:ns[i]?=some x):aCa ns (i+1)=x:=by unfold aCa;simp[List.getD,h]
theorem yO(B:Blt mg)(D:cE K mg "_law_rising" oH ["_law_row","_law_most"]):Has P w K mg base 1 "_law_rising" ["_law_row","_law_most"] (uD K):=by
 refine D.has jK (fun vs H Q E h=>?_) fun f cdv A outer s H vs Q E hr h=>?_
 . obtain⟨a,n,ns,rfl,_⟩:=h;rfl
 . obtain⟨a,n,ns,rfl,ha,k⟩:=h;refine⟨_,aC (aX (i:=2) jK.nd rfl (Or.inl rfl) (vT nA aJ)) (aC (dM PassesOwn.never rfl (cC (pv 0)) (bB (i:=3) jK.nd rfl (Or.inl rfl)) (aC (bC ((dW (aP aDi (pv 3) (pv 2) (aU _)) (dI (aP aB4 (pv 3) (pv 1) (aU _))))).pt (aG (aS cP)) aT) (aG (aX (i:=2) jK.nd rfl (Or.inl rfl) (pv 3))))) (aG (aS cP))),?_⟩;refine⟨_,rfl,_,rfl,a,rfl,⟨_,ha⟩,?_⟩;refine fA (xs:=ns.map V.int) (fun i σ H2=>∃v3,σ=[some (.ref a),some (.int n),some (.int (aCa ns i)),v3]/\H2=H/\∀(j:Nat)x,j<i->ns[j]?=some x->aCa ns j<x/\x<n) ⟨none,rfl,rfl,fun j x hj=>absurd hj (Nat.not_lt_zero j)⟩ (fun i σ H2 _ q=>by obtain⟨_,_,rfl,_⟩:=q;exact ha) ?_ ?_
   . rintro i x σ H2 hx ⟨v3,rfl,rfl,hok⟩;obtain⟨y,hy,rfl⟩:=kE hx;refine⟨_,rfl,_,rfl,_,_,rfl,rfl,_,rfl,?_⟩;refine eE (fun h1=>?_) (fun h1=>?_)
     . refine k false (rC fun z=>?_);have h1':y <= aCa ns i:=of_decide_eq_true h1;have:=(z i y hy).1;omega
     . have h1':¬ y <= aCa ns i:=fun z=>h1 (decide_eq_true z);refine⟨_,rfl,_,rfl,_,_,rfl,rfl,_,rfl,?_⟩;refine eE (fun h2=>?_) (fun h2=>?_)
       . refine k false (rC fun z=>?_);have h2':n <= y:=of_decide_eq_true h2;have:=(z i y hy).2;omega
       . have h2':¬ n <= y:=fun z=>h2 (decide_eq_true z);refine⟨_,rfl,some (.int y),by rw[aDa hy];rfl,rfl,fun j x hj e=>?_⟩;by_cases z:j=i
         . subst z;rw[hy] at e;cases e;exact⟨by omega,by omega⟩
         . exact hok j x (by omega) e
   . rintro σ H2 ⟨v3,rfl,rfl,hok⟩;refine k true (aGn fun j x e=>hok j x ?_ e);have:=(List.getElem?_eq_some_iff.mp e).1;rw[List.length_map];exact this
end
def iI(K:W.Frag):Sp:=fun vs H Q _=>∃(m:Int)(a c d:Addr)(T:gL)(hs ts:List Int),vs=[.int m,.ref a,.ref c,.ref d]/\mX K H a T/\jS K H c hs/\jS K H d ts/\rW m T/\m <= 1000/\hs.length <= 1000 /\ ∀(b:Bool)H',(b=true↔pW m T hs ts)->Same H H'->Q (.bl b) H'
section
variable{P:Program}{w:World}{K:W.Frag}{mg:Str->Option Value}{base:Heap}
theorem mU(B:Blt mg)(G2:Has P w K mg base 1 "_law_rising" ["_law_row","_law_most"] (uD K))(D:cE K mg "_law_short_shown" gA ["_law_many","_law_rows","_law_hands","_law_tasks"]): Has P w K mg base 2 "_law_short_shown" ["_law_many","_law_rows","_law_hands","_law_tasks"] (iI K):=by
 refine D.has fD (fun vs H Q E h=>?_) fun f cdv A outer s H vs Q E hr h=>?_
 . obtain⟨m,a,c,d,T,hs,ts,rfl,_⟩:=h;rfl
 . obtain⟨m,a,c,d,T,hs,ts,rfl,hT,hc,hd,hw,hm,hz,k⟩:=h;obtain⟨as,ha,hl,hrow⟩:=id hT;have kk:∀b:Bool,(b=true↔pW m T hs ts)->Q (.bl b) H:=fun b e=>k b H e (Same.refl H);refine⟨_,aC (bC ((dW (cA (bP (bX G2 hr (by rfl) (aA (pv 2) (aA (aM aO (by rfl) B.len boot_len (aA (pv 1) aF)) aF))))) (dI (cA (bP (bX G2 hr (by rfl) (aA (pv 3) (aA (pv 0) aF)))))))).pt (aG (aS cP)) aT) (aC (dM PassesOwn.never rfl (cC (pv 2)) (bB (i:=4) fD.nd rfl (Or.inl rfl)) (aG (dM PassesOwn.never rfl (dE (by rfl) B.range (aA (pv 0) aF)) (bB (i:=5) fD.nd rfl (Or.inl rfl)) (aG (bC ((nG (aP eA (aR aQ (aR aQ (pv 1) (pv 4) (fun _ _=>rfl)) (pv 5) (fun _ _=>rfl)) bW (aU _)) (lW (aP gY (pv 5) (pv 3) (by with_unfolding_all rfl))))).pt (aG (aS cP)) aT))))) (aG (aS (gW mT (aM aO (by rfl) B.len boot_len (aA (pv 3) aF)) (aM aO (by rfl) B.len boot_len (aA (pv 2) aF)) (aU _))))),?_⟩;refine⟨_,rfl,_,rfl,a,_,rfl,.inl ha,c,_,hs,rfl,hc,fun b1 e1=>⟨b1,rfl,?_⟩⟩;rw[List.length_map,hl] at e1;refine eE (fun h1=>?_) (fun h1=>?_)
   . exact kk false (rC fun z=>by rw[eG h1] at e1;exact Bool.false_ne_true (e1.mpr z.1))
   have hR:=e1.mp (fV h1);refine⟨_,rfl,_,rfl,d,m,ts,rfl,hd,fun b2 e2=>⟨b2,rfl,?_⟩⟩;refine eE (fun h2=>?_) (fun h2=>?_)
   . exact kk false (rC fun z=>by rw[eG h2] at e2;exact Bool.false_ne_true (e2.mpr z.2.1))
   have hR2:=e2.mp (fV h2);refine⟨_,rfl,c,rfl,⟨_,hc⟩,?_⟩;refine fA (xs:=hs.map V.int) (fun i σ H2=>∃v4 v5:Option V,σ=[some (.int m),some (.ref a),some (.ref c),some (.ref d),v4,v5]/\H2=H/\∀(j:Nat)h r,j<i->hs[j]?=some h->T[h.toNat]?=some r->aHe r ts) ⟨none,none,rfl,rfl,fun j h r hj=>absurd hj (Nat.not_lt_zero j)⟩ (fun i σ H2 _ q=>by obtain⟨_,_,_,rfl,_⟩:=q;exact hc) ?_ ?_
   . rintro i x σ H2 hx ⟨v4,v5,rfl,rfl,hok⟩;obtain⟨h,hh,rfl⟩:=kE hx;have h0:=hR.lo i h hh;have h1:=(hR i h hh).2;have hhT:h.toNat<T.length:=by omega
     have hT':T[h.toNat]?=some T[h.toNat]:=List.getElem?_eq_getElem hhT;generalize T[h.toNat]=r at hT';have has:as[h.toNat]?=some (as[h.toNat]'(by omega)):=List.getElem?_eq_getElem _;generalize as[h.toNat]'(by omega)=b at has;have hwr:=hw _ r hT';have hrb:=hrow _ b r has hT';have atb:atI (as.map V.ref) h=some (.ref b):=eB h0 (by rw[List.getElem?_map,has];rfl);refine⟨_,rfl,m,rfl,by omega,by omega,?_⟩;refine dF (fun i2 σ H3=>∃v5:Option V,σ=[some (.int m),some (.ref a),some (.ref c),some (.ref d),some (.int h),v5]/\H3=H2/\∀(j:Nat)c,j<i2->r[j]?=some (some c)->(j:Int)∈ts) ⟨v5,rfl,rfl,fun j c hj=>absurd hj (Nat.not_lt_zero j)⟩ ?_ ?_
     . rintro i2 σ H3 hi2 ⟨w5,rfl,rfl,hk2⟩;have hrj:r[i2]?=some (r[i2]'(by omega)):=List.getElem?_eq_getElem _;generalize r[i2]'(by omega)=cj at hrj;have atc:atI (r.map aV) (0+(i2:Int))=some (aV cj):=by rw[Int.zero_add];exact dA (by rw[List.getElem?_map,hrj];rfl)
       refine⟨_,rfl,_,rfl,a,_,_,.ref b,rfl,rfl,ha,atb,_,rfl,b,_,_,aV cj,rfl,rfl,hrb,atc,rfl,_,rfl,?_⟩;cases cj with
       |none=>
         refine cI ⟨_,rfl,rfl,fun j c' hj e=>?_⟩;by_cases z:j=i2
         . subst z;rw[hrj] at e;cases e
         . exact hk2 j c' (by omega) e
       |some c1=>
         refine iH ⟨_,rfl,_,rfl,d,_,rfl,.inl hd,rfl,rA ts,_,rfl,?_⟩;rw[Int.zero_add,sZ];refine eE (fun h5=>?_) (fun h5=>?_)
         . refine kk false (rC fun z=>?_);have:=eG h5;rw[decide_eq_true (z.2.2.2 h (List.mem_of_getElem? hh) r hT' i2 c1 hrj)] at this;cases this
         . refine⟨_,rfl,rfl,fun j c' hj e=>?_⟩;by_cases z:j=i2
           . subst z;exact of_decide_eq_true (fV h5)
           . exact hk2 j c' (by omega) e
     . rintro σ H3 ⟨w5,rfl,rfl,hk2⟩;refine⟨_,_,rfl,rfl,fun j h' r' hj e1 e2=>?_⟩;by_cases z:j=i
       . subst z;rw[hh] at e1;cases e1;rw[hT'] at e2;cases e2;exact fun q c' e=>hk2 q c' (by have:=(List.getElem?_eq_some_iff.mp e).1;omega) e
       . exact hok j h' r' (by omega) e1 e2
   . rintro σ H2 ⟨v4,v5,rfl,rfl,hok⟩;refine⟨_,rfl,d,_,rfl,.inl hd,_,rfl,c,_,rfl,.inl hc,_,_,rfl,rfl,kk _ ?_⟩;rw[decide_eq_true_iff,List.length_map,List.length_map];constructor
     . intro z;refine⟨hR,hR2,by omega,fun h hh r e=>?_⟩;obtain⟨i,hi,ei⟩:=List.mem_iff_getElem.mp hh;exact hok i h r (by rw[List.length_map];exact hi) (by rw[<- ei];exact List.getElem?_eq_getElem hi) e
     . intro z;have:=z.2.2.1;omega
end
section
variable{P:Program}{w:World}{K:W.Frag}{mg:Str->Option Value}{base:Heap}{TN:Addr}
def nB:Sp:=fun vs H Q _=>∃(a:Addr)(ns:List Int),vs=[.ref a]/\H a=some (.lst (ns.map V.int))/\Q (.bl true) H
theorem vY(B:Blt mg)(Gw:Has P w K mg base 1 "_law_whole" ["_law_found"] jD)(D:cE K mg "_law_numbers" lT ["_law_found"]):Has P w K mg base 2 "_law_numbers" ["_law_found"] nB:=by
 refine D.has nE (fun vs H Q E h=>?_) fun f cdv A outer s H vs Q E hr h=>?_
 . obtain⟨a,ns,rfl,_⟩:=h;rfl
 . obtain⟨a,ns,rfl,ha,k⟩:=h;refine⟨_,aC (bC (cA (bP (aM bL (by rfl) B.isinstance boot_isinstance (aA (pv 0) (aA (fK (by rfl) B.list boot_list) aF))))) (aG (aS cP)) aT) (aC (dM PassesOwn.never rfl (cC (pv 0)) (bB (i:=1) nE.nd rfl (Or.inl rfl)) (aG (bC (cA (bP (bX Gw hr (by rfl) (aA (pv 1) aF)))) (aG (aS cP)) aT))) (aG (aS cP))),?_⟩;refine⟨_,rfl,_,_,_,true,rfl,.lst ha,by rfl,_,rfl,cI ?_⟩;refine⟨_,rfl,a,rfl,⟨_,SqL.of ha⟩,fA (K:=K) (a:=a) (xs:=ns.map V.int) (fun i σ H2=>∃v,σ=[some (.ref a),v]/\H2=H) ⟨none,rfl,rfl⟩ (fun i σ H2 _ ⟨_,_,e⟩=>by rw[e];exact SqL.of ha) ?_ ?_⟩
   . rintro i y σ H2 hi ⟨v,rfl,rfl⟩;obtain⟨n,_,rfl⟩:=kE hi;refine⟨_,rfl,some n,rfl,_,rfl,cI ?_⟩;exact⟨_,rfl,rfl⟩
   . rintro σ H2 ⟨v,rfl,rfl⟩;exact k
def qF(K:W.Frag):Sp:=fun vs H Q _=>∃(tp rl:Addr)(m:Nat)(T:gL),vs=[.ref tp,.int (m:Int),.ref rl]/\vL H tp m T/\mX K H rl T/\rW m T/\m <= 40/\T.length <= 41/\∀H',Same H H'->Q (.bl true) H'
theorem mD(B:Blt mg)(G1:Has P w K mg base 2 "_law_numbers" ["_law_found"] nB)(G2:Has P w K mg base 2 "_law_least_shown" ["_law_many","_law_rows","_law_tasks","_law_prices"] (iJ K))(G3:Has P w K mg base 2 "_law_short_shown" ["_law_many","_law_rows","_law_hands","_law_tasks"] (iI K))(D:cE K mg "_law_answer_holds" fG ["_law_found","_law_many","_law_rows"]): Has P w K mg base 3 "_law_answer_holds" ["_law_found","_law_many","_law_rows"] (qF K):=by
 refine D.has lO (fun vs H Q E h=>?_) fun f cdv A outer s H vs Q E hr h=>?_
 . obtain⟨tp,rl,m,T,rfl,_⟩:=h;rfl
 . obtain⟨tp,rl,m,T,rfl,⟨l1,l2,us,vs,h1,h2,h3⟩,hrl,hw,hm,hT,k⟩:=h;refine⟨_,aC (bC ((dW (cA (bP (aM bL (by rfl) B.isinstance boot_isinstance (aA (pv 0) (aA (fK (by rfl) B.tuple eR) aF))))) (dW (aP gZ (aM aO (by rfl) B.len boot_len (aA (pv 0) aF)) aJ (aU _)) (dI (cA (bP (aM bL (by rfl) B.isinstance boot_isinstance (aA (aR aZ (pv 0) aJ (fun _ _=>rfl)) (aA (fK (by rfl) B.str fU) aF))))))))).pt (aG (aS cP)) aT) (aC (bC ((dW (cA (bP (bX G1 hr (by rfl) (aA (aR aZ (pv 0) aJ (fun _ _=>rfl)) aF)))) (dI (cA (bP (bX G1 hr (by rfl) (aA (aR aZ (pv 0) aJ (fun _ _=>rfl)) aF))))))).pt (aG (aS cP)) aT) (aC (bC (aP fL (aR aZ (pv 0) aJ (fun _ _=>rfl)) bG (aU _)) (aG (aS (bX G2 hr (by rfl) (aA (pv 1) (aA (pv 2) (aA (aR aZ (pv 0) aJ (fun _ _=>rfl)) (aA (aR aZ (pv 0) aJ (fun _ _=>rfl)) aF))))))) aT) (aG (aS (uS (gW fL (aR aZ (pv 0) aJ (fun _ _=>rfl)) bG (aU _)) (uQ (bX G3 hr (by rfl) (aA (pv 1) (aA (pv 2) (aA (aR aZ (pv 0) aJ (fun _ _=>rfl)) (aA (aR aZ (pv 0) aJ (fun _ _=>rfl)) aF))))))))))),?_⟩;obtain⟨x,hx⟩:∃x:Str,H tp=some (.tup [.str x,.ref l1,.ref l2]):=by
     rcases h3 with⟨a,_⟩|⟨a,_⟩ <;> exact⟨_,a⟩
   refine⟨_,rfl,_,_,_,true,rfl,.tup hx,by rfl,_,rfl,cI ?_⟩;refine⟨_,rfl,tp,_,rfl,.inr (SqT.of hx),rfl,_,rfl,cI ?_⟩;refine⟨_,rfl,tp,_,_,.str x,rfl,rfl,SqT.of hx,rfl,_,_,_,true,rfl,.str x,by rfl,_,rfl,cI ?_⟩;refine⟨_,rfl,tp,_,_,.ref l1,rfl,rfl,SqT.of hx,rfl,l1,us,rfl,h1,_,rfl,cI ?_⟩;refine⟨_,rfl,tp,_,_,.ref l2,rfl,rfl,SqT.of hx,rfl,l2,vs,rfl,h2,_,rfl,cI ?_⟩;refine⟨_,rfl,tp,_,_,.str x,rfl,rfl,SqT.of hx,rfl,rfl,_,rfl,?_⟩;rcases h3 with⟨a,L⟩|⟨a,S⟩
   . rw[hx] at a;cases a;refine iH ?_;refine⟨_,rfl,_,rfl,_,rfl,tp,_,_,.ref l1,rfl,rfl,SqT.of hx,rfl,_,rfl,tp,_,_,.ref l2,rfl,rfl,SqT.of hx,rfl,(m:Int),rl,l1,l2,T,us,vs,rfl,hrl,SqL.of h1,SqL.of h2,hw,by omega,by omega,by omega,fun b H' hb sm=>?_⟩;rw[hb.mpr L];exact k H' sm
   . rw[hx] at a;cases a;refine cI ?_;refine⟨_,rfl,tp,_,_,.str "short", rfl,rfl,SqT.of hx,rfl,rfl,_,rfl,iH ?_⟩;refine⟨_,rfl,_,rfl,_,rfl,tp,_,_,.ref l1,rfl,rfl,SqT.of hx,rfl,_,rfl,tp,_,_,.ref l2,rfl,rfl,SqT.of hx,rfl,(m:Int),rl,l1,l2,T,us,vs,rfl,hrl,SqL.of h1,SqL.of h2,hw,by omega,?_,fun b H' hb sm=>?_⟩
     . have:=lU S.1;omega
     . rw[hb.mpr S];exact k H' sm
end
theorem nQ:bootBuiltins "max"=some (.builtin "max"):=by decide +kernel
theorem aGx{xs:List V}{k:Int}(h0:0 <= k)(h1:k<xs.length):∃v,atI xs k=some v/\v∈xs:=by
 have hk:k.toNat<xs.length:=by omega
 exact⟨xs[k.toNat],eB h0 (List.getElem?_eq_getElem hk),List.getElem_mem hk⟩
theorem pV(ns:List Int)(n:Int):ns.map V.int++[V.int n]=(ns++[n]).map V.int:=by rw[List.map_append];rfl
theorem aE8(r:mP)(c:Option Int):r.map aV++[aV c]=(r++[c]).map aV:=by rw[List.map_append];rfl
section
variable{P:Program}{w:World}{K:W.Frag}{mg:Str->Option Value}{base:Heap}{TN:Addr}
def xF(K:W.Frag):Sp:=fun vs H Q _=>∃(a:Addr)(ns:List Int)(x y:Int),vs=[.ref a,.int x,.int y]/\SqL K H a (ns.map V.int)/\ns.length <= 63/\Q (.int x) H
theorem aDj(B:Blt mg)(D:cE K mg "_law_upto" xU ["_law_script","_law_small","_law_great"]):Has P w K mg base 1 "_law_upto" ["_law_script","_law_small","_law_great"] (xF K):=by
 refine D.has aD3 (fun vs H Q E h=>?_) fun f cdv A outer s H vs Q E hr h=>?_
 . obtain⟨a,ns,x,y,rfl,_⟩:=h;rfl
 . obtain⟨a,ns,x,y,rfl,ha,hl,k⟩:=h;refine⟨_,aC (bC (aP yL (aM aO (by rfl) B.len boot_len (aA (pv 0) aF)) aJ (aU _)) (aG (aS (pv 2))) aT) (aG (aS (pv 1))),?_⟩;refine⟨_,rfl,a,_,rfl,.inl ha,_,_,rfl,rfl,_,rfl,?_⟩;refine eE (fun z=>?_) (fun _=>⟨_,rfl,k⟩);have:=of_decide_eq_true z;rw[List.length_map] at this;omega
def jE:Sp:=fun vs H Q _=>∃(dZ count far:Int),vs=[.int dZ,.int count,.int far]/\0 <= count/\count <= 100/\∀(l:Addr)(r:mP)(H':Hp),Same H H'->H' l=some (.lst (r.map aV))->r.length=count.toNat->H l=none->Q (.ref l) H'
theorem yN(B:Blt mg)(D:cE K mg "_law_row_by" oG ["_law_rest","_law_count","_law_far"]):Has P w K mg base 1 "_law_row_by" ["_law_rest","_law_count","_law_far"] jE:=by
 refine D.has eJ (fun vs H Q E h=>?_) fun f cdv A outer s H vs Q E hr h=>?_
 . obtain⟨dZ,count,far,rfl,_⟩:=h;rfl
 . obtain⟨dZ,count,far,rfl,c0,c1,k⟩:=h;refine⟨_,aC (aX (i:=3) eJ.nd rfl (Or.inl rfl) (cF aF)) (aC (dM PassesOwn.never rfl (dE (by rfl) B.range (aA (pv 1) aF)) (bB (i:=4) eJ.nd rfl (Or.inl rfl)) (aC (aX (i:=5) eJ.nd rfl (Or.inl rfl) (bF eN (bF iR (pv 0) (bF eN (pv 4) aJ)) (bF uT aJ (pv 4)))) (aC (aX (i:=6) eJ.nd rfl (Or.inl rfl) (bF uT (bF iL (bF dX (pv 5) aJ) aJ) (pv 2))) (aC (bC (aP fL (bF dX (pv 5) aJ) aJ (aU _)) (aG (aX (i:=6) eJ.nd rfl (Or.inl rfl) (bF uT (bF dX (bF iR (pv 5) aJ) (bF aCf aJ aJ)) (aR aQ (cF (aA aJ (aA (vT nA aJ) aF))) (bF dX (pv 5) aJ) (fun _ _=>rfl))))) aT) (aC (bC (aP fL (bF dX (pv 5) aJ) aJ (aU _)) (aG (aX (i:=6) eJ.nd rfl (Or.inl rfl) bW)) aT) (aG (bE (gX PySem.F.plainAttrs_list PySem.F.slot_list_append PySem.F.type_list_append cQ (pv 3) (aA (pv 6) aF))))))))) (aG (aS (pv 3)))),?_⟩;refine⟨by decide,fun l hl=>?_⟩;have s1:Same H (upd H l (.lst [])):=(Same.refl H).upd hl;have a1:(upd H l (.lst [])) l=some (.lst (([]:mP).map aV)):=aB;generalize upd H l (.lst [])=H1 at s1 a1;refine⟨_,rfl,count,rfl,by omega,by omega,?_⟩;refine dF (fun i σ H2=>∃(r:mP)(v4 v5 v6:Option V),σ=[some (.int dZ),some (.int count),some (.int far),some (.ref l),v4,v5,v6]/\Same H H2/\H2 l=some (.lst (r.map aV))/\r.length=i) ⟨[],none,none,none,rfl,s1,a1,rfl⟩ ?_ ?_
   . rintro i σ H2 hi ⟨r,v4,v5,v6,rfl,s2,a2,hr2⟩;have hi':i<count.toNat:=hi;have hL:(r.map aV).length<sizeLine:=by rw[List.length_map];exact bR (by omega)
     have fin:∀(c:Option Int)(w5:Option V)(H3:Hp),Same H H3->H3 l=some (.lst (r.map aV)) ->∃(r':mP)(v4 v5 v6:Option V),[some (.int dZ),some (.int count),some (.int far),some (.ref l),some (.int (0+(i:Int))),w5,some (aV c)]=[some (.int dZ),some (.int count),some (.int far),some (.ref l),v4,v5,v6]/\Same H (upd H3 l (.lst (r.map aV++[aV c])))/\(upd H3 l (.lst (r.map aV++[aV c]))) l=some (.lst (r'.map aV))/\r'.length=i+1:= fun c w5 H3 s3 a3=>⟨r++[c],_,_,_,rfl,s3.put hl,by rw[aE8];exact aB,by rw[List.length_append,hr2];rfl⟩;refine⟨_,rfl,_,rfl,_,_,rfl,rfl,_,_,rfl,rfl,⟨by omega,by omega⟩,_,rfl,_,_,rfl,rfl,.inl ⟨by decide,by decide⟩,_,_,rfl,rfl,?_⟩;dsimp only;generalize dZ / (0+(i:Int)+2)+5*(0+(i:Int))=cell;have b0:=Int.emod_nonneg cell (b:=9) (by decide);have b1:=Int.emod_lt_of_pos cell (b:=9) (by decide);refine⟨_,rfl,_,_,rfl,rfl,(show(0:Int)<9 by decide),_,_,rfl,rfl,_,rfl,_,_,rfl,rfl,.inl ⟨by omega,by omega⟩,?_⟩;refine⟨_,rfl,_,_,rfl,rfl,(show(0:Int)<9 by decide),rfl,_,rfl,?_⟩;refine eE (fun z=>?_) (fun _=>?_)
     . refine⟨_,rfl,_,_,rfl,rfl,⟨by decide,by decide⟩,_,_,rfl,rfl,⟨by decide,by decide,by decide⟩,_,_,rfl,rfl,(show(0:Int)<10 ^ 30 by decide),_,rfl,by show 2 <= sizeLine;decide,fun l3 hl3=>?_⟩;have s3:=s2.upd (o:=.lst [.int 1,.int (-1)]) hl3;have a3:(upd H2 l3 (.lst [.int 1,.int (-1)])) l=some (.lst (r.map aV)):=(aE (show l≠l3 from fun e=>by rw[e,hl3] at a2;cases a2)).trans a2;obtain⟨v,ev,hv⟩:∃v:Int,atI [V.int 1,V.int (-1)] (cell % 2)=some (.int v)/\(-(2 ^ 64)<v/\v<2 ^ 64):=by
         have hcs:cell % 2=0\/cell % 2=1:=by omega
         rcases hcs with e|e
         . exact⟨1,by rw[e];rfl,by decide,by decide⟩
         . exact⟨-1,by rw[e];rfl,by decide,by decide⟩
       refine⟨_,rfl,_,_,rfl,rfl,(show(0:Int)<2 by decide),l3,_,_,.int v,rfl,rfl,SqL.of aB,ev,_,_,rfl,rfl,.inr hv,?_⟩;refine⟨_,rfl,_,_,rfl,rfl,(show(0:Int)<5 by decide),rfl,_,rfl,?_⟩;refine eE (fun _=>?_) (fun _=>?_)
       . exact⟨_,rfl,.inl ⟨rfl,_,SqL.of a3⟩,_,rfl,l,_,_,rfl,rfl,a3,hL,fin none _ _ s3 a3⟩
       . exact⟨_,rfl,.inl ⟨rfl,_,SqL.of a3⟩,_,rfl,l,_,_,rfl,rfl,a3,hL,fin (some _) _ _ s3 a3⟩
     . refine⟨_,rfl,_,_,rfl,rfl,(show(0:Int)<5 by decide),rfl,_,rfl,?_⟩;refine eE (fun _=>?_) (fun _=>?_)
       . exact⟨_,rfl,.inl ⟨rfl,_,SqL.of a2⟩,_,rfl,l,_,_,rfl,rfl,a2,hL,fin none _ _ s2 a2⟩
       . exact⟨_,rfl,.inl ⟨rfl,_,SqL.of a2⟩,_,rfl,l,_,_,rfl,rfl,a2,hL,fin (some _) _ _ s2 a2⟩
   . rintro σ H2 ⟨r,v4,v5,v6,rfl,s2,a2,hr2⟩;exact⟨_,rfl,k l r H2 s2 a2 hr2 hl⟩
end
theorem jQ{ns:List Int}{k:Int}(h1:-(ns.length:Int) <= k)(h2:k<ns.length):∃n,atI (ns.map V.int) k=some (.int n):=by
 unfold atI ixN;rw[List.length_map];by_cases h0:0 <= k
 . rw[if_pos h0,if_pos h2];have:k.toNat<ns.length:=by omega
   refine⟨ns[k.toNat],?_⟩;show(ns.map V.int)[k.toNat]?=_;rw[List.getElem?_map,List.getElem?_eq_getElem this];rfl
 . rw[if_neg h0,if_pos h1];have:(k+(ns.length:Int)).toNat<ns.length:=by omega
   refine⟨ns[(k+(ns.length:Int)).toNat],?_⟩;show(ns.map V.int)[(k+(ns.length:Int)).toNat]?=_;rw[List.getElem?_map,List.getElem?_eq_getElem this];rfl
def zP(s:Stmt):List Stmt:=match s with
 |.For _ _ b _ _=>b
 |_=>[]
abbrev aHd:List Stmt:=zP ((bM gC).getD 5 (.Pass ⟨0,0,0,0⟩))
abbrev ND:List Str:=["_law_cells","_law_many","_law_asked","_law_came","_law_there","_law_limit","_law_k","_law_rest","_law_word","_law_far","_law_hand","_law_count","_law_cost"]
structure DI (H0 H:Hp) (al tl:Addr) (ps:List Addr) (ds:List fM) (ns:List Int):Prop where
 a:H al=some (.lst (ps.map V.ref))
 t:H tl=some (.lst (ns.map V.int))
 ne:al≠tl
 fa:H0 al=none
 ft:H0 tl=none
 sm:Same H0 H
 len:ps.length=ds.length
 deed:∀(i:Nat)p d,ps[i]?=some p->ds[i]?=some d->dQ (off [al,tl] H) p d
 rows:∀r,fM.come r∈ds->r.length <= 100
section
variable{H0 H H':Hp}{al tl:Addr}{ps:List Addr}{ds:List fM}{ns:List Int}
theorem dQ.mono{p:Addr}{d:fM}(h:dQ H p d)(e:Same H H'):dQ H' p d:=h.same fun a o q _=>e a o q
theorem DI.same(h:DI H0 H al tl ps ds ns)(e:Same H H'):DI H0 H' al tl ps ds ns:=⟨e _ _ h.a,e _ _ h.t,h.ne,h.fa,h.ft,h.sm.trans e,h.len,fun i p d e1 e2=>(h.deed i p d e1 e2).mono (gJ (fun a o q _=>e a o q) fun x hx=>.inl hx),h.rows⟩
theorem hW{α:Type}{xs:List α}{x y:α}{i:Nat}(h:(xs++[x])[i]?=some y):xs[i]?=some y\/(i=xs.length/\y=x):=by
 by_cases hi:i<xs.length
 . rw[List.getElem?_append_left hi] at h;exact .inl h
 . rw[List.getElem?_append_right (by omega)] at h;by_cases e:i=xs.length
   . subst e;rw[Nat.sub_self] at h;exact .inr ⟨rfl,(Option.some.inj h).symm⟩
   . have:i - xs.length≠0:=by omega
     rw[List.getElem?_cons,if_neg this] at h;exact(nomatch h)
theorem gK{α:Type}{xs:List α}{x:α}{i:Nat}(h:xs[i]?=some x):i<xs.length:=(List.getElem?_eq_some_iff.mp h).1
theorem DI.put{p:Addr}{d:fM}(h:DI H0 H al tl ps ds ns)(hd:dQ (off [al,tl] H) p d)(hr:∀r,d=.come r->r.length <= 100):DI H0 (upd H al (.lst (ps.map V.ref++[V.ref p]))) al tl (ps++[p]) (ds++[d]) ns:=by
 have st:Same (off [al,tl] H) (off [al,tl] (upd H al (.lst (ps.map V.ref++[V.ref p])))):=gJ ((bD.refl H).upd (by simp)) fun x hx=>.inl hx;refine⟨by rw[aB,List.map_append];rfl,(aE h.ne.symm).trans h.t,h.ne,h.fa,h.ft,h.sm.put h.fa,by rw[List.length_append,List.length_append,h.len];rfl,fun i q e e1 e2=>?_,fun r hr'=>?_⟩
 . rcases hW e1 with z1|⟨z1,rfl⟩ <;> rcases hW e2 with z2|⟨z2,rfl⟩
   . exact(h.deed i q e z1 z2).mono st
   . have:=gK z1;have:=h.len;omega
   . have:=gK z2;have:=h.len;omega
   . exact hd.mono st
 . rcases List.mem_append.mp hr' with z|z
   . exact h.rows r z
   . exact hr r (List.mem_singleton.mp z).symm
theorem DI.there(h:DI H0 H al tl ps ds ns)(c:Int):DI H0 (upd H tl (.lst (ns.map V.int++[V.int c]))) al tl ps ds (ns++[c]):=by
 have st:Same (off [al,tl] H) (off [al,tl] (upd H tl (.lst (ns.map V.int++[V.int c])))):=gJ ((bD.refl H).upd (by simp)) fun x hx=>.inl hx;exact⟨(aE h.ne).trans h.a,by rw[aB,pV],h.ne,h.fa,h.ft,h.sm.put h.ft,h.len,fun i p d e1 e2=>(h.deed i p d e1 e2).mono st,h.rows⟩
theorem DI.fresh{t':Addr}{ns':List Int}(h:DI H0 H al tl ps ds ns)(ht:H t'=none):DI H0 (upd H t' (.lst (ns'.map V.int))) al t' ps ds ns':=by
 have hne:al≠t':=fun z=>by have:=h.a;rw[z,ht] at this;cases this
 have st:Same (off [al,tl] H) (off [al,t'] (upd H t' (.lst (ns'.map V.int)))):=gJ ((bD.refl H).new ht) fun x hx=>by
   simp only[List.mem_cons,List.not_mem_nil,or_false] at hx ⊢;rcases hx with rfl|rfl
   . exact .inl (.inl rfl)
   . exact .inr ht
 exact⟨(aE hne).trans h.a,aB,hne,h.fa,h.sm.free ht,h.sm.upd ht,h.len,fun i p d e1 e2=>(h.deed i p d e1 e2).mono st,h.rows⟩
theorem DI.at(h:DI H0 H al tl ps ds ns){x:Addr}{o:HO}(hx:H x=some o)(na:∀ps,o≠.lst ps):off [al,tl] H x=some o:=by
 rw[fR];exact hx;intro z;simp only[List.mem_cons,List.not_mem_nil,or_false] at z;rcases z with rfl|rfl
 . rw[h.a] at hx;exact na _ (Option.some.inj hx).symm
 . rw[h.t] at hx;exact na _ (Option.some.inj hx).symm
end
section
variable{P:Program}{w:World}{K:W.Frag}{mg:Str->Option Value}{base:Heap}{TN:Addr}
theorem aFk(B:Blt mg)(Gr:Has P w K mg base 1 "_law_row_by" ["_law_rest","_law_count","_law_far"] jE){f:Addr}{cdv:Value}{A:Around}{outer:List Env}{s:Shared}{H:Hp}{E:XK}(hr:eU 1 (A.deeper (envOfC "_law_deeds" (aI gC) s.heap.objs.size f cdv))):
   ∃t,PSs (wO CX0 P w K mg base ND "_law_deeds" (aI gC) f cdv A outer s H E).nox (aHd.drop 6) t /\
     ∀(D:wU)(i:Nat)(ca al tl:Addr)(ps:List Addr)(ds:List fM)(ns cells:List Int)(m:Nat)(came lim dZ far hand:Int)(wd:Str)(v11 v12:Option V)(H1:Hp),DI H H1 al tl ps ds ns->ns.length <= i->ds.length=i->cells.length <= 36->i<cells.length->SqL K H ca (cells.map V.int)->m <= 7 ->
       (∀tl' ps' ds' ns'(came':Int)(v8 v11 v12:Option V)(H':Hp),DI H H' al tl' ps' ds' ns'->ns'.length <= i+1->ds'.length=i+1->D.nx [some (.ref ca),some (.int (m:Int)),some (.ref al),some (.int came'),some (.ref tl'),some (.int lim),some (.int (i:Int)),some (.int dZ),v8,some (.int far),some (.int hand),v11,v12] H') ->
       t D [some (.ref ca),some (.int (m:Int)),some (.ref al),some (.int came),some (.ref tl),some (.int lim),some (.int (i:Int)),some (.int dZ),some (.str wd),some (.int far),some (.int hand),v11,v12] H1:=by
 refine⟨_,(aG (bC (aP fL (pv 8) bG (aU _)) (aC (aX (i:=11) bT.nd rfl (Or.inl rfl) (bF eN (pv 1) (aR aQ (cF (aA aJ (aA aJ (aA aJ (aA aJ (aA aJ (aA aJ (aA (vT nA aJ) aF)))))))) (bF dX (pv 7) aJ) (fun _ _=>rfl)))) (aC (bE (gX PySem.F.plainAttrs_list PySem.F.slot_list_append PySem.F.type_list_append cQ (pv 2) (aA (eY (aA bG (aA (bX Gr hr (by rfl) (aA (pv 7) (aA (aM (rQ rfl) (by rfl) B.max nQ (aA aJ (aA (pv 11) aF))) (aA (pv 9) aF)))) aF))) aF))) (aG (bC (aP fL (aM (rQ rfl) (by rfl) B.max nQ (aA aJ (aA (pv 11) aF))) (pv 1) (aU _)) (aC (bE (gX PySem.F.plainAttrs_list PySem.F.slot_list_append PySem.F.type_list_append cQ (pv 4) (aA (pv 3) aF))) (aG (aX (i:=3) bT.nd rfl (Or.inl rfl) (bF eN (pv 3) aJ)))) aT)))) (aG (bC (aP fL (pv 8) bG (aU _)) (aC (bE (gX PySem.F.plainAttrs_list PySem.F.slot_list_append PySem.F.type_list_append cQ (pv 2) (aA (eY (aA bG (aA (pv 10) aF))) aF))) (aG (oQ (i:=4) (sc:=aI gC) (XN:=ND) (own:=["_law_one"]) (fr:=["_law_hand"]) (js:=[10]) bT.nd rfl rfl rfl rfl rfl rfl (⟨rfl,by decide +kernel,by decide +kernel,by decide +kernel,rfl,by decide +kernel⟩) (cC (pv 4)) (fun _ _ _ _ _=>(bB (i:=0) (show List.Nodup (["_law_one","_law_hand"]:List Str) by decide +kernel) rfl (Or.inl rfl))) (fun _ _ _ _ _=>(sM (aP gZ (pv 0) (pv 1) (aU _)))) (fun _ _ _ _ _=>(pv 0))))) (aG (bC (aP fL (pv 8) bG (aU _)) (aC (aX (i:=12) bT.nd rfl (Or.inl rfl) (aR aQ (cF (aA (bF uT (bF iL (bF dX (bF iR (pv 7) aJ) aJ) aJ) (pv 9)) (aA bW aF))) (cO aAa (by rfl) B.int boot_int (aA (gW fL (bF dX (aR aQ (pv 0) (bF iL (pv 6) aJ) (fun _ _=>rfl)) aJ) aJ (aU _)) aF)) (fun _ _=>rfl))) (aG (bE (gX PySem.F.plainAttrs_list PySem.F.slot_list_append PySem.F.type_list_append cQ (pv 2) (aA (eY (aA bG (aA (pv 10) (aA (bF iL (bF dX (bF iR (pv 7) aJ) (bF eN (pv 1) aJ)) aJ) (aA (pv 12) aF))))) aF))))) (aG (bE (gX PySem.F.plainAttrs_list PySem.F.slot_list_append PySem.F.type_list_append cQ (pv 2) (aA (eY (aA bG aF)) aF)))))))))),?_⟩;intro D i ca al tl ps ds ns cells m came lim dZ far hand wd v11 v12 H1 di hns hds hcl hi hca hm k;have hps:(ps.map V.ref).length<sizeLine:=by rw[List.length_map,di.len];exact bR (by omega)
 have one:∀(H2:Hp)(p:Addr)(d:fM)(came':Int)(v8 v11 v12:Option V),DI H H2 al tl ps ds ns->dQ (off [al,tl] H2) p d->(∀r,d=.come r->r.length <= 100)->D.nx [some (.ref ca),some (.int (m:Int)),some (.ref al),some (.int came'),some (.ref tl),some (.int lim),some (.int (i:Int)),some (.int dZ),v8,some (.int far),some (.int hand),v11,v12] (upd H2 al (.lst (ps.map V.ref++[V.ref p]))):= fun H2 p d came' v8 v11 v12 di2 hd hr2=>k tl _ _ ns came' v8 v11 v12 _ (di2.put hd hr2) (by omega) (by rw[List.length_append,hds];rfl);refine⟨_,rfl,rfl,_,rfl,?_⟩;refine eE (fun _=>?_) (fun _=>?_)
 . obtain⟨c,hc,c0,c1⟩:∃c:Int,atI [V.int 0,V.int 0,V.int 0,V.int 0,V.int 1,V.int 0,V.int (-1)] (dZ % 7)=some (.int c)/\-1 <= c/\c <= 1:=by
     have h7:dZ % 7=0\/dZ % 7=1\/dZ % 7=2\/dZ % 7=3\/dZ % 7=4\/dZ % 7=5\/dZ % 7=6:=by omega
     rcases h7 with e|e|e|e|e|e|e <;> rw[e]
     . exact⟨0,rfl,by decide,by decide⟩
     . exact⟨0,rfl,by decide,by decide⟩
     . exact⟨0,rfl,by decide,by decide⟩
     . exact⟨0,rfl,by decide,by decide⟩
     . exact⟨1,rfl,by decide,by decide⟩
     . exact⟨0,rfl,by decide,by decide⟩
     . exact⟨-1,rfl,by decide,by decide⟩
   refine⟨_,rfl,_,rfl,by show 7 <= sizeLine;decide,fun l2 hl2=>?_⟩;refine⟨_,rfl,_,_,rfl,rfl,(show(0:Int)<7 by decide),l2,_,_,.int c,rfl,rfl,SqL.of aB,hc,_,_,rfl,rfl,?_⟩;have di2:=di.same ((Same.refl H1).upd (o:=.lst [V.int 0,V.int 0,V.int 0,V.int 0,V.int 1,V.int 0,V.int (-1)]) hl2);generalize upd H1 l2 (.lst [V.int 0,V.int 0,V.int 0,V.int 0,V.int 1,V.int 0,V.int (-1)])=H2 at di2;refine⟨_,rfl,.inl ⟨rfl,_,SqL.of di2.a⟩,_,rfl,_,rfl,_,_,rfl,_,rfl,dZ,_,far,rfl,?_,?_,fun rl r H3 s3 hrl hlen hfr=>?_⟩
   . split <;> omega
   . split <;> omega
   refine⟨by show 2 <= sizeLine;decide,fun p hp=>?_⟩;have ep:H3 p=none:=hp;have di3:=di2.same s3;have di4:=di3.same ((Same.refl H3).upd (o:=.tup [.str "come", .ref rl]) ep);have hpt:(upd H3 p (.tup [.str "come", .ref rl])) p=some (.tup [.str "come", .ref rl]):=aB;have hrl4:(upd H3 p (.tup [.str "come", .ref rl])) rl=some (.lst (r.map aV)):=(aE (show rl≠p from fun z=>by rw[z,ep] at hrl;cases hrl)).trans hrl;have hro:off [al,tl] (upd H3 p (.tup [.str "come", .ref rl])) rl=some (.lst (r.map aV)):=by
     rw[fR];exact hrl4;intro z;simp only[List.mem_cons,List.not_mem_nil,or_false] at z;rcases z with rfl|rfl
     . rw[di2.a] at hfr;cases hfr
     . rw[di2.t] at hfr;cases hfr
   generalize upd H3 p (.tup [.str "come", .ref rl])=H4 at di4 hpt hro hrl4;have hr100:r.length <= 100:=by rw[hlen];split <;> omega
   have di5:=di4.put (p:=p) (d:=.come r) ⟨rl,di4.at hpt (fun _ z=>nomatch z),hro⟩ (fun r' z=>by cases z;exact hr100);refine⟨al,_,_,rfl,rfl,di4.a,hps,?_⟩;generalize upd H4 al (.lst (ps.map V.ref++[V.ref p]))=H5 at di5;have hd5:(ds++[fM.come r]).length=i+1:=by rw[List.length_append,hds];rfl
   refine⟨_,rfl,_,_,rfl,_,rfl,rfl,_,rfl,?_⟩;refine eE (fun _=>?_) (fun _=>k tl _ _ ns came _ _ _ _ di5 (by omega) hd5);refine⟨_,rfl,.inl ⟨rfl,_,SqL.of di5.t⟩,_,rfl,tl,_,_,rfl,rfl,di5.t,?_,?_⟩
   . rw[List.length_map];exact bR (by omega)
   exact⟨_,rfl,_,_,rfl,rfl,k tl _ _ _ _ _ _ _ _ (di5.there came) (by rw[List.length_append];show ns.length+1 <= _;omega) hd5⟩
 refine⟨_,rfl,rfl,_,rfl,?_⟩;refine eE (fun _=>?_) (fun _=>?_)
 . refine⟨_,rfl,.inl ⟨rfl,_,SqL.of di.a⟩,_,rfl,by show 2 <= sizeLine;decide,fun p hp=>?_⟩;have di2:=di.same ((Same.refl H1).upd (o:=.tup [.str "leave", .int hand]) hp);have hpt:(upd H1 p (.tup [.str "leave", .int hand])) p=some (.tup [.str "leave", .int hand]):=aB;generalize upd H1 p (.tup [.str "leave", .int hand])=H2 at di2 hpt;have di3:=di2.put (p:=p) (d:=.leave hand) (di2.at hpt (fun _ z=>nomatch z)) (fun r z=>nomatch z);refine⟨al,_,_,rfl,rfl,di2.a,hps,?_⟩;generalize upd H2 al (.lst (ps.map V.ref++[V.ref p]))=H3 at di3;refine⟨_,rfl,tl,rfl,⟨_,SqL.of di3.t⟩,?_⟩;refine fB (K:=K) (xs:=ns.map V.int) (fun j ys H4=>Same H3 H4/\∃us:List Int,ys=us.map V.int/\us.length <= j) ⟨Same.refl H3,[],rfl,Nat.le_refl _⟩ (by rw[List.length_map];omega) ?_ (fun j ys H4 q=>SqL.of (q.1 _ _ di3.t)) ?_ ?_
   . rintro j ys H4 ⟨_,us,rfl,hu⟩;rw[List.length_map];exact hu
   . rintro ys H4 ⟨s4,us,rfl,hu⟩ l4 hl4;rw[List.length_map] at hu;exact k l4 _ _ us came _ _ _ _ ((di3.same s4).fresh hl4) (by omega) (by rw[List.length_append,hds];rfl)
   . rintro j ys H4 x hx ⟨s4,us,rfl,hu⟩;obtain⟨n,_,rfl⟩:=kE hx;refine⟨_,rfl,_,rfl,rfl,_,rfl,?_⟩;refine eE (fun _=>?_) (fun _=>⟨s4,us,rfl,Nat.le_succ_of_le hu⟩);exact⟨_,rfl,s4,us++[n],pV _ _,by rw[List.length_append];exact Nat.succ_le_succ hu⟩
 refine⟨_,rfl,rfl,_,rfl,?_⟩;refine eE (fun _=>?_) (fun _=>?_)
 . obtain⟨cc,hcc⟩:=jQ (ns:=cells) (k:=(i:Int) - 1) (by omega) (by omega);have b0:=Int.emod_nonneg (dZ / 3) (b:=9) (by decide);have b1:=Int.emod_lt_of_pos (dZ / 3) (b:=9) (by decide);refine⟨_,rfl,_,_,rfl,rfl,⟨by decide,by decide⟩,_,_,rfl,rfl,(show(0:Int)<9 by decide),_,_,rfl,rfl,_,rfl,_,_,rfl,rfl,.inl ⟨by omega,by omega⟩,by show 2 <= sizeLine;decide,fun l2 hl2=>?_⟩;have di2:=di.same ((Same.refl H1).upd (o:=.lst [V.int ((dZ / 3 % 9 - 3)*far),V.non]) hl2);have a2:(upd H1 l2 (.lst [V.int ((dZ / 3 % 9 - 3)*far),V.non])) l2=some (.lst [V.int ((dZ / 3 % 9 - 3)*far),V.non]):=aB;refine⟨_,rfl,_,rfl,_,_,rfl,rfl,ca,_,_,.int cc,rfl,rfl,di2.sm.seq hca,hcc,_,_,rfl,rfl,(show(0:Int)<4 by decide),rfl,.inr ⟨_,rfl,?_⟩⟩;have hat:∀b:Bool,∃c:Option Int,atI [V.int ((dZ / 3 % 9 - 3)*far),V.non] (if b=true then 1 else 0)=some (aV c):=fun b=>by
     cases b
     . exact⟨some _,rfl⟩
     . exact⟨none,rfl⟩
   obtain⟨c,hc⟩:=hat (decide (V.int (cc % 4)=V.int 1));refine⟨l2,_,_,aV c,rfl,rfl,SqL.of a2,hc,?_⟩;generalize upd H1 l2 (.lst [V.int ((dZ / 3 % 9 - 3)*far),V.non])=H2 at di2;refine⟨_,rfl,.inl ⟨rfl,_,SqL.of di2.a⟩,_,rfl,_,rfl,_,_,rfl,rfl,⟨by decide,by decide⟩,_,rfl,_,_,rfl,rfl,_,_,rfl,rfl,(show(0:Int)<(m:Int)+2 by omega),_,_,rfl,rfl,_,rfl,by show 4 <= sizeLine;decide,fun p hp=>?_⟩;have ep:H2 p=none:=hp;have di3:=di2.same ((Same.refl H2).upd (o:=.tup [.str "cost", .int hand,.int (dZ / 5 % ((m:Int)+2) - 1),aV c]) ep);have hpt:(upd H2 p (.tup [.str "cost", .int hand,.int (dZ / 5 % ((m:Int)+2) - 1),aV c])) p=some (.tup [.str "cost", .int hand,.int (dZ / 5 % ((m:Int)+2) - 1),aV c]):=aB;exact⟨al,_,_,rfl,rfl,di3.a,hps,one _ p (.cost hand (dZ / 5 % ((m:Int)+2) - 1) c) _ _ _ _ di3 (di3.at hpt (fun _ z=>nomatch z)) (fun r z=>nomatch z)⟩
 . refine⟨_,rfl,.inl ⟨rfl,_,SqL.of di.a⟩,by show 1 <= sizeLine;decide,fun p hp=>?_⟩;have di2:=di.same ((Same.refl H1).upd (o:=.tup [.str "deal"]) hp);have hpt:(upd H1 p (.tup [.str "deal"])) p=some (.tup [.str "deal"]):=aB;exact⟨al,_,_,rfl,rfl,di2.a,hps,one _ p .deal _ _ _ _ di2 (di2.at hpt (fun _ z=>nomatch z)) (fun r z=>nomatch z)⟩
end
theorem kO{X:Cx}{es:List Expr}{t:TA}{x j pos}(hr:PA X es t):PA X (.Constant (.str x) j pos::es) (kS (tC (.str x)) t):=aA bG hr (by rfl)
structure PEw (X:Cx) (e:Expr) (t:TE):Prop where
 out:PE X e t
theorem aF1{X:Cx}{e:Expr}{t:TE}(h:PEw X e t):PE X e t:=h.out
theorem aDf{X:Cx}{x0 x1 x2 x3 x4 x5 x6 x7:Str}{j0 j1 j2 j3 j4 j5 j6 j7:Nat}{p0 p1 p2 p3 p4 p5 p6 p7 pos:Pos}:PEw X (.List [.Constant (.str x0) j0 p0,.Constant (.str x1) j1 p1,.Constant (.str x2) j2 p2,.Constant (.str x3) j3 p3,.Constant (.str x4) j4 p4,.Constant (.str x5) j5 p5,.Constant (.str x6) j6 p6,.Constant (.str x7) j7 p7] pos) (aH5 (kS (tC (.str x0)) (kS (tC (.str x1)) (kS (tC (.str x2)) (kS (tC (.str x3)) (kS (tC (.str x4)) (kS (tC (.str x5)) (kS (tC (.str x6)) (kS (tC (.str x7)) aEg))))))))):=⟨by
 refine cF ?_;refine kO ?_;refine kO ?_;refine kO ?_;refine kO ?_;refine kO ?_;refine kO ?_;refine kO ?_;refine kO ?_;exact aF⟩
theorem wS:bootBuiltins "sum"=some (.builtin "sum"):=by decide +kernel
section
variable{P:Program}{w:World}{K:W.Frag}{mg:Str->Option Value}{base:Heap}{TN:Addr}
theorem aEj(k:Int):∃z:Str,atI ([V.str "come", V.str "come", V.str "cost", V.str "leave", V.str "cost", V.str "deal", V.str "come", V.str "cost"]:List V) (k % 8)=some (.str z):=by
 have hws:∀v∈([V.str "come", V.str "come", V.str "cost", V.str "leave", V.str "cost", V.str "deal", V.str "come", V.str "cost"]:List V),∃z:Str,v=.str z:=by
   intro v hv;simp only[List.mem_cons,List.not_mem_nil,or_false] at hv;rcases hv with rfl|rfl|rfl|rfl|rfl|rfl|rfl|rfl <;> exact⟨_,rfl⟩
 obtain⟨v,hv,hvm⟩:=aGx (xs:=([V.str "come", V.str "come", V.str "cost", V.str "leave", V.str "cost", V.str "deal", V.str "come", V.str "cost"]:List V)) (k:=k % 8) (Int.emod_nonneg k (by decide)) (Int.emod_lt_of_pos k (by decide));obtain⟨z,rfl⟩:=hws v hvm;exact⟨z,hv⟩
theorem aGt(k:Int):∃z:Int,atI ([V.int 1,V.int 1,V.int 1,V.int (10 ^ 20)]:List V) (k % 4)=some (.int z):=jQ (ns:=[1,1,1,10 ^ 20]) (k:=k % 4) (by have:=Int.emod_nonneg k (b:=4) (by decide);show -(4:Int) <= _;omega) (Int.emod_lt_of_pos k (b:=4) (by decide))
theorem aFl(B:Blt mg)(Gr:Has P w K mg base 1 "_law_row_by" ["_law_rest","_law_count","_law_far"] jE){f:Addr}{cdv:Value}{A:Around}{outer:List Env}{s:Shared}{H:Hp}{E:XK}(hr:eU 1 (A.deeper (envOfC "_law_deeds" (aI gC) s.heap.objs.size f cdv))):
   ∃t,PSs (wO CX0 P w K mg base ND "_law_deeds" (aI gC) f cdv A outer s H E).nox aHd t /\
     ∀(D:wU)(i:Nat)(ca al tl:Addr)(ps:List Addr)(ds:List fM)(ns cells:List Int)(m:Nat)(came lim:Int)(v7 v8 v9 v10 v11 v12:Option V)(H1:Hp),DI H H1 al tl ps ds ns->ns.length <= i->ds.length=i->cells.length <= 36->i<cells.length->SqL K H ca (cells.map V.int)->m <= 7 ->
       (∀tl' ps' ds' ns'(came':Int)(v7 v8 v9 v10 v11 v12:Option V)(H':Hp),DI H H' al tl' ps' ds' ns'->ns'.length <= i+1->ds'.length=i+1->D.nx [some (.ref ca),some (.int (m:Int)),some (.ref al),some (.int came'),some (.ref tl'),some (.int lim),some (.int (i:Int)),v7,v8,v9,v10,v11,v12] H') ->
       t D [some (.ref ca),some (.int (m:Int)),some (.ref al),some (.int came),some (.ref tl),some (.int lim),some (.int (i:Int)),v7,v8,v9,v10,v11,v12] H1:=by
 have hu:=hr.units0;obtain⟨t6,h6,r6⟩:=aFk (P:=P) (w:=w) (K:=K) (mg:=mg) (base:=base) B Gr (f:=f) (cdv:=cdv) (A:=A) (outer:=outer) (s:=s) (H:=H) (E:=E) hr;refine⟨_,(aC (aX (i:=7) bT.nd rfl (Or.inl rfl) (bF eN (bF iR (aR aQ (pv 0) (pv 6) (fun _ _=>rfl)) aJ) (pv 6))) (aC (aX (i:=8) bT.nd rfl (Or.inl rfl) (aR aQ (aF1 aDf) (bF dX (aR aQ (pv 0) (pv 6) (fun _ _=>rfl)) aJ) (fun _ _=>rfl))) (aC (aX (i:=9) bT.nd rfl (Or.inl rfl) (aR aQ (cF (aA aJ (aA aJ (aA aJ (aA (bF aCf aJ aJ) aF))))) (bF dX (bF iR (pv 7) aJ) aJ) (fun _ _=>rfl))) (aC (aX (i:=10) bT.nd rfl (Or.inr rfl) (bF iL (bF iL (pv 3) aJ) (bF dX (pv 7) aJ))) (aC (bC ((nG (aP (qS hu) (pv 4) (cF aF) (aU _)) (lW (aP yL (bF dX (pv 7) aJ) aJ (aU _))))).pt (aG (aX (i:=10) bT.nd rfl (Or.inr rfl) (aR aQ (pv 4) (bF dX (pv 7) (aM aO (by rfl) B.len boot_len (aA (pv 4) aF))) (fun _ _=>rfl)))) aT) (aC (bC ((nG (aP yL (aM aO (by rfl) B.len boot_len (aA (pv 4) aF)) (pv 5) (aU _)) (lW (aP fL (pv 8) bG (aU _))))).pt (aG (aX (i:=8) bT.nd rfl (Or.inl rfl) bG)) aT) h6)))))),?_⟩;intro D i ca al tl ps ds ns cells m came lim v7 v8 v9 v10 v11 v12 H1 di hns hds hcl hi hca hm k;obtain⟨x,hx⟩:=jQ (ns:=cells) (k:=(i:Int)) (by omega) (by omega);refine⟨_,rfl,_,rfl,ca,_,_,.int x,rfl,rfl,di.sm.seq hca,hx,_,_,rfl,rfl,⟨by decide,by decide⟩,_,rfl,_,_,rfl,rfl,?_⟩;refine⟨by show 8 <= sizeLine;decide,fun l2 hl2=>?_⟩;obtain⟨wd,hv⟩:=aEj x;have di2:=di.same ((Same.refl H1).upd (o:=.lst [V.str "come", V.str "come", V.str "cost", V.str "leave", V.str "cost", V.str "deal", V.str "come", V.str "cost"]) hl2);refine⟨_,rfl,_,rfl,ca,_,_,.int x,rfl,rfl,di2.sm.seq hca,hx,_,_,rfl,rfl,(show(0:Int)<8 by decide),l2,_,_,.str wd,rfl,rfl,SqL.of aB,hv,?_⟩;refine⟨_,_,rfl,rfl,⟨by decide,by decide,by decide⟩,by show 4 <= sizeLine;decide,fun l3 hl3=>?_⟩;obtain⟨far,hfar⟩:=aGt ((x / 8+(i:Int)) / 7);have di3:=di2.same ((Same.refl _).upd (o:=.lst [V.int 1,V.int 1,V.int 1,V.int (10 ^ 20)]) hl3);refine⟨_,rfl,_,_,rfl,rfl,⟨by decide,by decide⟩,_,_,rfl,rfl,(show(0:Int)<4 by decide),l3,_,_,.int far,rfl,rfl,SqL.of aB,hfar,?_⟩;refine⟨_,rfl,_,_,rfl,rfl,_,rfl,_,_,rfl,rfl,(show(0:Int)<3 by decide),_,_,rfl,rfl,?_⟩;generalize hH3:upd (upd H1 l2 (.lst [V.str "come", V.str "come", V.str "cost", V.str "leave", V.str "cost", V.str "deal", V.str "come", V.str "cost"])) l3 (.lst [V.int 1,V.int 1,V.int 1,V.int (10 ^ 20)])=H3 at di3;have go:∀(hand:Int)(H5:Hp),DI H H5 al tl ps ds ns->aH4 (aH6 (aH8 (aAr (tOp (rI0 fun i j=>V.bl (decide (j<i))) (tCB (fun xs H_1 Q=>∃p ys,xs=[V.ref p]/\(SqL K H_1 p ys\/SqT K H_1 p ys)/\Q (V.int ↑ys.length) H_1) (kS (aEm 4) aEg)) (aEm 5))) (aAr (tOp rEq (aEm 8) (tC (V.str "come"))))) (aGd (tC (V.str "leave")) (aDz 8)) aEo) t6 D [some (.ref ca),some (.int (m:Int)),some (.ref al),some (.int came),some (.ref tl),some (.int lim),some (.int (i:Int)),some (.int (x / 8+(i:Int))),some (.str wd),some (.int far),some (.int hand),v11,v12] H5:=fun hand H5 di5=>by
   have e6:∀wd2:Str,t6 D [some (.ref ca),some (.int (m:Int)),some (.ref al),some (.int came),some (.ref tl),some (.int lim),some (.int (i:Int)),some (.int (x / 8+(i:Int))),some (.str wd2),some (.int far),some (.int hand),v11,v12] H5:=fun wd2=>
     r6 D i ca al tl ps ds ns cells m came lim _ far hand wd2 v11 v12 H5 di5 hns hds hcl hi hca hm fun tl' ps' ds' ns' came' v8 v11 v12 H' a b c=>k tl' ps' ds' ns' came' _ v8 _ _ v11 v12 H' a b c
   refine⟨_,rfl,tl,_,rfl,.inl (SqL.of di5.t),_,rfl,_,_,rfl,rfl,_,rfl,?_⟩;refine eE (fun _=>?_) (fun _=>e6 wd);refine⟨_,rfl,rfl,_,rfl,?_⟩;exact eE (fun _=>e6 _) (fun _=>e6 wd)
 refine⟨_,rfl,by decide,fun q hq=>?_⟩;have ehq:H3 q=none:=by rw[<- hH3];exact hq
 have di4:=di3.same ((Same.refl H3).upd (o:=.lst []) ehq);rw[<- hH3] at di4;refine⟨tl,q,_,rfl,rfl,SqL.of di4.t,SqL.of aB,_,rfl,?_⟩;refine eE (fun e1=>?_) (fun _=>go _ _ di4);refine⟨_,rfl,_,_,rfl,rfl,(show(0:Int)<5 by decide),_,_,rfl,rfl,_,rfl,?_⟩;refine eE (fun e2=>?_) (fun _=>go _ _ di4);have hn0:0<ns.length:=by
   cases ns with
   |nil=>cases e1
   |cons=>exact Nat.succ_pos _
 have hnI:(0:Int)<(ns.length:Int):=by omega
 obtain⟨hd,hhd⟩:=jQ (ns:=ns) (k:=(x / 8+(i:Int)) % (ns.length:Int)) (by have:=Int.emod_nonneg (x / 8+(i:Int)) (b:=(ns.length:Int)) (by omega);omega) (Int.emod_lt_of_pos _ hnI);refine⟨_,rfl,_,rfl,_,rfl,tl,_,rfl,.inl (SqL.of di4.t),_,_,rfl,rfl,?_,tl,_,_,.int hd,rfl,rfl,SqL.of di4.t,?_,go _ _ di4⟩
 . rw[List.length_map];exact hnI
 . rw[List.length_map];exact hhd
end
section
variable{P:Program}{w:World}{K:W.Frag}{mg:Str->Option Value}{base:Heap}{TN:Addr}
theorem DI.all{H0 H H':Hp}{al tl dl q:Addr}{ps:List Addr}{ds:List fM}{ns:List Int}(h:DI H0 H al tl ps ds ns)(e:Same H H')(hl:H' dl=some (.lst (ps.map V.ref++[V.ref q])))(hq:H' q=some (.tup [.str "deal"])):dU H' dl (ps++[q]) (ds++[.deal]):=by
 refine⟨by rw[hl,List.map_append];rfl,by rw[List.length_append,List.length_append,h.len];rfl,fun i p d e1 e2=>?_⟩;rcases hW e1 with z1|⟨z1,rfl⟩ <;> rcases hW e2 with z2|⟨z2,rfl⟩
 . exact(h.deed i p d z1 z2).mono (mE.trans e)
 . have:=gK z1;have:=h.len;omega
 . have:=gK z2;have:=h.len;omega
 . exact hq
def uG(K:W.Frag):Sp:=fun vs H Q _=>∃(ca:Addr)(cells:List Int)(m:Nat),vs=[.ref ca,.int (m:Int)]/\SqL K H ca (cells.map V.int)/\cells.length <= 36/\m <= 7 /\ ∀(dl:Addr)(ps:List Addr)(ds:List fM)(H':Hp),Same H H'->H dl=none->dU H' dl ps ds->ds.length <= 37->(∀r,fM.come r∈ds->r.length <= 100)->Q (.ref dl) H'
theorem aB8(B:Blt mg)(Gr:Has P w K mg base 1 "_law_row_by" ["_law_rest","_law_count","_law_far"] jE)(D:cE K mg "_law_deeds" gC ["_law_cells","_law_many"]):Has P w K mg base 2 "_law_deeds" ["_law_cells","_law_many"] (uG K):=by
 refine D.has bT (fun vs H Q E h=>?_) fun f cdv A outer s H vs Q E hr h=>?_
 . obtain⟨ca,cells,m,rfl,_⟩:=h;rfl
 . obtain⟨ca,cells,m,rfl,hca,hcl,hm,k⟩:=h;obtain⟨t0,h0,r0⟩:=aFl (P:=P) (w:=w) (K:=K) (mg:=mg) (base:=base) B Gr (f:=f) (cdv:=cdv) (A:=A) (outer:=outer) (s:=s) (H:=H) (E:=E) hr;refine⟨_,aC (aX (i:=2) bT.nd rfl (Or.inl rfl) (cF aF)) (aC (aX (i:=3) bT.nd rfl (Or.inl rfl) aJ) (aC (aX (i:=4) bT.nd rfl (Or.inl rfl) (cF aF)) (aC (aX (i:=5) bT.nd rfl (Or.inl rfl) aJ) (aC (bC (aP mT (aM aO (by rfl) B.len boot_len (aA (pv 0) aF)) aJ (aU _)) (aG (aX (i:=5) bT.nd rfl (Or.inl rfl) (aR aQ (cF (aA aJ (aA aJ (aA aJ (aA aJ aF))))) (bF dX (aM (pR rfl) (by rfl) B.sum wS (aA (pv 0) aF)) aJ) (fun _ _=>rfl)))) aT) (aC (dM PassesOwn.never rfl (dE (by rfl) B.range (aA (aM aO (by rfl) B.len boot_len (aA (pv 0) aF)) aF)) (bB (i:=6) bT.nd rfl (Or.inl rfl)) h0) (aG (aS (bF yM (pv 2) (cF (aA (eY (aA bG aF)) aF)))))))))),?_⟩;refine⟨by decide,fun al hal=>⟨by decide,fun tl htl=>?_⟩⟩;have hne:al≠tl:=fun e=>by rw[<- e,aB] at htl;cases htl
   have htn:H tl=none:=by rw[aE hne.symm] at htl;exact htl
   have di:DI H (upd (upd H al (.lst [])) tl (.lst [])) al tl [] [] []:= ⟨(aE hne).trans aB,aB,hne,hal,htn,((Same.refl H).upd hal).upd htl,rfl,fun i p d e=>(nomatch e),fun r hr=>(nomatch hr)⟩;generalize upd (upd H al (.lst [])) tl (.lst [])=H1 at di;refine⟨_,rfl,ca,_,rfl,.inl (di.sm.seq hca),_,_,rfl,rfl,_,rfl,?_⟩;refine eE (fun _=>?_) (fun z=>absurd (decide_eq_true (show((List.map V.int cells).length:Int)<37 by rw[List.length_map];omega)) (fun y=>by rw[y] at z;exact absurd rfl z));refine⟨by show 4 <= sizeLine;decide,fun l2 hl2=>?_⟩;have di2:=di.same ((Same.refl H1).upd (o:=.lst [V.int 4,V.int 4,V.int 4,V.int 8]) hl2);obtain⟨lim,hlim⟩:=jQ (ns:=[4,4,4,8]) (k:=cells.sum % 4) (by have:=Int.emod_nonneg cells.sum (b:=4) (by decide);show -(4:Int) <= _;omega) (Int.emod_lt_of_pos _ (b:=4) (by decide));refine⟨_,rfl,ca,cells,rfl,di2.sm.seq hca,_,_,rfl,rfl,(show(0:Int)<4 by decide),l2,_,_,.int lim,rfl,rfl,SqL.of aB,hlim,?_⟩;generalize upd H1 l2 (.lst [V.int 4,V.int 4,V.int 4,V.int 8])=H2 at di2;refine⟨_,rfl,ca,_,rfl,.inl (di2.sm.seq hca),_,rfl,by omega,by rw[List.length_map];omega,?_⟩;rw[List.length_map];refine dF (fun i σ H3=>∃(tl':Addr)(ps:List Addr)(ds:List fM)(ns:List Int)(came:Int)(v6 v7 v8 v9 v10 v11 v12:Option V),σ=[some (.ref ca),some (.int (m:Int)),some (.ref al),some (.int came),some (.ref tl'),some (.int lim),v6,v7,v8,v9,v10,v11,v12]/\DI H H3 al tl' ps ds ns/\ns.length <= i/\ds.length=i) ⟨tl,[],[],[],0,_,_,_,_,_,_,_,rfl,di2,Nat.le_refl _,rfl⟩ ?_ ?_
   . rintro i σ H3 hi ⟨tl',ps,ds,ns,came,v6,v7,v8,v9,v10,v11,v12,rfl,di3,hn,hd⟩;have hi':i<cells.length:=by omega
     have e0:(0:Int)+(i:Int)=(i:Int):=by omega
     rw[e0];exact r0 _ i ca al tl' ps ds ns cells m came lim v7 v8 v9 v10 v11 v12 H3 di3 hn hd hcl hi' hca hm fun tl2 ps2 ds2 ns2 came2 v7 v8 v9 v10 v11 v12 H' a b c=>⟨tl2,ps2,ds2,ns2,came2,_,v7,v8,v9,v10,v11,v12,rfl,a,b,c⟩
   . rintro σ H3 ⟨tl',ps,ds,ns,came,v6,v7,v8,v9,v10,v11,v12,rfl,di3,hn,hd⟩;have hd':ds.length <= 36:=by omega
     refine⟨_,rfl,by decide,fun q hq=>⟨by show 1 <= sizeLine;decide,fun l4 hl4=>?_⟩⟩;have s4:Same H3 (upd (upd H3 q (.tup [.str "deal"])) l4 (.lst [.ref q])):=((Same.refl H3).upd hq).upd hl4;have a4:(upd (upd H3 q (.tup [.str "deal"])) l4 (.lst [.ref q])) l4=some (.lst [.ref q]):=aB;have q4:(upd (upd H3 q (.tup [.str "deal"])) l4 (.lst [.ref q])) q=some (.tup [.str "deal"]):=(aE (show q≠l4 from fun e=>by rw[<- e,aB] at hl4;cases hl4)).trans aB;generalize upd (upd H3 q (.tup [.str "deal"])) l4 (.lst [.ref q])=H4 at s4 a4 q4;refine⟨al,l4,_,_,rfl,rfl,(di3.same s4).a,a4,?_,fun dl hdl=>?_⟩
     . rw[List.length_map,di3.len];show ds.length+1 <= sizeLine;exact Nat.le_of_lt (bR (by omega))
     have s5:Same H4 (upd H4 dl (.lst (ps.map V.ref++[.ref q]))):=(Same.refl H4).upd hdl;refine k dl _ _ _ ((di3.sm.trans s4).trans s5) ((di3.sm.trans s4).free hdl) (di3.all (s4.trans s5) aB (s5 _ _ q4)) ?_ fun r hr'=>?_
     . rw[List.length_append];show ds.length+1 <= 37;omega
     . rcases List.mem_append.mp hr' with z|z
       . exact di3.rows r z
       . exact(nomatch (List.mem_singleton.mp z))
end
section
variable{P:Program}{w:World}{K:W.Frag}{mg:Str->Option Value}{base:Heap}{TN:Addr}
def jH:Sp:=fun vs H Q _=>∃(al:Addr)(ps:List Addr)(ds:List fM),vs=[.ref al]/\dU H al ps ds/\ds.length <= 41 /\ ∀(dl:Addr)(ps':List Addr)(H':Hp),Same H H'->H dl=none->dU H' dl ps' ds->Q (.ref dl) H'
theorem pC(B:Blt mg)(D:cE K mg "_law_copy_deeds" gT ["_law_asked"]):Has P w K mg base 1 "_law_copy_deeds" ["_law_asked"] jH:=by
 refine D.has fY (fun vs H Q E h=>?_) fun f cdv A outer s H vs Q E hr h=>?_
 . obtain⟨al,ps,ds,rfl,_⟩:=h;rfl
 . obtain⟨al,ps,ds,rfl,DA,hds,k⟩:=h;refine⟨_,aC (aX (i:=1) fY.nd rfl (Or.inl rfl) (cF aF)) (aC (dM PassesOwn.never rfl (cC (pv 0)) (bB (i:=2) fY.nd rfl (Or.inl rfl)) (aG (bC (aP fL (aR aZ (pv 2) aJ (fun _ _=>rfl)) bG (aU _)) (aG (bE (gX PySem.F.plainAttrs_list PySem.F.slot_list_append PySem.F.type_list_append cQ (pv 1) (aA (eY (aA bG (aA (cO cS (by rfl) B.list boot_list (aA (aR aZ (pv 2) aJ (fun _ _=>rfl)) aF)) aF))) aF)))) (aG (bE (gX PySem.F.plainAttrs_list PySem.F.slot_list_append PySem.F.type_list_append cQ (pv 1) (aA (pv 2) aF))))))) (aG (aS (pv 1)))),?_⟩;refine⟨by decide,fun ml hml=>?_⟩;have s1:Same H (upd H ml (.lst [])):=(Same.refl H).upd hml;have a1:(upd H ml (.lst [])) ml=some (.lst []):=aB;generalize upd H ml (.lst [])=H1 at s1 a1;refine⟨_,rfl,al,rfl,⟨_,SqL.of (s1 _ _ DA.ls)⟩,?_⟩;refine fA (K:=K) (a:=al) (xs:=ps.map V.ref) (fun i σ H2=>∃(qs:List Addr)(v2:Option V),σ=[some (.ref al),some (.ref ml),v2]/\Same H H2/\H2 ml=some (.lst (qs.map V.ref))/\qs.length=i/\∀(j:Nat)p d,qs[j]?=some p->ds[j]?=some d->dQ (off [ml] H2) p d) ⟨[],_,rfl,s1,a1,rfl,fun j p d e=>(nomatch e)⟩ (fun i σ H2 _ ⟨_,_,_,z,_⟩=>SqL.of (z _ _ DA.ls)) ?_ ?_
   . rintro i x σ H2 hi ⟨qs,v2,rfl,s2,a2,hl,hd⟩;obtain⟨p,hp,rfl⟩:∃p,ps[i]?=some p/\x=.ref p:=by
       rw[List.getElem?_map] at hi;cases e:ps[i]? with
       |none=>rw[e] at hi;cases hi
       |some p=>rw[e] at hi;cases hi;exact⟨p,rfl,rfl⟩
     have hil:=gK hp;have hid:i<ds.length:=by have:=DA.len;omega
     have hdi:ds[i]?=some ds[i]:=List.getElem?_eq_getElem hid;generalize ds[i]=d at hdi;have DAp:=(DA.deed i p d hp hdi);have hq:(qs.map V.ref).length<sizeLine:=by rw[List.length_map,hl];exact bR (by omega)
     have fin:∀(H3:Hp)(p':Addr)(v2:Option V),Same H2 H3->dQ (off [ml] H3) p' d->∃(qs':List Addr)(v2':Option V),[some (.ref al),some (.ref ml),v2]=[some (.ref al),some (.ref ml),v2']/\Same H (upd H3 ml (.lst (qs.map V.ref++[V.ref p'])))/\(upd H3 ml (.lst (qs.map V.ref++[V.ref p']))) ml=some (.lst (qs'.map V.ref))/\qs'.length=i+1/\∀(j:Nat)p d,qs'[j]?=some p->ds[j]?=some d->dQ (off [ml] (upd H3 ml (.lst (qs.map V.ref++[V.ref p'])))) p d:=fun H3 p' v2 s3 hd3=>by
       have st:Same (off [ml] H3) (off [ml] (upd H3 ml (.lst (qs.map V.ref++[V.ref p'])))):=gJ ((bD.refl H3).upd (by simp)) fun x hx=>.inl hx;refine⟨qs++[p'],v2,rfl,(s2.trans s3).put hml,by rw[aB,List.map_append];rfl,by rw[List.length_append,hl];rfl,fun j q e e1 e2=>?_⟩;rcases hW e1 with z1|⟨z1,rfl⟩
       . exact((hd j q e z1 e2).mono (gJ (fun a o q _=>s3 a o q) fun x hx=>.inl hx)).mono st
       . rw[z1,hl,hdi] at e2;cases e2;exact hd3.mono st
     have nml:∀{x:Addr}{o:HO},H x=some o->x≠ml:=fun hx e=>by rw[e,hml] at hx;cases hx
     have olds:dQ (off [ml] H2) p d:=DAp.mono fun a o e=>by
       rw[fR (by simpa using nml e)];exact s2 a o e
     cases d with
     |come r=>
       obtain⟨a,hp1,ha1⟩:=DAp;refine⟨_,rfl,p,_,0,.str "come", rfl,rfl,SqT.of (s2 _ _ hp1),rfl,rfl,_,rfl,iH ?_⟩;refine⟨_,rfl,.inl ⟨rfl,_,SqL.of a2⟩,_,rfl,p,_,1,.ref a,rfl,rfl,SqT.of (s2 _ _ hp1),rfl,a,_,rfl,.inl (SqL.of (s2 _ _ ha1)),fun l hl2=>⟨by show 2 <= sizeLine;decide,fun q hq2=>?_⟩⟩;have hq2':(upd H2 l (.lst (r.map aV))) q=none:=hq2;have s3:Same H2 (upd (upd H2 l (.lst (r.map aV))) q (.tup [.str "come", .ref l])):=((Same.refl H2).upd hl2).upd hq2';have lq:l≠q:=fun e=>by rw[<- e,aB] at hq2';cases hq2'
       have b1:(upd (upd H2 l (.lst (r.map aV))) q (.tup [.str "come", .ref l])) q=some (.tup [.str "come", .ref l]):=aB;have b2:(upd (upd H2 l (.lst (r.map aV))) q (.tup [.str "come", .ref l])) l=some (.lst (r.map aV)):=(aE lq).trans aB;have nl:l≠ml:=fun e=>by rw[e,a2] at hl2;cases hl2
       have nq:q≠ml:=fun e=>by rw[e,aE nl.symm,a2] at hq2';cases hq2'
       exact⟨ml,_,_,rfl,rfl,s3 _ _ a2,hq,fin _ q _ s3 ⟨l,by rw[fR (by simpa using nq)];exact b1,by rw[fR (by simpa using nl)];exact b2⟩⟩
     |leave h=>
       refine⟨_,rfl,p,_,0,.str "leave", rfl,rfl,SqT.of (s2 _ _ DAp),rfl,rfl,_,rfl,cI ?_⟩;exact⟨_,rfl,.inl ⟨rfl,_,SqL.of a2⟩,_,rfl,ml,_,_,rfl,rfl,a2,hq,fin _ p _ (Same.refl H2) olds⟩
     |cost h t c=>
       refine⟨_,rfl,p,_,0,.str "cost", rfl,rfl,SqT.of (s2 _ _ DAp),rfl,rfl,_,rfl,cI ?_⟩;exact⟨_,rfl,.inl ⟨rfl,_,SqL.of a2⟩,_,rfl,ml,_,_,rfl,rfl,a2,hq,fin _ p _ (Same.refl H2) olds⟩
     |deal=>
       refine⟨_,rfl,p,_,0,.str "deal", rfl,rfl,SqT.of (s2 _ _ DAp),rfl,rfl,_,rfl,cI ?_⟩;exact⟨_,rfl,.inl ⟨rfl,_,SqL.of a2⟩,_,rfl,ml,_,_,rfl,rfl,a2,hq,fin _ p _ (Same.refl H2) olds⟩
   . rintro σ H2 ⟨qs,v2,rfl,s2,a2,hl,hd⟩;rw[List.length_map] at hl;exact⟨_,rfl,k ml qs H2 s2 hml ⟨a2,hl.trans DA.len,fun j p d e1 e2=>(hd j p d e1 e2).mono mE⟩⟩
def jU:Sp:=fun vs H Q _=>∃(td p:Addr)(R:FR)(m g:Nat)(d:fM),vs=[.ref td,.int (g:Int),.int (m:Int),.ref p]/\mO H td R/\dJ R g/\(∀x∈R,x.2.2.length=m)/\R.length <= 100/\dQ H p d/\d≠.deal /\ ∀(R':FR)(v:V)(H':Hp),mO H' td R'->flR R'=(cW m (flR R) g d).1->dJ R' (cW m (flR R) g d).2.1->(cW m (flR R) g d).2.2=some v->bD (td::R.map (·.2.1)) H H'->(∀x∈R',x.2.1∈R.map (·.2.1)\/H x.2.1=none)->Q v H'
theorem vX(B:Blt mg)(D:cE K mg "_law_stepped" lR ["_law_there","_law_made","_law_many","_law_deed"]):Has P w K mg base 1 "_law_stepped" ["_law_there","_law_made","_law_many","_law_deed"] jU:=by
 refine D.has vR (fun vs H Q E h=>?_) fun f cdv A outer s H vs Q E hr h=>?_
 . obtain⟨td,p,R,m,g,d,rfl,_⟩:=h;rfl
 . obtain⟨td,p,R,m,g,d,rfl,b1,rs1,hw,hR,DAp,hnd,k⟩:=h;refine⟨_,aC (bC (aP fL (aR aZ (pv 3) aJ (fun _ _=>rfl)) bG (aU _)) (aC (bC (aP gZ (aM aO (by rfl) B.len boot_len (aA (aR aZ (pv 3) aJ (fun _ _=>rfl)) aF)) (pv 2) (aU _)) (aG (aS bG)) aT) (aC (yC (pM hr) (pv 0) (pv 1) (cO cS (by rfl) B.list boot_list (aA (aR aZ (pv 3) aJ (fun _ _=>rfl)) aF)) rfl) (aG (aS (pv 1))))) aT) (aC (bC (aC9 (qQ (pM hr) (aR aZ (pv 3) aJ (fun _ _=>rfl)) (pv 0))) (aG (aS bG)) aT) (aC (bC (aP fL (aR aZ (pv 3) aJ (fun _ _=>rfl)) bG (aU _)) (aC (bE (uR (pv 0) (aR aZ (pv 3) aJ (fun _ _=>rfl)) ⟨rfl,rfl,rfl,rfl⟩)) (aG (aS bG))) aT) (aC (bC ((dW (aP mT (aR aZ (pv 3) aJ (fun _ _=>rfl)) aJ (aU _)) (dI (aP aB4 (aR aZ (pv 3) aJ (fun _ _=>rfl)) (pv 2) (aU _))))).pt (aG (aS bG)) aT) (aC (lX (aR aZ (pv 3) aJ (fun _ _=>rfl)) (lZ (oX (pM hr) (pv 0) (aR aZ (pv 3) aJ (fun _ _=>rfl)) (fun _ _=>rfl)) (aR aZ (pv 3) aJ (fun _ _=>rfl)) eV)) (aG (aS bG)))))),?_⟩;cases d with
   |come r=>
     obtain⟨a,hp,ha⟩:=DAp;refine⟨_,rfl,p,_,0,.str "come", rfl,rfl,SqT.of hp,rfl,rfl,_,rfl,iH ?_⟩;by_cases em:r.length=m
     . refine⟨_,rfl,p,_,1,.ref a,rfl,rfl,SqT.of hp,rfl,a,_,rfl,.inl (SqL.of ha),_,rfl,rfl,_,rfl,?_⟩;refine eE (fun z=>?_) (fun _=>?_)
       . have e9:V.int ((List.map aV r).length:Int)=V.int (m:Int):=by rw[List.length_map,em]
         rw[decide_eq_true e9] at z;cases z
       refine⟨_,rfl,p,_,1,.ref a,rfl,rfl,SqT.of hp,rfl,a,_,rfl,.inl (SqL.of ha),fun l hl=>?_⟩;have s2:Same H (upd H l (.lst (r.map aV))):=(Same.refl H).upd hl;have a2:(upd H l (.lst (r.map aV))) l=some (.lst (r.map aV)):=aB;generalize upd H l (.lst (r.map aV))=H2 at s2 a2;have b2:=b1.same s2;have hna:∀x∈R,x.2.1≠l:=fun x hx=>aH (b1.row x hx) hl;refine⟨_,rfl,_,rfl,td,_,rfl,aCr.k (k:=Sum.inl (g:Int)) b2.dic (by rw[zB];exact bR (by omega)),_,rfl,?_⟩;rw[rs1.new];have b3:=b2.push (g:=g) a2 hna;refine k (R++[(g,l,r)]) _ _ b3 ?_ ?_ ?_ (((s2.kept (ex:=td::R.map (·.2.1)))).upd (by simp)) fun x hx=>?_
       . rw[jC em];unfold flR;rw[List.map_append];rfl
       . rw[jC em];exact rs1.push l r
       . rw[jC em]
       . rcases List.mem_append.mp hx with z|z
         . exact .inl (List.mem_map_of_mem z)
         . rw[List.mem_singleton.mp z];exact .inr hl
     . refine⟨_,rfl,p,_,1,.ref a,rfl,rfl,SqT.of hp,rfl,a,_,rfl,.inl (SqL.of ha),_,rfl,rfl,_,rfl,?_⟩;refine eE (fun z=>?_) (fun z=>?_)
       . exact k R _ H b1 (by rw[kJ em]) (by rw[kJ em];exact rs1) (by rw[kJ em]) (bD.refl H) fun x hx=>.inl (List.mem_map_of_mem hx)
       . refine absurd ?_ z;have e9:¬ V.int ((List.map aV r).length:Int)=V.int (m:Int):=fun y=>by
           have:((List.map aV r).length:Int)=(m:Int):=V.int.inj y;rw[List.length_map] at this;exact em (by omega)
         rw[decide_eq_false e9];rfl
   |leave h=>
     have hp:H p=some (.tup [.str "leave", .int h]):=DAp;refine⟨_,rfl,p,_,0,.str "leave", rfl,rfl,SqT.of hp,rfl,rfl,_,rfl,cI ?_⟩;refine⟨_,rfl,p,_,1,.int h,rfl,rfl,SqT.of hp,rfl,_,rfl,td,_,rfl,pZ.k (k:=Sum.inl h) b1.dic,_,rfl,?_⟩;rw[aG0];cases e:kC (flR R) h with
     |false=>exact iH (k R _ H b1 (by rw[kG e]) (by rw[kG e];exact rs1) (by rw[kG e]) (bD.refl H) fun x hx=>.inl (List.mem_map_of_mem hx))
     |true=>
       obtain⟨x,hx,hxh,hf⟩:=jP e;refine cI ⟨_,rfl,p,_,0,.str "leave", rfl,rfl,SqT.of hp,rfl,rfl,_,rfl,iH ?_⟩;refine⟨_,rfl,td,rfl,.inl ⟨_,.inl b1.dic⟩,_,rfl,p,_,1,.int h,rfl,rfl,SqT.of hp,rfl,kvR R,Sum.inl h,V.ref x.2.1,b1.dic,rfl,by rw[aAk,hf];rfl,?_⟩;rw[zV];exact k (pO R h) _ _ (b1.drop h) (by rw[jA e];exact vC R h) (by rw[jA e];exact rs1.drop h) (by rw[jA e]) ((bD.refl H).upd (by simp)) fun y hy=>.inl (List.mem_map_of_mem (List.mem_filter.mp hy).1)
   |cost h t c=>
     have hp:H p=some (.tup [.str "cost", .int h,.int t,aV c]):=DAp;refine⟨_,rfl,p,_,0,.str "cost", rfl,rfl,SqT.of hp,rfl,rfl,_,rfl,cI ?_⟩;refine⟨_,rfl,p,_,1,.int h,rfl,rfl,SqT.of hp,rfl,_,rfl,td,_,rfl,pZ.k (k:=Sum.inl h) b1.dic,_,rfl,?_⟩;rw[aG0];cases e:kC (flR R) h with
     |false=>exact iH (k R _ H b1 (by rw[kI e]) (by rw[kI e];exact rs1) (by rw[kI e]) (bD.refl H) fun x hx=>.inl (List.mem_map_of_mem hx))
     |true=>
       obtain⟨x,hx,hxh,hf⟩:=jP e;refine cI ⟨_,rfl,p,_,0,.str "cost", rfl,rfl,SqT.of hp,rfl,rfl,_,rfl,cI ?_⟩;have no:¬ (0 <= t/\t<m)->Q (.str "no task") H:=fun e2=>k R _ H b1 (by rw[kH e e2]) (by rw[kH e e2];exact rs1) (by rw[kH e e2]) (bD.refl H) fun x hx=>.inl (List.mem_map_of_mem hx);refine⟨_,rfl,p,_,2,.int t,rfl,rfl,SqT.of hp,rfl,_,_,rfl,rfl,_,rfl,?_⟩;refine eE (fun z=>no ?_) (fun z=>?_)
       . have:=of_decide_eq_true z;omega
       refine⟨_,rfl,p,_,2,.int t,rfl,rfl,SqT.of hp,rfl,_,rfl,_,_,rfl,rfl,_,rfl,?_⟩;refine eE (fun z=>no ?_) (fun z2=>?_)
       . have:=of_decide_eq_true z;omega
       have t0:0 <= t:=by
         rcases Int.lt_or_le t 0 with y|y
         . exact absurd (decide_eq_true y) z
         . exact y
       have t1:t<m:=by
         rcases Int.lt_or_le t m with y|y
         . exact y
         . exact absurd (decide_eq_true y) z2
       have hxr:=b1.row x hx;have hxw:=hw x hx;refine⟨_,rfl,p,_,3,aV c,rfl,rfl,SqT.of hp,rfl,_,rfl,_,rfl,p,_,1,.int h,rfl,rfl,SqT.of hp,rfl,td,V.ref x.2.1,rfl,?_,_,rfl,p,_,2,.int t,rfl,rfl,SqT.of hp,rfl,x.2.1,_,t,t.toNat,rfl,rfl,hxr,zG t0 (by rw[List.length_map];omega),?_⟩
       . have:=pZ.k (k:=Sum.inl h) b1.dic;rw[aAk,hf] at this;exact this
       have e2:(x.2.2.map aV).set t.toNat (aV c)=(x.2.2.set t.toNat c).map aV:=by rw[List.map_set]
       rw[e2];subst hxh;refine k (setR R (x.1:Int) t.toNat c) _ _ (b1.cost rs1 hx t.toNat c) (by rw[jB e ⟨t0,t1⟩];exact zR R _ _ _) (by rw[jB e ⟨t0,t1⟩];exact rs1.set _ _ _) (by rw[jB e ⟨t0,t1⟩]) ((bD.refl H).upd (List.mem_cons_of_mem _ (List.mem_map_of_mem hx))) fun y hy=>?_;obtain⟨z,hz,rfl⟩:=List.mem_map.mp hy;refine .inl ?_;by_cases ez:(z.1:Int)=(x.1:Int)
       . rw[if_pos ez];exact List.mem_map.mpr ⟨z,hz,rfl⟩
       . rw[if_neg ez];exact List.mem_map_of_mem hz
   |deal=>exact absurd rfl hnd
end
section
variable{P:Program}{w:World}{K:W.Frag}{mg:Str->Option Value}{base:Heap}{TN:Addr}
abbrev NH:List Str:=["_law_found","_law_there","_law_many","_law_names","_law_rows","_law_tasks","_law_k","_law_pair","_law_places","_law_name"]
def fX:Sp:=fun vs H Q _=>∃(tp td:Addr)(R:FR)(m g:Nat),vs=[.ref tp,.ref td,.int (m:Int)]/\hZ H tp m (flR R)/\mO H td R/\dJ R g/\(∀x∈R,x.2.2.length=m)/\R.length <= 41/\m <= 40/\∀H',Same H H'->Q (.bl true) H'
theorem pB(B:Blt mg)(Gw:Has P w K mg base 1 "_law_whole" ["_law_found"] jD)(Ga:Has P w K mg base 3 "_law_answer_holds" ["_law_found","_law_many","_law_rows"] (qF K))(D:cE K mg "_law_deal_holds" eW ["_law_found","_law_there","_law_many"]): Has P w K mg base 4 "_law_deal_holds" ["_law_found","_law_there","_law_many"] fX:=by
 refine D.has bU (fun vs H Q E h=>?_) fun f cdv A outer s H vs Q E hr h=>?_
 . obtain⟨tp,td,R,m,g,rfl,_⟩:=h;rfl
 . obtain⟨tp,td,R,m,g,rfl,DA,b1,rs1,hw,hR,hm,k⟩:=h;refine⟨_,aC (aX (i:=3) bU.nd rfl (Or.inl rfl) (aM iT (by rfl) B.sorted hX (aA (cO (wR rfl) (by rfl) B.list boot_list (aA (pv 1) aF)) aF))) (aC (oQ (i:=4) (sc:=aI eW) (XN:=NH) (own:=["_law_name"]) (fr:=["_law_there"]) (js:=[1]) bU.nd rfl rfl rfl rfl rfl rfl (⟨rfl,by decide +kernel,by decide +kernel,by decide +kernel,rfl,by decide +kernel⟩) (cC (pv 3)) (fun _ _ _ _ _=>(bB (i:=0) (show List.Nodup (["_law_name","_law_there"]:List Str) by decide +kernel) rfl (Or.inl rfl))) (fun _ _ _ _ _=>fJ) (fun _ _ _ _ _=>(oX (pM hr) (pv 1) (pv 0) (fun _ _=>rfl)))) (aC (bC ((dW (cA (bP (aM bL (by rfl) B.isinstance boot_isinstance (aA (pv 0) (aA (fK (by rfl) B.tuple eR) aF))))) (dW (aP gZ (aM aO (by rfl) B.len boot_len (aA (pv 0) aF)) aJ (aU _)) (dI (cA (bP (aM bL (by rfl) B.isinstance boot_isinstance (aA (aR aZ (pv 0) aJ (fun _ _=>rfl)) (aA (fK (by rfl) B.str fU) aF))))))))).pt (aG (aS cP)) aT) (aC (bC (cA (bP (aM bL (by rfl) B.isinstance boot_isinstance (aA (aR aZ (pv 0) aJ (fun _ _=>rfl)) (aA (fK (by rfl) B.list boot_list) aF))))) (aG (aS cP)) aT) (aC (bC (aP fL (aR aZ (pv 0) aJ (fun _ _=>rfl)) bG (aU _)) (aC (aX (i:=5) bU.nd rfl (Or.inl rfl) (cF aF)) (aC (dM PassesOwn.never rfl (dE (by rfl) B.range (aA (aM aO (by rfl) B.len boot_len (aA (aR aZ (pv 0) aJ (fun _ _=>rfl)) aF)) aF)) (bB (i:=6) bU.nd rfl (Or.inl rfl)) (aC (aX (i:=7) bU.nd rfl (Or.inl rfl) (aR aQ (aR aZ (pv 0) aJ (fun _ _=>rfl)) (pv 6) (fun _ _=>rfl))) (aC (bC ((dW (cA (bP (aM bL (by rfl) B.isinstance boot_isinstance (aA (pv 7) (aA (fK (by rfl) B.tuple eR) aF))))) (dW (aP gZ (aM aO (by rfl) B.len boot_len (aA (pv 7) aF)) aJ (aU _)) (dI (aP aB4 (pv 6) (aM aO (by rfl) B.len boot_len (aA (pv 3) aF)) (aU _)))))).pt (aG (aS cP)) aT) (aC (bC ((dW (cA (bP (bX Gw (hr.mono (by decide)) (by rfl) (aA (aR aZ (pv 7) aJ (fun _ _=>rfl)) aF)))) (dI (aP gZ (aR aZ (pv 7) aJ (fun _ _=>rfl)) (aR aQ (pv 3) (pv 6) (fun _ _=>rfl)) (aU _))))).pt (aG (aS cP)) aT) (aG (bE (gX PySem.F.plainAttrs_list PySem.F.slot_list_append PySem.F.type_list_append cQ (pv 5) (aA (aR aZ (pv 7) aJ (fun _ _=>rfl)) aF)))))))) (aG (aS (bX Ga hr (by rfl) (aA (eY (aA bG (aA (pv 5) (aA (aR aZ (pv 0) aJ (fun _ _=>rfl)) aF)))) (aA (pv 2) (aA (pv 4) aF)))))))) aT) (aC (aX (i:=8) bU.nd rfl (Or.inl rfl) (cF aF)) (aC (dM PassesOwn.never rfl (cC (aR aZ (pv 0) aJ (fun _ _=>rfl))) (bB (i:=9) bU.nd rfl (Or.inl rfl)) (aC (bC ((dW (cA (bP (bX Gw (hr.mono (by decide)) (by rfl) (aA (pv 9) aF)))) (dI (aP gY (pv 9) (pv 3) (by with_unfolding_all rfl))))).pt (aG (aS cP)) aT) (aG (bE (gX PySem.F.plainAttrs_list PySem.F.slot_list_append PySem.F.type_list_append cQ (pv 8) (aA (gX PySem.F.plainAttrs_list PySem.F.slot_list_index PySem.F.type_list_index aBd (pv 3) (aA (pv 9) aF)) aF)))))) (aG (aS (bX Ga hr (by rfl) (aA (eY (aA (aR aZ (pv 0) aJ (fun _ _=>rfl)) (aA (pv 8) (aA (aR aZ (pv 0) aJ (fun _ _=>rfl)) aF)))) (aA (pv 2) (aA (pv 4) aF)))))))))))),?_⟩;have lenR:(flR R).length=R.length:=by unfold flR;rw[List.length_map]
   have lenN:(dR R).length=R.length:=by unfold dR;rw[List.length_map]
   have lenT:((flR R).map (·.2)).length=R.length:=by rw[List.length_map,lenR]
   have ek:(kvR R).map (fun kv=>kV kv.1)=(dR R).map V.int:=by unfold kvR dR;rw[List.map_map,List.map_map];rfl
   refine⟨_,rfl,td,kvR R,rfl,b1.dic,fun l0 hl0=>?_⟩;rw[ek];have hl0':H l0=none:=hl0;have s0:Same H (upd H l0 (.lst ((dR R).map V.int))):=(Same.refl H).upd hl0';have a0:(upd H l0 (.lst ((dR R).map V.int))) l0=some (.lst ((dR R).map V.int)):=aB;generalize upd H l0 (.lst ((dR R).map V.int))=H0 at s0 a0;refine⟨l0,dR R,rfl,SqL.of a0,by omega,fun na ns' hna p1 p2=>?_⟩;obtain rfl:=qG rs1.nums p1 p2;have s1:Same H (upd H0 na (.lst ((dR R).map V.int))):=s0.upd hna;have a1:(upd H0 na (.lst ((dR R).map V.int))) na=some (.lst ((dR R).map V.int)):=aB;generalize upd H0 na (.lst ((dR R).map V.int))=H1 at s1 a1;refine⟨_,rfl,na,rfl,⟨_,SqL.of a1⟩,?_⟩;refine eO (K:=K) (xs:=(dR R).map V.int) (fun i=>(R[i]?).map fun x=>V.ref x.2.1) (SqL.of a1) (by rw[List.length_map];omega) ?hd ?hs
   case hs=>
     intro i ys H2 x N hx sm2 hN;have hi:i<R.length:=by
       have:=(List.getElem?_eq_some_iff.mp hx).1;rw[List.length_map] at this;omega
     have hRi:R[i]?=some R[i]:=List.getElem?_eq_getElem hi;have hx':x=.int (R[i].1:Int):=by
       unfold dR at hx;rw[List.getElem?_map,List.getElem?_map,hRi] at hx;exact(Option.some.inj hx).symm
     subst hx';have s2:=s1.trans sm2;refine⟨_,rfl,_,rfl,td,V.ref R[i].2.1,rfl,?_,?_⟩
     . have:=pZ.k (k:=Sum.inl (R[i].1:Int)) (s2 _ _ b1.dic);rw[aAk,zS rs1 hRi] at this;exact this
     . have:=hN H2 sm2;rw[hRi] at this;exact this
   intro H2 sm2 ra hra;have er:(List.range ((dR R).map V.int).length).filterMap (fun i=>(R[i]?).map fun x=>V.ref x.2.1)=(R.map (·.2.1)).map V.ref:=by
     rw[List.length_map,lenN,List.map_map];exact oN R fun x=>V.ref x.2.1
   rw[er];have e3:Same H2 (upd H2 ra (.lst ((R.map (·.2.1)).map V.ref))):=(Same.refl H2).upd hra;have a3:(upd H2 ra (.lst ((R.map (·.2.1)).map V.ref))) ra=some (.lst ((R.map (·.2.1)).map V.ref)):=aB;generalize upd H2 ra (.lst ((R.map (·.2.1)).map V.ref))=H3 at e3 a3;have s13:=sm2.trans e3;have s3:=s1.trans s13;have n3:=s13 _ _ a1;have tabAt:∀H4,Same H3 H4->mX K H4 ra ((flR R).map (·.2)):=fun H4 s34=>by
     refine⟨R.map (·.2.1),SqL.of (s34 _ _ a3),by rw[List.length_map,lenT],fun i a r z1 z2=>?_⟩;rw[List.getElem?_map] at z1;cases q:R[i]? with
     |none=>rw[q] at z1;cases z1
     |some x=>
       rw[q] at z1;cases z1;unfold flR at z2;rw[List.getElem?_map,List.getElem?_map,q] at z2;cases z2;exact SqL.of (s34 _ _ (s3 _ _ (b1.row x (List.mem_of_getElem? q))))
   have wide:rW (m:Int) ((flR R).map (·.2)):=fun i r e=>by
     unfold flR at e;rw[List.map_map] at e;obtain⟨x,hx,rfl⟩:=List.mem_map.mp (List.mem_of_getElem? e);have:=hw x hx;show(x.2.2.length:Int)=m;omega
   obtain⟨l1,l2,vs,hl2,hh⟩:=DA;rcases hh with⟨us,ts,htp,hl1,htl,hts,L⟩|⟨hs,htp,hl1,S⟩
   . refine⟨_,rfl,_,_,_,true,rfl,.tup (s3 _ _ htp),by rfl,_,rfl,cI ?_⟩;refine⟨_,rfl,tp,_,rfl,.inr (SqT.of (s3 _ _ htp)),rfl,_,rfl,cI ?_⟩;refine⟨_,rfl,tp,_,_,.str "dealt", rfl,rfl,SqT.of (s3 _ _ htp),rfl,_,_,_,true,rfl,.str _,by rfl,_,rfl,cI ?_⟩;refine⟨_,rfl,tp,_,_,.ref l1,rfl,rfl,SqT.of (s3 _ _ htp),rfl,_,_,_,true,rfl,.lst (s3 _ _ hl1),by rfl,_,rfl,cI ?_⟩;refine⟨_,rfl,tp,_,_,.str "dealt", rfl,rfl,SqT.of (s3 _ _ htp),rfl,rfl,_,rfl,iH ?_⟩;refine⟨by decide,fun tl htl3=>?_⟩;have s4:Same H3 (upd H3 tl (.lst [])):=(Same.refl H3).upd htl3;have a4:(upd H3 tl (.lst [])) tl=some (.lst (([]:List Int).map V.int)):=aB;generalize upd H3 tl (.lst [])=H4 at s4 a4;refine⟨_,rfl,tp,_,_,.ref l1,rfl,rfl,SqT.of (s4 _ _ (s3 _ _ htp)),rfl,l1,_,rfl,.inl (SqL.of (s4 _ _ (s3 _ _ hl1))),_,rfl,by omega,by rw[List.length_map];omega,?_⟩;rw[List.length_map,htl,lenR];have hus:us.length=R.length:=by rw[<- lenT];exact L.1.1
     refine dF (fun i σ H5=>∃(v6 v7:Option V),σ=[some (.ref tp),some (.ref td),some (.int (m:Int)),some (.ref na),some (.ref ra),some (.ref tl),v6,v7,none,none]/\Same H3 H5/\H5 tl=some (.lst ((us.take i).map V.int))) ⟨none,none,rfl,s4,a4⟩ ?_ ?_
     . rintro i σ H5 hi ⟨v6,v7,rfl,s5,a5⟩;have hi':i<R.length:=hi;have s35:=s3.trans s5;have hti:ts[i]?=some (ts[i]'(by omega)):=List.getElem?_eq_getElem _;generalize ts[i]'(by omega)=t at hti;have hui:us[i]?=some (us[i]'(by omega)):=List.getElem?_eq_getElem _;generalize us[i]'(by omega)=u at hui;have hRi:R[i]?=some R[i]:=List.getElem?_eq_getElem hi';have hFi:(flR R)[i]?=some (R[i].1,R[i].2.2):=by unfold flR;rw[List.getElem?_map,hRi];rfl
       have ht:=s35 _ _ (hts i t _ u hti hFi hui);have e0:(0:Int)+(i:Int)=(i:Int):=by omega
       have hat:atI (ts.map V.ref) ((0:Int)+(i:Int))=some (.ref t):=by
         rw[e0];exact dA (by rw[List.getElem?_map,hti];rfl)
       have hnat:atI ((dR R).map V.int) ((0:Int)+(i:Int))=some (.int (R[i].1:Int)):=by
         rw[e0];refine dA ?_;unfold dR;rw[List.getElem?_map,List.getElem?_map,hRi];rfl
       refine⟨_,rfl,tp,_,_,.ref l1,rfl,rfl,SqT.of (s35 _ _ htp),rfl,_,rfl,l1,_,_,.ref t,rfl,rfl,SqL.of (s35 _ _ hl1),hat,?_⟩;refine⟨_,rfl,_,_,_,true,rfl,.tup ht,by rfl,_,rfl,cI ?_⟩;refine⟨_,rfl,t,_,rfl,.inr (SqT.of ht),rfl,_,rfl,cI ?_⟩;refine⟨_,rfl,_,rfl,na,_,rfl,.inl (SqL.of (s5 _ _ n3)),_,_,rfl,rfl,_,rfl,?_⟩;refine eE (fun z=>?_) (fun _=>?_)
       . have:=of_decide_eq_true z;rw[List.length_map,lenN] at this;omega
       refine⟨_,rfl,t,_,_,.int (R[i].1:Int),rfl,rfl,SqT.of ht,rfl,some (R[i].1:Int),rfl,_,rfl,cI ?_⟩;refine⟨_,rfl,t,_,_,.int (R[i].1:Int),rfl,rfl,SqT.of ht,rfl,_,rfl,_,rfl,na,_,_,.int (R[i].1:Int),rfl,rfl,SqL.of (s5 _ _ n3),hnat,rfl,_,rfl,?_⟩;refine eE (fun z=>?_) (fun _=>?_)
       . rw[decide_eq_true (rfl:V.int (R[i].1:Int)=V.int (R[i].1:Int))] at z;cases z
       refine⟨_,rfl,.inl ⟨rfl,_,SqL.of a5⟩,_,rfl,t,_,_,.int u,rfl,rfl,SqT.of ht,rfl,tl,_,_,rfl,rfl,a5,?_,_,_,rfl,s5.put htl3,?_⟩
       . rw[List.length_map,List.length_take];exact bR (by omega)
       . rw[aB,List.take_add_one,hui,pV];rfl
     . rintro σ H5 ⟨v6,v7,rfl,s5,a5⟩;rw[List.take_of_length_le (by omega)] at a5;have s35:=s3.trans s5;refine⟨_,rfl,_,rfl,tp,_,_,.ref l2,rfl,rfl,SqT.of (s35 _ _ htp),rfl,by show 3 <= sizeLine;decide,fun q hq=>?_⟩;have s6:Same H5 (upd H5 q (.tup [.str "dealt", .ref tl,.ref l2])):=(Same.refl H5).upd hq;refine⟨_,rfl,_,rfl,q,ra,m,(flR R).map (·.2),rfl,⟨tl,l2,us,vs,s6 _ _ a5,s6 _ _ (s35 _ _ hl2),.inl ⟨aB,L⟩⟩,tabAt _ (s5.trans s6),wide,hm,by rw[lenT];omega,fun H' sm=>k H' ((s35.trans s6).trans sm)⟩
   . have hsT:∀h∈hs,0 <= h/\h.toNat<R.length:=fun h hh=>by
       obtain⟨j,hj,rfl⟩:=List.mem_iff_getElem.mp hh;have e:=S.1 j _ (List.getElem?_eq_getElem hj);have lo:=S.1.lo j _ (List.getElem?_eq_getElem hj);rw[lenT] at e;exact⟨lo,by omega⟩
     have hnum:((flR R).map fun x=>(x.1:Int))=dR R:=(yR R).symm;rw[hnum] at hl1;generalize hnames:(hs.map fun h=>(dR R).getD h.toNat 0)=names at hl1;refine⟨_,rfl,_,_,_,true,rfl,.tup (s3 _ _ htp),by rfl,_,rfl,cI ?_⟩;refine⟨_,rfl,tp,_,rfl,.inr (SqT.of (s3 _ _ htp)),rfl,_,rfl,cI ?_⟩;refine⟨_,rfl,tp,_,_,.str "short", rfl,rfl,SqT.of (s3 _ _ htp),rfl,_,_,_,true,rfl,.str _,by rfl,_,rfl,cI ?_⟩;refine⟨_,rfl,tp,_,_,.ref l1,rfl,rfl,SqT.of (s3 _ _ htp),rfl,_,_,_,true,rfl,.lst (s3 _ _ hl1),by rfl,_,rfl,cI ?_⟩;refine⟨_,rfl,tp,_,_,.str "short", rfl,rfl,SqT.of (s3 _ _ htp),rfl,rfl,_,rfl,cI ?_⟩;refine⟨by decide,fun tl htl3=>?_⟩;have s4:Same H3 (upd H3 tl (.lst [])):=(Same.refl H3).upd htl3;have a4:(upd H3 tl (.lst [])) tl=some (.lst (([]:List Int).map V.int)):=aB;generalize upd H3 tl (.lst [])=H4 at s4 a4;refine⟨_,rfl,tp,_,_,.ref l1,rfl,rfl,SqT.of (s4 _ _ (s3 _ _ htp)),rfl,l1,rfl,⟨_,SqL.of (s4 _ _ (s3 _ _ hl1))⟩,?_⟩;have hlen:names.length=hs.length:=by rw[<- hnames,List.length_map]
     have hsl:hs.length <= R.length:=by have:=lU S.1;rw[lenT] at this;omega
     refine fA (K:=K) (a:=l1) (xs:=names.map V.int) (fun i σ H5=>∃(v9:Option V),σ=[some (.ref tp),some (.ref td),some (.int (m:Int)),some (.ref na),some (.ref ra),none,none,none,some (.ref tl),v9]/\Same H3 H5/\H5 tl=some (.lst ((hs.take i).map V.int))) ⟨none,rfl,s4,a4⟩ (fun i σ H5 _ ⟨_,_,z,_⟩=>SqL.of (z _ _ (s3 _ _ hl1))) ?_ ?_
     . rintro i x σ H5 hi ⟨v9,rfl,s5,a5⟩;obtain⟨n,hn,rfl⟩:=kE hi;have hin:i<hs.length:=by have:=gK hn;omega
       have hhi:hs[i]?=some hs[i]:=List.getElem?_eq_getElem hin;have hmem:hs[i]∈hs:=List.getElem_mem hin;generalize hs[i]=h at hhi hmem;obtain⟨h0,hhR⟩:=hsT h hmem;have en:(dR R)[h.toNat]?=some n:=by
         rw[<- hnames,List.getElem?_map,hhi] at hn;have:(dR R).getD h.toNat 0=n:=Option.some.inj hn;rw[List.getD,List.getElem?_eq_getElem (by omega)] at this;rw[List.getElem?_eq_getElem (by omega)];exact congrArg some this
       have s35:=s3.trans s5;refine⟨_,rfl,some n,rfl,_,rfl,cI ?_⟩;refine⟨_,rfl,_,rfl,na,_,rfl,.inl (SqL.of (s5 _ _ n3)),rfl,?_,_,rfl,?_⟩
       . rw[List.all_eq_true];intro v hv;obtain⟨y,_,rfl⟩:=List.mem_map.mp hv;rfl
       rw[sZ,decide_eq_true (List.mem_of_getElem? en)];refine cI ?_;refine⟨_,rfl,.inl ⟨rfl,_,SqL.of a5⟩,_,rfl,.inl ⟨rfl,_,SqL.of (s5 _ _ n3)⟩,_,rfl,na,dR R,n,h.toNat,rfl,rfl,s5 _ _ n3,en,fun j hj ej=>?_,tl,_,_,rfl,rfl,a5,?_,_,rfl,s5.put htl3,?_⟩
       . have o1:j<(dR R).length:=by omega
         have o2:h.toNat<(dR R).length:=by omega
         have:=List.pairwise_iff_getElem.mp rs1.nums j h.toNat o1 o2 hj;rw[List.getElem?_eq_getElem o1] at ej;rw[List.getElem?_eq_getElem o2] at en;rw[Option.some.inj ej,Option.some.inj en] at this;exact absurd this (Int.lt_irrefl _)
       . rw[List.length_map,List.length_take];exact bR (by omega)
       . rw[aB,List.take_add_one,hhi,Int.toNat_of_nonneg h0,pV];rfl
     . rintro σ H5 ⟨v9,rfl,s5,a5⟩;rw[List.length_map,List.take_of_length_le (by omega)] at a5;have s35:=s3.trans s5;refine⟨_,rfl,tp,_,_,.str "short", rfl,rfl,SqT.of (s35 _ _ htp),rfl,_,rfl,_,rfl,tp,_,_,.ref l2,rfl,rfl,SqT.of (s35 _ _ htp),rfl,by show 3 <= sizeLine;decide,fun q hq=>?_⟩;have s6:Same H5 (upd H5 q (.tup [.str "short", .ref tl,.ref l2])):=(Same.refl H5).upd hq;refine⟨_,rfl,_,rfl,q,ra,m,(flR R).map (·.2),rfl,⟨tl,l2,hs,vs,s6 _ _ a5,s6 _ _ (s35 _ _ hl2),.inr ⟨aB,S⟩⟩,tabAt _ (s5.trans s6),wide,hm,by rw[lenT];omega,fun H' sm=>k H' ((s35.trans s6).trans sm)⟩
end
def tT(x:V):Prop:=(∃n,x=.int n)\/(∃z,x=.str z)\/x=.non
def dP(H:Hp):Nat->V->V->Prop
 |0,x,y=>x=y/\tT x
 |k+1,x,y=>(x=y/\tT x)\/∃(a b:Addr)(us vs:List V),x=.ref a/\y=.ref b/\((H a=some (.lst us)/\H b=some (.lst vs))\/(H a=some (.tup us)/\H b=some (.tup vs)))/\us.length=vs.length/\us.length <= 100 /\
     ∀(i:Nat)u v,us[i]?=some u->vs[i]?=some v->dP H k u v
theorem dP.flat{H:Hp}{x:V}(h:tT x):∀k,dP H k x x
 |0=>⟨rfl,h⟩
 |k+1=>.inl ⟨rfl,h⟩
theorem dP.split{H:Hp}{k:Nat}{x y:V}(h:dP H k x y):(x=y/\tT x)\/∃(k':Nat)(a b:Addr)(us vs:List V),k=k'+1/\x=.ref a/\y=.ref b/\((H a=some (.lst us)/\H b=some (.lst vs))\/(H a=some (.tup us)/\H b=some (.tup vs)))/\us.length=vs.length/\us.length <= 100 /\ ∀(i:Nat)u v,us[i]?=some u->vs[i]?=some v->dP H k' u v:=by
 cases k with
 |zero=>exact .inl h
 |succ k=>
   rcases h with h|⟨a,b,us,vs,h⟩
   . exact .inl h
   . exact .inr ⟨k,a,b,us,vs,rfl,h⟩
inductive Stk (H:Hp):Nat->List V->List V->Prop
 |nil:Stk H 0 [] []
 |snoc {n k:Nat} {xs ys:List V} {x y:V} (h:Stk H n xs ys) (e:dP H k x y):Stk H (n+101 ^ k) (xs++[x]) (ys++[y])
theorem Stk.len{H:Hp}{n:Nat}{xs ys:List V}(h:Stk H n xs ys):xs.length=ys.length/\xs.length <= n:=by
 induction h with
 |nil=>exact⟨rfl,Nat.le_refl _⟩
 |snoc h e ih=>
   rename_i n k xs ys x y;have:0<101 ^ k:=Nat.pow_pos (by decide);rw[List.length_append,List.length_append];exact⟨by rw[ih.1];rfl,by show xs.length+1 <= _;omega⟩
theorem Stk.ext{H:Hp}{k:Nat}:∀(us vs:List V){n:Nat}{xs ys:List V},Stk H n xs ys->us.length=vs.length->(∀(i:Nat)u v,us[i]?=some u->vs[i]?=some v->dP H k u v)->∃n',n' <= n+us.length*101 ^ k/\Stk H n' (xs++us) (ys++vs)
 |[],[],n,xs,ys,h,_,_=>⟨n,by simp,by rw[List.append_nil,List.append_nil];exact h⟩
 |u::us,v::vs,n,xs,ys,h,hl,hj=>by
   have e:=hj 0 u v rfl rfl;obtain⟨n',h1,h2⟩:=Stk.ext us vs (h.snoc e) (by simpa using hl) fun i a b e1 e2=>hj (i+1) a b (by simpa using e1) (by simpa using e2);refine⟨n',?_,by rw[List.append_assoc,List.append_assoc] at h2;exact h2⟩;rw[List.length_cons,Nat.succ_mul];omega
 |[],v::vs,_,_,_,_,hl,_=>(nomatch hl)
 |u::us,[],_,_,_,_,hl,_=>(nomatch hl)
theorem uZ{xs:List V}{x:V}:(xs++[x])[(xs++[x]).length - 1]?=some x:=by
 rw[List.length_append];show _[xs.length+1 - 1]?=_;rw[Nat.add_sub_cancel,List.getElem?_append_right (Nat.le_refl _),Nat.sub_self];rfl
section
variable{P:Program}{w:World}{K:W.Frag}{mg:Str->Option Value}{base:Heap}{TN:Addr}
def xJ:Sp:=fun vs H Q _=>∃(x y:V)(k:Nat),vs=[x,y]/\dP H k x y/\k <= 3/\∀H',Same H H'->Q (.bl true) H'
theorem aDl(B:Blt mg)(D:cE K mg "_law_like" xV ["_law_found","_law_due"]):Has P w K mg base 1 "_law_like" ["_law_found","_law_due"] xJ:=by
 refine D.has lN (fun vs H Q E h=>?_) fun f cdv A outer s H vs Q E hr h=>?_
 . obtain⟨x,y,k,rfl,_⟩:=h;rfl
 . obtain⟨x,y,kk,rfl,hxy,hk3,k⟩:=h;refine⟨_,aC (aX (i:=2) lN.nd rfl (Or.inl rfl) (cF (aA (pv 0) aF))) (aC (aX (i:=3) lN.nd rfl (Or.inl rfl) (cF (aA (pv 1) aF))) (aC (oO PassesOwn.never (aP (qS hr.units0) (pv 3) (cF aF) (aU _)) (aC (aX (i:=4) lN.nd rfl (Or.inl rfl) (aCe PySem.F.plainAttrs_list PySem.F.slot_list_pop PySem.F.type_list_pop aCg (pv 2))) (aC (aX (i:=5) lN.nd rfl (Or.inl rfl) (aCe PySem.F.plainAttrs_list PySem.F.slot_list_pop PySem.F.type_list_pop aCg (pv 3))) (aG (bC (bP (aM bL (by rfl) B.isinstance boot_isinstance (aA (pv 5) (aA (fK (by rfl) B.list boot_list) aF)))) (aC (bC ((dW (cA (bP (aM bL (by rfl) B.isinstance boot_isinstance (aA (pv 4) (aA (fK (by rfl) B.list boot_list) aF))))) (dI (aP gZ (aM aO (by rfl) B.len boot_len (aA (pv 4) aF)) (aM aO (by rfl) B.len boot_len (aA (pv 5) aF)) (aU _))))).pt (aG (aS cP)) aT) (aC (bE (gX PySem.F.plainAttrs_list PySem.F.slot_list_extend PySem.F.type_list_extend jM (pv 2) (aA (pv 4) aF))) (aG (bE (gX PySem.F.plainAttrs_list PySem.F.slot_list_extend PySem.F.type_list_extend jM (pv 3) (aA (pv 5) aF)))))) (aG (bC (bP (aM bL (by rfl) B.isinstance boot_isinstance (aA (pv 5) (aA (fK (by rfl) B.tuple eR) aF)))) (aC (bC ((dW (cA (bP (aM bL (by rfl) B.isinstance boot_isinstance (aA (pv 4) (aA (fK (by rfl) B.tuple eR) aF))))) (dI (aP gZ (aM aO (by rfl) B.len boot_len (aA (pv 4) aF)) (aM aO (by rfl) B.len boot_len (aA (pv 5) aF)) (aU _))))).pt (aG (aS cP)) aT) (aC (bE (gX PySem.F.plainAttrs_list PySem.F.slot_list_extend PySem.F.type_list_extend jM (pv 2) (aA (cO cS (by rfl) B.list boot_list (aA (pv 4) aF)) aF))) (aG (bE (gX PySem.F.plainAttrs_list PySem.F.slot_list_extend PySem.F.type_list_extend jM (pv 3) (aA (cO cS (by rfl) B.list boot_list (aA (pv 5) aF)) aF)))))) (aG (bC (bP (aM bL (by rfl) B.isinstance boot_isinstance (aA (pv 5) (aA (fK (by rfl) B.str fU) aF)))) (aG (bC ((dW (cA (bP (aM bL (by rfl) B.isinstance boot_isinstance (aA (pv 4) (aA (fK (by rfl) B.str fU) aF))))) (dI (aP gZ (pv 4) (pv 5) (aU _))))).pt (aG (aS cP)) aT)) (aG (bC (aP nH (pv 5) bW (aU _)) (aG (bC (aP eA (pv 4) bW (aU _)) (aG (aS cP)) aT)) (aG (bC ((dW (cA (bP (aM bL (by rfl) B.isinstance boot_isinstance (aA (pv 4) (aA (fK (by rfl) B.int boot_int) aF))))) (dI (aP gZ (aM bL (by rfl) B.isinstance boot_isinstance (aA (pv 4) (aA (fK (by rfl) B.bool boot_bool) aF))) (aM bL (by rfl) B.isinstance boot_isinstance (aA (pv 5) (aA (fK (by rfl) B.bool boot_bool) aF))) (aU _))))).pt (aG (aS cP)) (aG (bC (aP gZ (pv 4) (pv 5) (aU _)) (aG (aS cP)) aT))))))))))))))) (aG (aS cP)))),?_⟩;refine⟨_,rfl,by show 1 <= sizeLine;decide,fun g hg=>?_⟩;refine⟨_,rfl,by show 1 <= sizeLine;decide,fun d hd=>?_⟩;have hgd:g≠d:=fun e=>by rw[<- e,aB] at hd;cases hd
   have hdn:H d=none:=by rw[aE (Ne.symm hgd)] at hd;exact hd
   have s1:Same H (upd (upd H g (.lst [x])) d (.lst [y])):=((Same.refl H).upd hg).upd hd;have g1:(upd (upd H g (.lst [x])) d (.lst [y])) g=some (.lst [x]):=(aE hgd).trans aB;have d1:(upd (upd H g (.lst [x])) d (.lst [y])) d=some (.lst [y]):=aB;generalize upd (upd H g (.lst [x])) d (.lst [y])=H1 at s1 g1 d1;have hp3:101 ^ kk <= 101 ^ 3:=Nat.pow_le_pow_right (by decide) hk3;refine⟨fun n σ H2=>∃(v4 v5:Option V)(xs ys:List V),σ=[some x,some y,some (.ref g),some (.ref d),v4,v5]/\Same H H2/\H2 g=some (.lst xs)/\H2 d=some (.lst ys)/\Stk H n xs ys/\n <= 101 ^ 3,⟨0+101 ^ kk,none,none,_,_,rfl,s1,g1,d1,Stk.nil.snoc hxy,by omega⟩,?_⟩;rintro n σ H2 ⟨v4,v5,xs,ys,rfl,s2,g2,d2,hst,hn⟩;refine⟨_,rfl,by decide,fun z hz=>?_⟩;have hzg:z≠g:=fun e=>by rw[e,g2] at hz;cases hz
   have hzd:z≠d:=fun e=>by rw[e,d2] at hz;cases hz
   have s3:=s2.upd hz (o:=HO.lst []);have g3:(upd H2 z (.lst [])) g=_:=(aE (Ne.symm hzg)).trans g2;have d3:(upd H2 z (.lst [])) d=_:=(aE (Ne.symm hzd)).trans d2;have z3:(upd H2 z (.lst [])) z=some (.lst []):=aB;generalize upd H2 z (.lst [])=H3 at s3 g3 d3 z3;refine⟨d,z,ys,rfl,rfl,SqL.of d3,SqL.of z3,_,rfl,?_⟩;have pops:∀xs' ys':List V,∃H5,H5=upd (upd H3 g (.lst xs')) d (.lst ys')/\Same H H5/\H5 g=some (.lst xs')/\H5 d=some (.lst ys'):=fun xs' ys'=>
     ⟨_,rfl,(s3.put hg).put hdn,(aE hgd).trans aB,aB⟩
   cases hst with
   |nil=>exact cI (k _ s3)
   |snoc hst e=>
     rename_i n kq xs ys p q;have hem:(ys++[q]).isEmpty=false:=by cases ys <;> rfl
     rw[hem];refine iH ⟨fun σ' H'=>∃m',m'<n+101 ^ kq/\∃(v4 v5:Option V)(xs ys:List V),σ'=[some x,some y,some (.ref g),some (.ref d),v4,v5]/\Same H H'/\H' g=some (.lst xs)/\H' d=some (.lst ys)/\Stk H m' xs ys/\m' <= 101 ^ 3,fun σ' H' h=>h,?_⟩;obtain⟨H5,e5,s5,g5,d5⟩:=pops xs ys;refine⟨_,rfl,.inl ⟨rfl,_,SqL.of g3⟩,g,_,p,rfl,rfl,g3,uZ,?_⟩;rw[List.dropLast_concat];refine⟨_,rfl,.inl ⟨rfl,_,SqL.of ((aE (Ne.symm hgd)).trans d3)⟩,d,_,q,rfl,rfl,(aE (Ne.symm hgd)).trans d3,uZ,?_⟩;rw[List.dropLast_concat,<- e5];have hpos:0<101 ^ kq:=Nat.pow_pos (by decide);have done:∀(v4 v5:Option V),∃m',m'<n+101 ^ kq/\∃(v4' v5':Option V)(xs ys:List V),[some x,some y,some (.ref g),some (.ref d),v4,v5]=[some x,some y,some (.ref g),some (.ref d),v4',v5']/\Same H H5/\H5 g=some (.lst xs)/\H5 d=some (.lst ys)/\Stk H m' xs ys/\m' <= 101 ^ 3:= fun v4 v5=>⟨n,by omega,_,_,_,_,rfl,s5,g5,d5,hst,by omega⟩;have nz:∀{c:Bool}{A B:Prop},c=true->B->(if(!c)=true then A else B):=fun hc hb=>by subst hc;exact cI hb
     rcases e.split with⟨rfl,hf⟩|⟨kp,a,b,us,vs,rfl,rfl,rfl,hab,hl,hu,hj⟩
     . rcases hf with⟨i,rfl⟩|⟨t,rfl⟩|rfl
       . refine⟨_,rfl,_,_,_,false,rfl,.int i,by rfl,_,rfl,cI ?_⟩;refine⟨_,rfl,_,_,_,false,rfl,.int i,by rfl,_,rfl,cI ?_⟩;refine⟨_,rfl,_,_,_,false,rfl,.int i,by rfl,_,rfl,cI ?_⟩;refine⟨_,rfl,rfl,_,rfl,cI ?_⟩;refine⟨_,rfl,_,_,_,true,rfl,.int i,by rfl,_,rfl,cI ?_⟩;refine⟨_,rfl,_,_,_,false,rfl,.int i,by rfl,_,rfl,_,_,_,false,rfl,.int i,by rfl,rfl,_,rfl,cI ?_⟩;refine⟨_,rfl,_,rfl,rfl,_,rfl,?_⟩;exact nz (decide_eq_true rfl) (done _ _)
       . refine⟨_,rfl,_,_,_,false,rfl,.str t,by rfl,_,rfl,cI ?_⟩;refine⟨_,rfl,_,_,_,false,rfl,.str t,by rfl,_,rfl,cI ?_⟩;refine⟨_,rfl,_,_,_,true,rfl,.str t,by rfl,_,rfl,iH ?_⟩;refine⟨_,rfl,_,_,_,true,rfl,.str t,by rfl,_,rfl,cI ?_⟩;refine⟨_,rfl,_,rfl,rfl,_,rfl,?_⟩;exact nz (decide_eq_true rfl) (done _ _)
       . refine⟨_,rfl,_,_,_,false,rfl,.non,by rfl,_,rfl,cI ?_⟩;refine⟨_,rfl,_,_,_,false,rfl,.non,by rfl,_,rfl,cI ?_⟩;refine⟨_,rfl,_,_,_,false,rfl,.non,by rfl,_,rfl,cI ?_⟩;refine⟨_,rfl,rfl,_,rfl,iH ?_⟩;refine⟨_,rfl,rfl,_,rfl,cI ?_⟩;exact done _ _
     . have lens:=hst.len;have e101:101 ^ (kp+1)=101 ^ kp*101:=Nat.pow_succ ..;have hmul:us.length*101 ^ kp <= 100*101 ^ kp:=Nat.mul_le_mul_right _ hu;have hpos2:0<101 ^ kp:=Nat.pow_pos (by decide);have n3:(101:Nat) ^ 3=1030301:=by decide
       have szl:1030301+101 <= sizeLine:=by decide
       obtain⟨n',hn',hst'⟩:=Stk.ext us vs hst hl hj;have sz1:xs.length+us.length <= sizeLine:=by have:=lens.2;omega
       have sz2:ys.length+vs.length <= sizeLine:=by have:=lens.1;have:=lens.2;omega
       rcases hab with⟨ha,hb⟩|⟨ha,hb⟩
       . have ha5:=s5 _ _ ha;have hb5:=s5 _ _ hb;have hga:a≠g:=fun e=>by rw[e,hg] at ha;cases ha
         have hgb:b≠g:=fun e=>by rw[e,hg] at hb;cases hb
         refine⟨_,rfl,_,_,_,true,rfl,.lst hb5,by rfl,_,rfl,iH ?_⟩;refine⟨_,rfl,_,_,_,true,rfl,.lst ha5,by rfl,_,rfl,cI ?_⟩;refine⟨_,rfl,a,_,rfl,.inl (SqL.of ha5),_,rfl,b,_,rfl,.inl (SqL.of hb5),rfl,_,rfl,?_⟩;refine nz (decide_eq_true (by rw[hl])) ?_;refine⟨_,rfl,.inl ⟨rfl,_,SqL.of g5⟩,_,rfl,g,a,_,_,rfl,rfl,g5,ha5,sz1,?_⟩;refine⟨_,rfl,.inl ⟨rfl,_,SqL.of ((aE (Ne.symm hgd)).trans d5)⟩,_,rfl,d,b,_,_,rfl,rfl,(aE (Ne.symm hgd)).trans d5,(aE hgb).trans hb5,sz2,?_⟩;exact⟨n',by omega,_,_,_,_,rfl,(s5.put hg).put hdn,(aE hgd).trans aB,aB,hst',by omega⟩
       . have ha5:=s5 _ _ ha;have hb5:=s5 _ _ hb;refine⟨_,rfl,_,_,_,false,rfl,.tup hb5,by rfl,_,rfl,cI ?_⟩;refine⟨_,rfl,_,_,_,true,rfl,.tup hb5,by rfl,_,rfl,iH ?_⟩;refine⟨_,rfl,_,_,_,true,rfl,.tup ha5,by rfl,_,rfl,cI ?_⟩;refine⟨_,rfl,a,_,rfl,.inr (SqT.of ha5),_,rfl,b,_,rfl,.inr (SqT.of hb5),rfl,_,rfl,?_⟩;refine nz (decide_eq_true (by rw[hl])) ?_;refine⟨_,rfl,.inl ⟨rfl,_,SqL.of g5⟩,_,rfl,a,_,rfl,.inr (SqT.of ha5),fun c hc=>?_⟩;have hcg:c≠g:=fun e=>by rw[e,g5] at hc;cases hc
         have hcd:c≠d:=fun e=>by rw[e,d5] at hc;cases hc
         have s6:Same H (upd H5 c (.lst us)):=s5.upd hc;have g6:(upd H5 c (.lst us)) g=some (.lst xs):=(aE hcg.symm).trans g5;have d6:(upd H5 c (.lst us)) d=some (.lst ys):=(aE hcd.symm).trans d5;have c6:(upd H5 c (.lst us)) c=some (.lst us):=aB;generalize upd H5 c (.lst us)=H6 at s6 g6 d6 c6;refine⟨g,c,_,_,rfl,rfl,g6,c6,sz1,?_⟩;have s7:Same H (upd H6 g (.lst (xs++us))):=s6.put hg;have g7:(upd H6 g (.lst (xs++us))) g=some (.lst (xs++us)):=aB;have d7:(upd H6 g (.lst (xs++us))) d=some (.lst ys):=(aE hgd.symm).trans d6;generalize upd H6 g (.lst (xs++us))=H7 at s7 g7 d7;refine⟨_,rfl,.inl ⟨rfl,_,SqL.of d7⟩,_,rfl,b,_,rfl,.inr (SqT.of (s7 _ _ hb)),fun c hc=>?_⟩;have hcg:c≠g:=fun e=>by rw[e,g7] at hc;cases hc
         have hcd:c≠d:=fun e=>by rw[e,d7] at hc;cases hc
         have s8:Same H (upd H7 c (.lst vs)):=s7.upd hc;have g8:(upd H7 c (.lst vs)) g=some (.lst (xs++us)):=(aE hcg.symm).trans g7;have d8:(upd H7 c (.lst vs)) d=some (.lst ys):=(aE hcd.symm).trans d7;have c8:(upd H7 c (.lst vs)) c=some (.lst vs):=aB;generalize upd H7 c (.lst vs)=H8 at s8 g8 d8 c8;refine⟨d,c,_,_,rfl,rfl,d8,c8,sz2,?_⟩;exact⟨n',by omega,_,_,_,_,rfl,s8.put hdn,(aE hgd).trans g8,aB,hst',by omega⟩
end
theorem aAs{m:Nat}{F:FL}{g:Nat}{d:fM}{v:V}(h:(cW m F g d).2.2=some v):(∃z:Str,v=.str z/\(cW m F g d).2.1=g)\/(v=.int (g:Int)/\(cW m F g d).2.1=g+1):=by
 cases d with
 |come r=>
   by_cases e:r.length=m
   . rw[jC e] at h ⊢;cases h;exact .inr ⟨rfl,rfl⟩
   . rw[kJ e] at h ⊢;cases h;exact .inl ⟨_,rfl,rfl⟩
 |leave x=>
   cases e:kC F x with
   |true=>rw[jA e] at h ⊢;cases h;exact .inl ⟨_,rfl,rfl⟩
   |false=>rw[kG e] at h ⊢;cases h;exact .inl ⟨_,rfl,rfl⟩
 |cost x t c=>
   cases e:kC F x with
   |true=>
     by_cases e2:0 <= t/\t<m
     . rw[jB e e2] at h ⊢;cases h;exact .inl ⟨_,rfl,rfl⟩
     . rw[kH e e2] at h ⊢;cases h;exact .inl ⟨_,rfl,rfl⟩
   |false=>rw[kI e] at h ⊢;cases h;exact .inl ⟨_,rfl,rfl⟩
 |deal=>exact(nomatch h)
theorem xE{m:Nat}{F:FL}{g:Nat}(d:fM)(h:∀x∈F,x.2.length=m):∀x∈(cW m F g d).1,x.2.length=m:=by
 cases d with
 |come r=>
   by_cases e:r.length=m
   . rw[jC e];intro x hx;rcases List.mem_append.mp hx with z|z
     . exact h x z
     . rw[List.mem_singleton.mp z];exact e
   . rw[kJ e];exact h
 |leave y=>
   cases e:kC F y with
   |true=>rw[jA e];exact fun x hx=>h x (List.mem_filter.mp hx).1
   |false=>rw[kG e];exact h
 |cost y t c=>
   cases e:kC F y with
   |true=>
     by_cases e2:0 <= t/\t<m
     . rw[jB e e2];intro x hx;obtain⟨z,hz,rfl⟩:=List.mem_map.mp hx;by_cases ez:(z.1:Int)=y
       . rw[if_pos ez];show(z.2.set _ _).length=m;rw[List.length_set];exact h z hz
       . rw[if_neg ez];exact h z hz
     . rw[kH e e2];exact h
   |false=>rw[kI e];exact h
 |deal=>exact h
theorem uL(m:Nat)(ds:List fM):∀i,i <= ds.length->∀x∈(gG m (ds.take i)).1,x.2.length=m
 |0,_=>fun x hx=>(nomatch hx)
 |i+1,hi=>by
   have e:ds[i]?=some ds[i]:=List.getElem?_eq_getElem (by omega);rw[oK m ds e];exact xE _ (uL m ds i (by omega))
theorem zZ{H:Hp}{p q:Addr}{d:fM}(h1:dQ H p d)(h2:dQ H q d)(hr:∀r,d=.come r->r.length <= 100):dP H 2 (.ref p) (.ref q):=by
 have fs:∀(z:Str),tT (.str z):=fun z=>.inr (.inl ⟨z,rfl⟩);have fi:∀(z:Int),tT (.int z):=fun z=>.inl ⟨z,rfl⟩;have fc:∀(c:Option Int),tT (aV c):=fun c=>by
   cases c with
   |none=>exact .inr (.inr rfl)
   |some i=>exact fi i
 cases d with
 |come r=>
   obtain⟨a,e1,e2⟩:=h1;obtain⟨b,e3,e4⟩:=h2;refine .inr ⟨p,q,_,_,rfl,rfl,.inr ⟨e1,e3⟩,rfl,by show 2 <= 100;decide,fun i u v x1 x2=>?_⟩;match i,x1,x2 with
   |0,x1,x2=>cases x1;cases x2;exact dP.flat (fs _) _
   |1,x1,x2=>
     cases x1;cases x2;refine .inr ⟨a,b,_,_,rfl,rfl,.inl ⟨e2,e4⟩,rfl,by rw[List.length_map];exact hr r rfl,fun i u v x1 x2=>?_⟩;rw[x1] at x2;cases x2;obtain⟨c,_,rfl⟩:=List.mem_map.mp (List.mem_of_getElem? x1);exact⟨rfl,fc c⟩
   |n+2,x1,_=>exact(nomatch x1)
 |leave x=>
   refine .inr ⟨p,q,_,_,rfl,rfl,.inr ⟨h1,h2⟩,rfl,by show 2 <= 100;decide,fun i u v x1 x2=>?_⟩;rw[x1] at x2;cases x2;match i,x1 with
   |0,x1=>cases x1;exact dP.flat (fs _) _
   |1,x1=>cases x1;exact dP.flat (fi _) _
   |n+2,x1=>exact(nomatch x1)
 |cost x t c=>
   refine .inr ⟨p,q,_,_,rfl,rfl,.inr ⟨h1,h2⟩,rfl,by show 4 <= 100;decide,fun i u v x1 x2=>?_⟩;rw[x1] at x2;cases x2;match i,x1 with
   |0,x1=>cases x1;exact dP.flat (fs _) _
   |1,x1=>cases x1;exact dP.flat (fi _) _
   |2,x1=>cases x1;exact dP.flat (fi _) _
   |3,x1=>cases x1;exact dP.flat (fc _) _
   |n+4,x1=>exact(nomatch x1)
 |deal=>
   refine .inr ⟨p,q,_,_,rfl,rfl,.inr ⟨h1,h2⟩,rfl,by show 1 <= 100;decide,fun i u v x1 x2=>?_⟩;rw[x1] at x2;cases x2;match i,x1 with
   |0,x1=>cases x1;exact dP.flat (fs _) _
   |n+1,x1=>exact(nomatch x1)
theorem wN{H:Hp}{al dl:Addr}{ps qs:List Addr}{ds:List fM}(h1:dU H al ps ds)(h2:dU H dl qs ds)(hl:ds.length <= 100)(hr:∀r,fM.come r∈ds->r.length <= 100):dP H 3 (.ref al) (.ref dl):=by
 refine .inr ⟨al,dl,_,_,rfl,rfl,.inl ⟨h1.ls,h2.ls⟩,by rw[List.length_map,List.length_map,h1.len,h2.len],by rw[List.length_map,h1.len];exact hl,fun i u v x1 x2=>?_⟩;rw[List.getElem?_map] at x1 x2;cases e1:ps[i]? with
 |none=>rw[e1] at x1;cases x1
 |some p=>
   cases e2:qs[i]? with
   |none=>rw[e2] at x2;cases x2
   |some q=>
     rw[e1] at x1;cases x1;rw[e2] at x2;cases x2;have hi:i<ds.length:=by have:=gK e1;have:=h1.len;omega
     have e3:ds[i]?=some ds[i]:=List.getElem?_eq_getElem hi;exact zZ (h1.deed i p _ e1 e3) (h2.deed i q _ e2 e3) fun r z=>hr r (z▸List.getElem_mem hi)
abbrev NL:List Str:=["_law_script","_law_many","_law_asked","_law_handed","_law_found","_law_there","_law_made","_law_k","_law_due"]
abbrev aF8:List Stmt:=zP ((bM jW).getD 9 (.Pass ⟨0,0,0,0⟩))
section
variable{P:Program}{w:World}{K:W.Frag}{mg:Str->Option Value}{base:Heap}{TN:Addr}
structure LI (H0 H:Hp) (td:Addr) (R:FR) (F:FL) (g:Nat):Prop where
 sm:Same H0 H
 b:mO H td R
 fl:flR R=F
 rs:dJ R g
 old:∀x∈R,H0 x.2.1=none
theorem aBh(B:Blt mg)(Gw:Has P w K mg base 1 "_law_whole" ["_law_found"] jD)(Gs:Has P w K mg base 1 "_law_stepped" ["_law_there","_law_made","_law_many","_law_deed"] jU)(Gh:Has P w K mg base 4 "_law_deal_holds" ["_law_found","_law_there","_law_many"] fX){f:Addr}{cdv:Value}{A:Around}{outer:List Env}{s:Shared}{H:Hp}{E:XK}(hr:eU 9 (A.deeper (envOfC "law" (aI jW) s.heap.objs.size f cdv))):
   ∃t,PSs (wO CX0 P w K mg base NL "law" (aI jW) f cdv A outer s H E).nox aF8 t /\
     ∀(D:wU)(i:Nat)(v0 v3 v8:Option V)(al fl td:Addr)(ps:List Addr)(ds:List fM)(us:List V)(R:FR)(m:Nat)(H0 H1:Hp),dU H0 al ps ds->H0 fl=some (.lst us)->us.length=ds.length->aCt H0 m ds us->H0 td=none->m <= 40->ds.length <= 41->i<ds.length->LI H0 H1 td R (gG m (ds.take i)).1 (gG m (ds.take i)).2 ->
       (∀(R':FR)(v8:Option V)(H':Hp),LI H0 H' td R' (gG m (ds.take (i+1))).1 (gG m (ds.take (i+1))).2->D.nx [v0,some (.int (m:Int)),some (.ref al),v3,some (.ref fl),some (.ref td),some (.int ((gG m (ds.take (i+1))).2:Int)),some (.int (i:Int)),v8] H') ->
       t D [v0,some (.int (m:Int)),some (.ref al),v3,some (.ref fl),some (.ref td),some (.int ((gG m (ds.take i)).2:Int)),some (.int (i:Int)),v8] H1:=by
 refine⟨_,(aG (bC (aP fL (aR aZ (aR aQ (pv 2) (pv 7) (fun _ _=>rfl)) aJ (fun _ _=>rfl)) bG (aU _)) (aG (bC (cA (bP (bX Gh (hr.mono (by decide)) (by rfl) (aA (aR aQ (pv 4) (pv 7) (fun _ _=>rfl)) (aA (pv 5) (aA (pv 1) aF)))))) (aG (aS cP)) aT)) (aC (aX (i:=8) gM.nd rfl (Or.inl rfl) (bX Gs (hr.mono (by decide)) (by rfl) (aA (pv 5) (aA (pv 6) (aA (pv 1) (aA (aR aQ (pv 2) (pv 7) (fun _ _=>rfl)) aF)))))) (aG (bC (bP (aM bL (by rfl) B.isinstance boot_isinstance (aA (pv 8) (aA (fK (by rfl) B.str fU) aF)))) (aG (bC ((dW (cA (bP (aM bL (by rfl) B.isinstance boot_isinstance (aA (aR aQ (pv 4) (pv 7) (fun _ _=>rfl)) (aA (fK (by rfl) B.str fU) aF))))) (dI (aP gZ (aR aQ (pv 4) (pv 7) (fun _ _=>rfl)) (pv 8) (aU _))))).pt (aG (aS cP)) aT)) (aC (aX (i:=6) gM.nd rfl (Or.inl rfl) (bF eN (pv 6) aJ)) (aG (bC ((dW (cA (bP (bX Gw (hr.mono (by decide)) (by rfl) (aA (aR aQ (pv 4) (pv 7) (fun _ _=>rfl)) aF)))) (dI (aP gZ (aR aQ (pv 4) (pv 7) (fun _ _=>rfl)) (pv 8) (aU _))))).pt (aG (aS cP)) aT)))))))),?_⟩;intro D i v0 v3 v8 al fl td ps ds us R m H0 H1 DA hfl hul hall htd hm hds hi li k;have hRl:R.length <= 41:=by
   have:=sK m ds i (by omega);rw[<- li.fl] at this;unfold flR at this;rw[List.length_map] at this;omega
 have hRw:∀x∈R,x.2.2.length=m:=fun x hx=>by
   have:=uL m ds i (by omega) (x.1,x.2.2) (by rw[<- li.fl];exact List.mem_map.mpr ⟨x,hx,rfl⟩);exact this
 have hdi:ds[i]?=some ds[i]:=List.getElem?_eq_getElem hi;have hpi:ps[i]?=some (ps[i]'(by have:=DA.len;omega)):=List.getElem?_eq_getElem _;have hui:us[i]?=some (us[i]'(by omega)):=List.getElem?_eq_getElem _;generalize ps[i]'(by have:=DA.len;omega)=p at hpi;generalize us[i]'(by omega)=u at hui;generalize ds[i]=d at hdi;have DAp:=(DA.deed i p d hpi hdi).mono li.sm;have ans:=hall i d u hdi hui;have hatp:atI (ps.map V.ref) (i:Int)=some (.ref p):=dA (by rw[List.getElem?_map,hpi];rfl);have hatu:atI us (i:Int)=some u:=dA hui;have nx:=oK m ds hdi;have hls:=li.sm _ _ DA.ls;have hfl1:=li.sm _ _ hfl;have nz:∀{c:Bool}{A B:Prop},c=true->B->(if(!c)=true then A else B):=fun hc hb=>by subst hc;exact cI hb
 rw[nx] at k;by_cases hdd:d=.deal
 . subst hdd;have hp:H1 p=some (.tup [.str "deal"]):=DAp;obtain⟨tp,rfl,dans⟩:∃tp,u=.ref tp/\hZ H0 tp m (gG m (ds.take i)).1:=ans;refine⟨_,rfl,_,rfl,al,_,_,.ref p,rfl,rfl,SqL.of hls,hatp,p,_,_,.str "deal", rfl,rfl,SqT.of hp,rfl,rfl,_,rfl,iH ?_⟩;refine⟨_,rfl,_,rfl,fl,_,_,.ref tp,rfl,rfl,SqL.of hfl1,hatu,_,rfl,_,rfl,tp,td,R,m,(gG m (ds.take i)).2,rfl,by rw[li.fl];exact dans.same li.sm,li.b,li.rs,hRw,hRl,hm,fun H' sm=>?_⟩;exact⟨_,rfl,cI (k R _ H' ⟨li.sm.trans sm,li.b.same sm,li.fl,li.rs,li.old⟩)⟩
 . have step:∀(v:V),(cW m (flR R) (gG m (ds.take i)).2 d).2.2=some v->u=v:=fun v hv=>by
     unfold kY at ans;rw[li.fl] at hv;rw[hv] at ans;exact ans
   obtain⟨z,q,hq,hz⟩:∃(z:Str)(q:List V),H1 p=some (.tup (.str z::q))/\z≠("deal":Str):=by
     cases d with
     |come r=>obtain⟨a,e,_⟩:=DAp;exact⟨_,_,e,by decide +kernel⟩
     |leave x=>exact⟨_,_,DAp,by decide +kernel⟩
     |cost x t c=>exact⟨_,_,DAp,by decide +kernel⟩
     |deal=>exact absurd rfl hdd
   refine⟨_,rfl,_,rfl,al,_,_,.ref p,rfl,rfl,SqL.of hls,hatp,p,_,0,.str z,rfl,rfl,SqT.of hq,eB (Int.le_refl _) rfl,rfl,_,rfl,?_⟩;refine eE (fun y=>absurd (V.str.inj (of_decide_eq_true y)) hz) (fun _=>?_);refine⟨_,rfl,_,rfl,_,rfl,_,rfl,_,rfl,al,_,_,.ref p,rfl,rfl,SqL.of hls,hatp,td,p,R,m,(gG m (ds.take i)).2,d,rfl,li.b,li.rs,hRw,by omega,DAp,hdd,fun R' v H' b' fl' rs' hv kp nw=>?_⟩;have huv:=step v hv;subst huv;have sm':Same H0 H':=fun a o e=>kp a o (li.sm a o e) fun y=>by
     rcases List.mem_cons.mp y with z|z
     . rw[z,htd] at e;cases e
     . obtain⟨x,hx,rfl⟩:=List.mem_map.mp z;rw[li.old x hx] at e;cases e
   have li':LI H0 H' td R' (cW m (gG m (ds.take i)).1 (gG m (ds.take i)).2 d).1 (cW m (gG m (ds.take i)).1 (gG m (ds.take i)).2 d).2.1:=by
     refine⟨sm',b',by rw[fl',li.fl],by rw[<- li.fl];exact rs',fun x hx=>?_⟩;rcases nw x hx with y|y
     . obtain⟨x',hx',e⟩:=List.mem_map.mp y;rw[<- e];exact li.old x' hx'
     . exact li.sm.free y
   rcases aAs hv with⟨t,rfl,eg⟩|⟨rfl,eg⟩
   . rw[li.fl] at eg;refine⟨_,rfl,_,_,_,true,rfl,.str t,by rfl,_,rfl,iH ?_⟩;refine⟨_,rfl,_,rfl,fl,_,_,.str t,rfl,rfl,SqL.of (sm' _ _ hfl),hatu,_,_,_,true,rfl,.str t,by rfl,_,rfl,cI ?_⟩;refine⟨_,rfl,_,rfl,fl,_,_,.str t,rfl,rfl,SqL.of (sm' _ _ hfl),hatu,_,rfl,rfl,_,rfl,?_⟩;refine nz (decide_eq_true rfl) ?_;have:=k R' (some (.str t)) H' li';dsimp only at this;rw[eg] at this;exact this
   . rw[li.fl] at eg;refine⟨_,rfl,_,_,_,false,rfl,.int _,by rfl,_,rfl,cI ?_⟩;refine⟨_,rfl,_,_,rfl,rfl,?_⟩;refine⟨_,rfl,_,rfl,fl,_,_,.int _,rfl,rfl,SqL.of (sm' _ _ hfl),hatu,some _,rfl,_,rfl,cI ?_⟩;refine⟨_,rfl,_,rfl,fl,_,_,.int _,rfl,rfl,SqL.of (sm' _ _ hfl),hatu,_,rfl,rfl,_,rfl,?_⟩;refine nz (decide_eq_true rfl) ?_;have:=k R' (some (.int ((gG m (ds.take i)).2:Int))) H' li';dsimp only at this;rw[eg] at this;exact this
end
theorem aFn(ns:List Int)(k:Nat):wP (ns.map V.int) none (some (k:Int))=(ns.take k).map V.int:=by
 unfold wP;rw[HT.sIx_nat,HT.sIx_none,List.length_map,List.drop_zero,<- List.map_take,Nat.sub_zero];congr 1;by_cases h:k <= ns.length
 . rw[Nat.min_eq_left h]
 . rw[Nat.min_eq_right (by omega),List.take_of_length_le (Nat.le_refl _),List.take_of_length_le (by omega)]
theorem aE5(ns:List Int)(a b:Nat):∃cs:List Int,wP (ns.map V.int) (some (a:Int)) (some (b:Int))=cs.map V.int/\cs.length <= b - a:=by
 refine⟨_,by unfold wP;rw[HT.sIx_nat,HT.sIx_nat,List.length_map,<- List.map_drop,<- List.map_take],?_⟩;rw[List.length_take,List.length_drop];omega
section
variable{P:Program}{w:World}{K:W.Frag}{mg:Str->Option Value}{base:Heap}{TN:Addr}
def nY(K:W.Frag)(TN:Addr):Sp:=fun vs H Q _=>∃(a:Addr)(ns:List Int),vs=[.ref a]/\SqL K H a (ns.map V.int)/\ns.length <= 63/\H TN=some (.tbl #[])/\∀H',Q (.bl true) H'
structure aHj (P:Program) (w:World) (K:W.Frag) (mg:Str->Option Value) (base:Heap) (TN:Addr):Prop where
 at_:Has P w K mg base 1 "_law_at" ["_law_script","_law_k"] (aEu K)
 upto:Has P w K mg base 1 "_law_upto" ["_law_script","_law_small","_law_great"] (xF K)
 whole:Has P w K mg base 1 "_law_whole" ["_law_found"] jD
 deeds:Has P w K mg base 2 "_law_deeds" ["_law_cells","_law_many"] (uG K)
 copy:Has P w K mg base 1 "_law_copy_deeds" ["_law_asked"] jH
 like:Has P w K mg base 1 "_law_like" ["_law_found","_law_due"] xJ
 stepped:Has P w K mg base 1 "_law_stepped" ["_law_there","_law_made","_law_many","_law_deed"] jU
 holds:Has P w K mg base 4 "_law_deal_holds" ["_law_found","_law_there","_law_many"] fX
 answers:Has P w K mg base 9 "answers" ["many","deeds"] (nD TN)
theorem aHz(B:Blt mg)(G:aHj P w K mg base TN){f:Addr}{cdv:Value}{A:Around}{outer:List Env}{s:Shared}{H:Hp}{Q:VK}{E:XK}{nx:L2.St->Hp->Prop}(hr:eU 9 (A.deeper (envOfC "law" (aI jW) s.heap.objs.size f cdv)))(k:∀H',Q (.bl true) H'):
   ∃t,PSs (wO CX0 P w K mg base NL "law" (aI jW) f cdv A outer s H E).nox ((bM jW).drop 3) t /\
     ∀(m:Nat)(sl:Addr)(ns:List Int)(v2 v3 v4 v5 v6 v7 v8:Option V)(H1:Hp),H1 sl=some (.lst (ns.map V.int))->ns.length <= 63->m <= 7->H1 TN=some (.tbl #[]) ->
       t {nx:=nx,rt:=Q} [some (.ref sl),some (.int (m:Int)),v2,v3,v4,v5,v6,v7,v8] H1:=by
 obtain⟨t7,h7,r7⟩:=aBh (P:=P) (w:=w) (K:=K) (mg:=mg) (base:=base) B G.whole G.stepped G.holds (f:=f) (cdv:=cdv) (A:=A) (outer:=outer) (s:=s) (H:=H) (E:=E) hr;refine⟨_,(aC (aX (i:=2) gM.nd rfl (Or.inl rfl) (bX G.deeds (hr.mono (by decide)) (by rfl) (aA (oU sD (pv 0) (oR aJ) (oR (bX G.upto (hr.mono (by decide)) (by rfl) (aA (pv 0) (aA aJ (aA aJ aF)))))) (aA (pv 1) aF)))) (aC (aX (i:=3) gM.nd rfl (Or.inl rfl) (bX G.copy (hr.mono (by decide)) (by rfl) (aA (pv 2) aF))) (aC (aX (i:=4) gM.nd rfl (Or.inl rfl) (bX G.answers hr (by rfl) (aA (pv 1) (aA (pv 3) aF)))) (aC (bC ((dW (cA (bP (bX G.like (hr.mono (by decide)) (by rfl) (aA (pv 3) (aA (pv 2) aF))))) (dW (cA (bP (aM bL (by rfl) B.isinstance boot_isinstance (aA (pv 4) (aA (fK (by rfl) B.list boot_list) aF))))) (dI (aP gZ (aM aO (by rfl) B.len boot_len (aA (pv 4) aF)) (aM aO (by rfl) B.len boot_len (aA (pv 2) aF)) (aU _)))))).pt (aG (aS cP)) aT) (aC (aX (i:=5) gM.nd rfl (Or.inl rfl) oW) (aC (aX (i:=6) gM.nd rfl (Or.inl rfl) aJ) (aC (dM PassesOwn.never rfl (dE (by rfl) B.range (aA (aM aO (by rfl) B.len boot_len (aA (pv 2) aF)) aF)) (bB (i:=7) gM.nd rfl (Or.inl rfl)) h7) (aG (aS cP))))))))),?_⟩;intro m sl ns v2 v3 v4 v5 v6 v7 v8 H1 hsl hn hm hTab;obtain⟨cs,ecs,hcs⟩:=aE5 ns 1 37;refine⟨_,rfl,1,rfl,_,rfl,sl,ns,37,1000,rfl,SqL.of hsl,hn,37,rfl,sl,_,rfl,SqL.of hsl,fun ca hca=>?_⟩;have ecs':wP (ns.map V.int) (some 1) (some 37)=cs.map V.int:=ecs;rw[ecs'];have s2:Same H1 (upd H1 ca (.lst (cs.map V.int))):=(Same.refl H1).upd hca;have a2:(upd H1 ca (.lst (cs.map V.int))) ca=some (.lst (cs.map V.int)):=aB;generalize upd H1 ca (.lst (cs.map V.int))=H2 at s2 a2;refine⟨_,rfl,ca,cs,m,rfl,SqL.of a2,hcs,hm,fun al ps ds H3 s3 hal DA hds hrow=>?_⟩;refine⟨_,rfl,al,ps,ds,rfl,DA,by omega,fun hl qs H4 s4 hhl DB=>?_⟩;have s14:=(s2.trans s3).trans s4;have t4:fW H4 TN:=⟨#[],s14 _ _ hTab,.inl rfl⟩;refine⟨_,rfl,_,rfl,m,hl,qs,ds,rfl,DB,by omega,by omega,t4,fun lf us H5 hlf hul hall kp t5=>?_⟩;have kp5:=aDw t4 kp;have DA5:dU H5 al ps ds:=(DA.same fun a o e _=>s4 a o e).same kp5;have DB5:dU H5 hl qs ds:=DB.same kp5;have nz:∀{c:Bool}{A B:Prop},c=true->B->(if(!c)=true then A else B):=fun hc hb=>by subst hc;exact cI hb
 refine⟨_,rfl,_,rfl,.ref hl,.ref al,3,rfl,wN DB5 DA5 (by omega) hrow,Nat.le_refl _,fun H6 s6=>⟨_,rfl,cI ?_⟩⟩;refine⟨_,rfl,_,_,_,true,rfl,.lst (s6 _ _ hlf),by rfl,_,rfl,cI ?_⟩;refine⟨_,rfl,lf,_,rfl,.inl (SqL.of (s6 _ _ hlf)),_,rfl,al,_,rfl,.inl (SqL.of (s6 _ _ DA5.ls)),rfl,_,rfl,?_⟩;refine nz (decide_eq_true (by rw[List.length_map,DA5.len,hul])) ?_;intro td htd;have htd5:H5 td=none:=s6.free htd;have li0:LI H5 (upd H6 td (.dK [])) td [] (gG m (ds.take 0)).1 (gG m (ds.take 0)).2:=by
   refine⟨s6.upd htd,⟨aB,fun x hx=>(nomatch hx),List.nodup_nil⟩,rfl,⟨List.Pairwise.nil,fun x hx=>(nomatch hx)⟩,fun x hx=>(nomatch hx)⟩
 generalize upd H6 td (.dK [])=H7 at li0;refine⟨_,rfl,al,_,rfl,.inl (SqL.of (li0.sm _ _ DA5.ls)),_,rfl,by omega,by rw[List.length_map,DA5.len];omega,?_⟩;rw[List.length_map,DA5.len];refine dF (fun i σ H8=>i <= ds.length/\∃(R:FR)(v7 v8:Option V),σ=[some (.ref sl),some (.int (m:Int)),some (.ref al),some (.ref hl),some (.ref lf),some (.ref td),some (.int ((gG m (ds.take i)).2:Int)),v7,v8]/\LI H5 H8 td R (gG m (ds.take i)).1 (gG m (ds.take i)).2) ⟨Nat.zero_le _,[],_,_,rfl,li0⟩ ?_ ?_
 . rintro i σ H8 hi ⟨_,R,v7,v8,rfl,li⟩;have hi':i<ds.length:=hi;have e0:(0:Int)+(i:Int)=(i:Int):=by omega
   rw[e0];exact r7 _ i _ _ v8 al lf td ps ds us R m H5 H8 DA5 hlf hul hall htd5 (by omega) (by omega) hi' li fun R' v8 H' li'=>⟨by omega,R',_,v8,rfl,li'⟩
 . rintro σ H8 ⟨_,R,v7,v8,rfl,li⟩;exact k H8
theorem aF5(B:Blt mg)(G:aHj P w K mg base TN){f:Addr}{fd:FuncData}(F:Fun K "law" "law" jW f fd):gO P w K mg base CX0 10 f fd ["_law_script"] (nY K TN):=by
 refine F.ok gM (fun vs H Q E h=>?_) (fun cdv A outer s H vs Q E hr h=>?_)
 . obtain⟨a,ns,rfl,_⟩:=h;rfl
 . obtain⟨a,ns,rfl,hS,hn,hTab,k⟩:=h;obtain⟨t3,h3,r3⟩:=aHz (P:=P) (w:=w) (K:=K) (mg:=mg) (base:=base) (TN:=TN) B G (f:=f) (cdv:=cdv) (A:=A) (outer:=outer) (s:=s) (H:=H) (Q:=Q) (E:=E) (nx:=fun _ H'=>Q .non H') hr k;refine⟨_,aC (aX (i:=0) gM.nd rfl (Or.inl rfl) (oU sD (pv 0) yE (oR aJ))) (aC (aX (i:=1) gM.nd rfl (Or.inl rfl) (bF dX (bX G.at_ (hr.mono (by decide)) (by rfl) (aA (pv 0) (aA aJ aF))) aJ)) (aC (bC (aP fL (bF dX (bF iR (bX G.at_ (hr.mono (by decide)) (by rfl) (aA (pv 0) (aA aJ aF))) aJ) aJ) aJ (aU _)) (aG (aX (i:=1) gM.nd rfl (Or.inl rfl) (bF eN (pv 1) (bX G.upto (hr.mono (by decide)) (by rfl) (aA (pv 0) (aA aJ (aA aJ aF))))))) aT) h3)),?_⟩;have e0:wP (ns.map V.int) none (some 1000)=(ns.take 1000).map V.int:=aFn ns 1000;refine⟨_,rfl,1000,rfl,a,_,rfl,hS,fun sl hsl0=>?_⟩;rw[e0,List.take_of_length_le (show ns.length <= 1000 by omega)];have s0:Same H (upd H sl (.lst (ns.map V.int))):=(Same.refl H).upd hsl0;have hsl1:(upd H sl (.lst (ns.map V.int))) sl=some (.lst (ns.map V.int)):=aB;generalize upd H sl (.lst (ns.map V.int))=H1 at s0 hsl1;refine⟨_,rfl,sl,ns,0,rfl,SqL.of hsl1,by decide,fun n0=>⟨_,_,rfl,rfl,(show(0:Int)<5 by decide),?_⟩⟩;refine⟨_,rfl,sl,ns,0,rfl,SqL.of hsl1,by decide,fun n1=>⟨_,_,rfl,rfl,⟨by decide,by decide⟩,_,_,rfl,rfl,(show(0:Int)<8 by decide),rfl,_,rfl,?_⟩⟩;have b0:=Int.emod_nonneg n0 (b:=5) (by decide);have b1:=Int.emod_lt_of_pos n0 (b:=5) (by decide);have t1:H1 TN=some (.tbl #[]):=s0 _ _ hTab;have go:∀(x:Int),0 <= x->x <= 7->t3 {nx:=fun _ H'=>Q .non H',rt:=Q} [some (.ref sl),some (.int x),none,none,none,none,none,none,none] H1:=fun x h0 h1=>by
     obtain⟨m,rfl⟩:=Int.eq_ofNat_of_zero_le h0;exact r3 m sl ns _ _ _ _ _ _ _ H1 hsl1 hn (by omega) t1
   refine eE (fun _=>?_) (fun _=>go _ b0 (by omega));exact⟨_,rfl,_,rfl,sl,ns,3,30,rfl,SqL.of hsl1,hn,_,_,rfl,rfl,go _ (by omega) (by omega)⟩
end
def gN(K:W.Frag)(x:Str)(st:Stmt):Prop:=∃(f:Addr)(oc:Value)(od an:Option Addr)(osl:Array (Option Value))(kV doc pm cdv ct:Value),W.nsIn K mainGlobals x=some (some (.ref f))/\K.lookup f=some ⟨oc,od,.func (W.fnOf x x (cZ st) (bM st) (aI st) .none kV doc pm an cdv ct),osl⟩/\W.codeIn K cdv x=true/\W.keepIn K (.ref f)=true
theorem bA{K:W.Frag}{x:Str}{st:Stmt}{f:Addr}{oc:Value}{od an:Option Addr}{osl:Array (Option Value)}{kV doc pm cdv ct:Value}(a:W.nsIn K mainGlobals x=some (some (.ref f)))(l:K.lookup f=some ⟨oc,od,.func (W.fnOf x x (cZ st) (bM st) (aI st) .none kV doc pm an cdv ct),osl⟩)(c:W.codeIn K cdv x=true)(k:W.keepIn K (.ref f)=true):gN K x st:=⟨f,oc,od,an,osl,kV,doc,pm,cdv,ct,a,l,c,k⟩
theorem gN.is{K:W.Frag}{x:Str}{st:Stmt}{h:Heap}{mg:Str->Option Value}{ps:List Str}(D:gN K x st)(X:K.In h)(G:h.Ns mainGlobals mg)(hb:∀(kV doc pm:Value)(an:Option Addr)(cdv ct:Value)(us:List Value),us.length=ps.length->bindArgs (W.fnOf x x (cZ st) (bM st) (aI st) .none kV doc pm an cdv ct) ⟨us,[]⟩=pure (ps.zip us)):cE K mg x st ps:=by
 obtain⟨f,oc,od,an,osl,kV,doc,pm,cdv,ct,a,l,c,k⟩:=D;have F:=nO (st:=st) l c k;exact⟨f,_,F,F.binds hb,W.mg_of X G a⟩
def wV(K:W.Frag)(x:Str)(st:Stmt)(c T:Addr):Prop:=∃(f:Addr)(oc:Value)(od an:Option Addr)(osl:Array (Option Value))(kV doc pm ct oc2:Value)(od2:Option Addr)(vs:Array Value)(sl2:Array (Option Value)),W.nsIn K mainGlobals x=some (some (.ref f))/\K.lookup f=some ⟨oc,od,.func (W.fnOf x x (cZ st) (bM st) (aI st) .none kV doc pm an (.ref c) ct),osl⟩/\W.codeIn K (.ref c) x=true/\W.keepIn K (.ref f)=true/\K.lookup c=some ⟨oc2,od2,.fields vs,sl2⟩/\vs[11]?=some (.ref T)
theorem aBx{K:W.Frag}{x:Str}{st:Stmt}{c T f:Addr}{oc:Value}{od an:Option Addr}{osl:Array (Option Value)}{kV doc pm ct oc2:Value}{od2:Option Addr}{vs:Array Value}{sl2:Array (Option Value)}(a:W.nsIn K mainGlobals x=some (some (.ref f)))(l:K.lookup f=some ⟨oc,od,.func (W.fnOf x x (cZ st) (bM st) (aI st) .none kV doc pm an (.ref c) ct),osl⟩)(cc:W.codeIn K (.ref c) x=true)(k:W.keepIn K (.ref f)=true)(l2:K.lookup c=some ⟨oc2,od2,.fields vs,sl2⟩)(v:vs[11]?=some (.ref T)):wV K x st c T:=⟨f,oc,od,an,osl,kV,doc,pm,ct,oc2,od2,vs,sl2,a,l,cc,k,l2,v⟩
theorem wV.is{K:W.Frag}{x:Str}{st:Stmt}{c T:Addr}{h:Heap}{mg:Str->Option Value}{ps:List Str}(D:wV K x st c T)(X:K.In h)(G:h.Ns mainGlobals mg)(hb:∀(kV doc pm:Value)(an:Option Addr)(cdv ct:Value)(us:List Value),us.length=ps.length->bindArgs (W.fnOf x x (cZ st) (bM st) (aI st) .none kV doc pm an cdv ct) ⟨us,[]⟩=pure (ps.zip us)):vK K mg x st ps c:=by
 obtain⟨f,oc,od,an,osl,kV,doc,pm,ct,oc2,od2,vs,sl2,a,l,cc,k,l2,v⟩:=D;have F:=nO (st:=st) l cc k;exact⟨f,_,F,F.binds hb,W.mg_of X G a,rfl⟩
theorem wV.tab{K:W.Frag}{x:Str}{st:Stmt}{c T:Addr}(D:wV K x st c T):W.tabIn K x=some (c,T):=by
 obtain⟨f,oc,od,an,osl,kV,doc,pm,ct,oc2,od2,vs,sl2,a,l,cc,k,l2,v⟩:=D;unfold W.tabIn;rw[a];simp only[l,l2,v]
def iU(K:W.Frag)(C:Addr)(x q:Str)(st:Stmt):Prop:=∃(f:Addr)(oc:Value)(od an:Option Addr)(osl:Array (Option Value))(kV doc pm cdv ct:Value),W.findIn K (.ref C) x=some (some (.ref f))/\W.isFn K (.ref f)=true/\K.lookup f=some ⟨oc,od,.func (W.fnOf x q (cZ st) (bM st) (aI st) .none kV doc pm an cdv ct),osl⟩/\W.codeIn K cdv q=true/\W.keepIn K (.ref f)=true
theorem eZ{K:W.Frag}{C:Addr}{x q:Str}{st:Stmt}{f:Addr}{oc:Value}{od an:Option Addr}{osl:Array (Option Value)}{kV doc pm cdv ct:Value}(a:W.findIn K (.ref C) x=some (some (.ref f)))(i:W.isFn K (.ref f)=true)(l:K.lookup f=some ⟨oc,od,.func (W.fnOf x q (cZ st) (bM st) (aI st) .none kV doc pm an cdv ct),osl⟩)(c:W.codeIn K cdv q=true)(k:W.keepIn K (.ref f)=true):iU K C x q st:=⟨f,oc,od,an,osl,kV,doc,pm,cdv,ct,a,i,l,c,k⟩
theorem iU.has{P:Program}{w:World}{K:W.Frag}{mg:Str->Option Value}{base:Heap}{C:Addr}{x q:Str}{st:Stmt}{ps:List Str}{k:Nat}{sp:Sp}(M:iU K C x q st)(c:Cls K C)(hb:∀(kV doc pm:Value)(an:Option Addr)(cdv ct:Value)(us:List Value),us.length=ps.length->bindArgs (W.fnOf x q (cZ st) (bM st) (aI st) .none kV doc pm an cdv ct) ⟨us,[]⟩=pure (ps.zip us))(F:∀{f:Addr}{fd:FuncData},Fun K x q st f fd->gO P w K mg base CX0 k f fd ps sp):aEh P w K mg base k C x ps sp:=by
 obtain⟨f,oc,od,an,osl,kV,doc,pm,cdv,ct,a,i,l,cc,kk⟩:=M;have FF:=nO (st:=st) l cc kk;exact⟨f,_,c,⟨a,i,kk⟩,FF.binds hb,F FF⟩
theorem iU.make{P:Program}{w:World}{K:W.Frag}{mg:Str->Option Value}{base:Heap}{C:Addr}{x q:Str}{st:Stmt}{ps:List Str}{k:Nat}{sp:Sp}(M:iU K C "__init__" q st)(mk:W.makesIn K C=true)(kc:W.keepIn K (.ref C)=true)(hm:mg x=some (.ref C))(hb:∀(kV doc pm:Value)(an:Option Addr)(cdv ct:Value)(us:List Value),us.length=ps.length->bindArgs (W.fnOf "__init__" q (cZ st) (bM st) (aI st) .none kV doc pm an cdv ct) ⟨us,[]⟩=pure (ps.zip us))(F:∀{f:Addr}{fd:FuncData},Fun K "__init__" q st f fd->gO P w K mg base CX0 k f fd ps sp):aFt P w K mg base k x C ps sp:=by
 obtain⟨f,oc,od,an,osl,kV,doc,pm,cdv,ct,a,i,l,cc,kk⟩:=M;have FF:=nO (st:=st) l cc kk;exact⟨f,_,⟨mk,a,i,kc⟩,FF.binds hb,hm,F FF⟩
theorem aA6{K:W.Frag}{C:Addr}(pg:W.plainGet K C Str.empty=true)(hd:W.hasDictIn K C=true)(po:W.plainOver K C=true)(sa:W.findIn K (.ref C) "__setattr__"=some (some (.builtin "object.__setattr__"))):Cls K C:=⟨pg,hd,po,sa⟩
theorem iU.hasE{P:Program}{w:World}{K:W.Frag}{mg:Str->Option Value}{base:Heap}{C:Addr}{x q:Str}{st:Stmt}{ps:List Str}{k:Nat}{sp:Sp}(M:iU K C x q st)(c:Cls K C)(hb:∀(kV doc pm:Value)(an:Option Addr)(cdv ct:Value)(us:List Value),us.length=ps.length->bindArgs (W.fnOf x q (cZ st) (bM st) (aI st) .none kV doc pm an cdv ct) ⟨us,[]⟩=pure (ps.zip us))(F:∀{f:Addr}{fd:FuncData},Fun K x q st f fd->gO P w K mg base (CXe P w) k f fd ps sp):aAe P w K mg base k C x ps sp:=by
 obtain⟨f,oc,od,an,osl,kV,doc,pm,cdv,ct,a,i,l,cc,kk⟩:=M;have FF:=nO (st:=st) l cc kk;exact⟨f,_,c,⟨a,i,kk⟩,FF.binds hb,F FF⟩
theorem aFq{l:W.OpenLaw}{w:World}{K:W.Frag}{h:Heap}{mg:Str->Option Value}{fa:Addr}(X:K.In h)(G:h.Ns mainGlobals mg)(hfa:mg "law"=some (.ref fa))(hNT:W.noTabs K=true)(d_check_table:gN K "check_table" gE)(d_check_task:gN K "check_task" gU)(d_can_do:gN K "can_do" oJ)(d_cheapest:gN K "cheapest" iF)(d_is_content:gN K "is_content" gS)(d_look_from:gN K "look_from" iN)(d_searched:gN K "searched" jV)(d_has_goal:gN K "has_goal" jX)(d_raise_prices:gN K "raise_prices" fE)(d_move_along:gN K "move_along" gR)(d_shortage:gN K "shortage" iE)(d_keep_content:gN K "keep_content" fF)(d_settled:gN K "settled" lS)(d_told:gN K "told" uK)(d_check_there:gN K "check_there" gD)(d_by_numbers:gN K "by_numbers" eX)(d_done:gN K "done" xW)(d_answered:gN K "answered" jY)(d_answers:gN K "answers" jL)(d_upto:gN K "_law_upto" xU)(d_whole:gN K "_law_whole" sJ)(d_at:gN K "_law_at" aGg)(d_numbers:gN K "_law_numbers" lT)(d_one_to_one:gN K "_law_one_to_one" gQ)(d_least_shown:gN K "_law_least_shown" gB)(d_rising:gN K "_law_rising" oH)(d_short_shown:gN K "_law_short_shown" gA)(d_answer_holds:gN K "_law_answer_holds" fG)(d_row_by:gN K "_law_row_by" oG)(d_deeds:gN K "_law_deeds" gC)(d_copy_deeds:gN K "_law_copy_deeds" gT)(d_stepped:gN K "_law_stepped" lR)(d_deal_holds:gN K "_law_deal_holds" eW)(d_like:gN K "_law_like" xV)(d_law:gN K "law" jW)(z_len:W.nsIn K mainGlobals "len"=some none)(z_range:W.nsIn K mainGlobals "range"=some none)(z_isinstance:W.nsIn K mainGlobals "isinstance"=some none)(z_int:W.nsIn K mainGlobals "int"=some none)(z_bool:W.nsIn K mainGlobals "bool"=some none)(z_list:W.nsIn K mainGlobals "list"=some none)(z_all:W.nsIn K mainGlobals "all"=some none)(z_min:W.nsIn K mainGlobals "min"=some none)(z_set:W.nsIn K mainGlobals "set"=some none)(z_zip:W.nsIn K mainGlobals "zip"=some none)(z_enumerate:W.nsIn K mainGlobals "enumerate"=some none)(z_sum:W.nsIn K mainGlobals "sum"=some none)(z_vErr:W.nsIn K mainGlobals "ValueError"=some none)(z_tuple:W.nsIn K mainGlobals "tuple"=some none)(z_str:W.nsIn K mainGlobals "str"=some none)(z_sorted:W.nsIn K mainGlobals "sorted"=some none)(z_max:W.nsIn K mainGlobals "max"=some none)(z_dict:W.nsIn K mainGlobals "dict"=some none){CB CS cN TN:Addr}(d_nearest:wV K "nearest" dC cN TN)(nBd:W.nsIn K mainGlobals "Board"=some (some (.ref CB)))(nSr:W.nsIn K mainGlobals "Search"=some (some (.ref CS)))(cBd:Cls K CB)(cSr:Cls K CS)(bMk:W.makesIn K CB=true)(bKp:W.keepIn K (.ref CB)=true)(sMk:W.makesIn K CS=true)(sKp:W.keepIn K (.ref CS)=true)(b_count:W.findIn K (.ref CB) "count"=some none)(b_rows:W.findIn K (.ref CB) "rows"=some none)(b_prices:W.findIn K (.ref CB) "prices"=some none)(b_tasks:W.findIn K (.ref CB) "tasks"=some none)(b_hands:W.findIn K (.ref CB) "hands"=some none)(b_short:W.findIn K (.ref CB) "short"=some none)(s_far:W.findIn K (.ref CS) "far"=some none)(s_through:W.findIn K (.ref CS) "through"=some none)(s_ahead:W.findIn K (.ref CS) "ahead"=some none)(s_reached:W.findIn K (.ref CS) "reached"=some none)(mBi:iU K CB "__init__" "Board.__init__" dH)(mBs:iU K CB "seat" "Board.seat" iQ)(mSi:iU K CS "__init__" "Search.__init__" gF){CF CT CH CK:Addr}(nFr:W.nsIn K mainGlobals "Fair"=some (some (.ref CF)))(cFr:Cls K CF)(fMk:W.makesIn K CF=true)(fKp:W.keepIn K (.ref CF)=true)(f_many:W.findIn K (.ref CF) "many"=some none)(f_rows:W.findIn K (.ref CF) "rows"=some none)(f_given:W.findIn K (.ref CF) "given"=some none)(f_tasks:W.findIn K (.ref CF) "tasks"=some none)(f_prices:W.findIn K (.ref CF) "prices"=some none)(mFi:iU K CF "__init__" "Fair.__init__" iP)(mFc:iU K CF "come" "Fair.come" jZ)(mFl:iU K CF "leave" "Fair.leave" iO)(mFk:iU K CF "set_cost" "Fair.set_cost" fH)(mFd:iU K CF "deal" "Fair.deal" fP)(cT:W.nsIn K mainGlobals "NoTable"=some (some (.ref CT)))(cH:W.nsIn K mainGlobals "NoHand"=some (some (.ref CH)))(cK:W.nsIn K mainGlobals "NoTask"=some (some (.ref CK)))(eT:W.excIn K CT aFw "ValueError.__new__"=true)(xT:aG1 K CT)(eH:W.excIn K CH aFw "ValueError.__new__"=true)(xH:aG1 K CH)(eK:W.excIn K CK aFw "ValueError.__new__"=true)(xK:aG1 K CK)(r1:W.exmOne K (.ref CT) (.ref CT)=some true)(r2:W.exmOne K (.ref CH) (.ref CT)=some false)(r3:W.exmOne K (.ref CH) (.ref CH)=some true)(r4:W.exmOne K (.ref CK) (.ref CT)=some false)(r5:W.exmOne K (.ref CK) (.ref CH)=some false)(r6:W.exmOne K (.ref CK) (.ref CK)=some true): ∃(fd:FuncData)(cN TN:Addr),W.tabIn K "nearest"=some (cN,TN)/\W.noTabs K=true/\(∀(s:Shared)(v:Value),BindsTo s fd ⟨[v],[]⟩ [("_law_script", v)])/\∀base:Heap,K.In base->base.Ns mainGlobals mg->rX mg base->W.CodeHd base cN TN->gO l.prog w K mg base CX0 10 fa fd ["_law_script"] (nY K TN):=by
 have B:Blt mg:=⟨W.mg_none_of X G z_len,W.mg_none_of X G z_range,W.mg_none_of X G z_isinstance,W.mg_none_of X G z_int,W.mg_none_of X G z_bool,W.mg_none_of X G z_list,W.mg_none_of X G z_all,W.mg_none_of X G z_min,W.mg_none_of X G z_set,W.mg_none_of X G z_zip,W.mg_none_of X G z_enumerate,W.mg_none_of X G z_sum,W.mg_none_of X G z_vErr,W.mg_none_of X G z_tuple,W.mg_none_of X G z_str,W.mg_none_of X G z_sorted,W.mg_none_of X G z_max,W.mg_none_of X G z_dict⟩;have tB:CBd K CB:=⟨cBd,b_count,b_rows,b_prices,b_tasks,b_hands,b_short⟩;have tS:CSr K CS:=⟨cSr,s_far,s_through,s_ahead,s_reached⟩;have bMg:=W.mg_of X G nBd;have sMg:=W.mg_of X G nSr;have i_check_table:=d_check_table.is X G (ps:=["many","rows"]) fun _ _ _ _ _ _ us hl=>match us,hl with|[_,_],_=>rfl
 have i_check_task:=d_check_task.is X G (ps:=["many","task"]) fun _ _ _ _ _ _ us hl=>match us,hl with|[_,_],_=>rfl
 have i_can_do:=d_can_do.is X G (ps:=["row","task"]) fun _ _ _ _ _ _ us hl=>match us,hl with|[_,_],_=>rfl
 have i_cheapest:=d_cheapest.is X G (ps:=["row","prices"]) fun _ _ _ _ _ _ us hl=>match us,hl with|[_,_],_=>rfl
 have i_is_content:=d_is_content.is X G (ps:=["row","task","prices"]) fun _ _ _ _ _ _ us hl=>match us,hl with|[_,_,_],_=>rfl
 have i_look_from:=d_look_from.is X G (ps:=["board","search","hand","before"]) fun _ _ _ _ _ _ us hl=>match us,hl with|[_,_,_,_],_=>rfl
 have i_nearest:=d_nearest.is X G (ps:=["board","search"]) fun _ _ _ _ _ _ us hl=>match us,hl with|[_,_],_=>rfl
 have i_searched:=d_searched.is X G (ps:=["board","hand"]) fun _ _ _ _ _ _ us hl=>match us,hl with|[_,_],_=>rfl
 have i_has_goal:=d_has_goal.is X G (ps:=["board","search"]) fun _ _ _ _ _ _ us hl=>match us,hl with|[_,_],_=>rfl
 have i_raise_prices:=d_raise_prices.is X G (ps:=["board","search"]) fun _ _ _ _ _ _ us hl=>match us,hl with|[_,_],_=>rfl
 have i_move_along:=d_move_along.is X G (ps:=["board","search"]) fun _ _ _ _ _ _ us hl=>match us,hl with|[_,_],_=>rfl
 have i_shortage:=d_shortage.is X G (ps:=["board","search","hand"]) fun _ _ _ _ _ _ us hl=>match us,hl with|[_,_,_],_=>rfl
 have i_keep_content:=d_keep_content.is X G (ps:=["board","tasks"]) fun _ _ _ _ _ _ us hl=>match us,hl with|[_,_],_=>rfl
 have i_settled:=d_settled.is X G (ps:=["many","rows","tasks","prices"]) fun _ _ _ _ _ _ us hl=>match us,hl with|[_,_,_,_],_=>rfl
 have i_told:=d_told.is X G (ps:=["board"]) fun _ _ _ _ _ _ us hl=>match us,hl with|[_],_=>rfl
 have i_check_there:=d_check_there.is X G (ps:=["rows","hand"]) fun _ _ _ _ _ _ us hl=>match us,hl with|[_,_],_=>rfl
 have i_by_numbers:=d_by_numbers.is X G (ps:=["numbers","answer"]) fun _ _ _ _ _ _ us hl=>match us,hl with|[_,_],_=>rfl
 have i_done:=d_done.is X G (ps:=["fair","deed"]) fun _ _ _ _ _ _ us hl=>match us,hl with|[_,_],_=>rfl
 have i_answered:=d_answered.is X G (ps:=["fair","deed"]) fun _ _ _ _ _ _ us hl=>match us,hl with|[_,_],_=>rfl
 have i_answers:=d_answers.is X G (ps:=["many","deeds"]) fun _ _ _ _ _ _ us hl=>match us,hl with|[_,_],_=>rfl
 have i_upto:=d_upto.is X G (ps:=["_law_script","_law_small","_law_great"]) fun _ _ _ _ _ _ us hl=>match us,hl with|[_,_,_],_=>rfl
 have i_whole:=d_whole.is X G (ps:=["_law_found"]) fun _ _ _ _ _ _ us hl=>match us,hl with|[_],_=>rfl
 have i_at:=d_at.is X G (ps:=["_law_script","_law_k"]) fun _ _ _ _ _ _ us hl=>match us,hl with|[_,_],_=>rfl
 have i_numbers:=d_numbers.is X G (ps:=["_law_found"]) fun _ _ _ _ _ _ us hl=>match us,hl with|[_],_=>rfl
 have i_one_to_one:=d_one_to_one.is X G (ps:=["_law_many","_law_rows","_law_tasks"]) fun _ _ _ _ _ _ us hl=>match us,hl with|[_,_,_],_=>rfl
 have i_least_shown:=d_least_shown.is X G (ps:=["_law_many","_law_rows","_law_tasks","_law_prices"]) fun _ _ _ _ _ _ us hl=>match us,hl with|[_,_,_,_],_=>rfl
 have i_rising:=d_rising.is X G (ps:=["_law_row","_law_most"]) fun _ _ _ _ _ _ us hl=>match us,hl with|[_,_],_=>rfl
 have i_short_shown:=d_short_shown.is X G (ps:=["_law_many","_law_rows","_law_hands","_law_tasks"]) fun _ _ _ _ _ _ us hl=>match us,hl with|[_,_,_,_],_=>rfl
 have i_answer_holds:=d_answer_holds.is X G (ps:=["_law_found","_law_many","_law_rows"]) fun _ _ _ _ _ _ us hl=>match us,hl with|[_,_,_],_=>rfl
 have i_row_by:=d_row_by.is X G (ps:=["_law_rest","_law_count","_law_far"]) fun _ _ _ _ _ _ us hl=>match us,hl with|[_,_,_],_=>rfl
 have i_deeds:=d_deeds.is X G (ps:=["_law_cells","_law_many"]) fun _ _ _ _ _ _ us hl=>match us,hl with|[_,_],_=>rfl
 have i_copy_deeds:=d_copy_deeds.is X G (ps:=["_law_asked"]) fun _ _ _ _ _ _ us hl=>match us,hl with|[_],_=>rfl
 have i_stepped:=d_stepped.is X G (ps:=["_law_there","_law_made","_law_many","_law_deed"]) fun _ _ _ _ _ _ us hl=>match us,hl with|[_,_,_,_],_=>rfl
 have i_deal_holds:=d_deal_holds.is X G (ps:=["_law_found","_law_there","_law_many"]) fun _ _ _ _ _ _ us hl=>match us,hl with|[_,_,_],_=>rfl
 have i_like:=d_like.is X G (ps:=["_law_found","_law_due"]) fun _ _ _ _ _ _ us hl=>match us,hl with|[_,_],_=>rfl
 obtain⟨f,oc,od,an,osl,kV,doc,pm,cdv,ct,aL,lL,cL,kL⟩:=d_law;have e:=hfa.symm.trans (W.mg_of X G aL);cases e;have FL:=nO (st:=jW) lL cL kL;refine⟨W.fnOf "law" "law" (cZ jW) (bM jW) (aI jW) .none kV doc pm an cdv ct,cN,TN,d_nearest.tab,hNT,fun s v=>.of_eq rfl,fun base _ _ hBM hCd=>?_⟩;have Y:XR K mg CT CH CK:=⟨⟨W.mg_of X G cT,eT,xT⟩,⟨W.mg_of X G cH,eH,xH⟩,⟨W.mg_of X G cK,eK,xK⟩,r1,r2,r3,r4,r5,r6⟩;have tF:CFr K CF:=⟨cFr,f_many,f_rows,f_given,f_tasks,f_prices⟩;have fMg:=W.mg_of X G nFr;have g_Sinit:=mSi.make (P:=l.prog) (w:=w) (mg:=mg) (base:=base) (ps:=["self","many"]) sMk sKp sMg (fun _ _ _ _ _ _ us hl=>match us,hl with|[_,_],_=>rfl) (fun F=>aB9 B tS F);have g_Binit:=mBi.make (P:=l.prog) (w:=w) (mg:=mg) (base:=base) (ps:=["self","many","rows","prices"]) bMk bKp bMg (fun _ _ _ _ _ _ us hl=>match us,hl with|[_,_,_,_],_=>rfl) (fun F=>aBb B tB F);have g_seat:=mBs.has (P:=l.prog) (w:=w) (mg:=mg) (base:=base) (ps:=["self","hand","task"]) tB.cl (fun _ _ _ _ _ _ us hl=>match us,hl with|[_,_,_],_=>rfl) (fun F=>aDk tB F);have g_look:=qT (P:=l.prog) (w:=w) (base:=base) tB tS i_look_from;have g_near:=vZ (P:=l.prog) (w:=w) (base:=base) B tB tS hBM hCd i_nearest;have g_srch:=sS (P:=l.prog) (w:=w) (base:=base) B tB tS g_Sinit g_look g_near i_searched;have g_goal:=sT (P:=l.prog) (w:=w) (base:=base) B tB tS i_has_goal;have g_rais:=mB (P:=l.prog) (w:=w) (base:=base) tB tS i_raise_prices;have g_move:=oZ (P:=l.prog) (w:=w) (base:=base) tB tS g_seat i_move_along;have g_shrt:=sP (P:=l.prog) (w:=w) (base:=base) B B.sorted hX tB tS i_shortage;have g_can:=yP (P:=l.prog) (w:=w) (base:=base) B i_can_do;have g_cheap:=sU (P:=l.prog) (w:=w) (base:=base) B i_cheapest;have g_isc:=pA (P:=l.prog) (w:=w) (base:=base) B g_cheap i_is_content;have g_keep:=aDm (P:=l.prog) (w:=w) (base:=base) B tB g_can g_isc g_seat i_keep_content;have g_sett:=sQ (P:=l.prog) (w:=w) (base:=base) B tB tS g_Binit g_keep g_srch g_goal g_shrt g_rais g_move i_settled;have g_told:=aB6 (P:=l.prog) (w:=w) (base:=base) B tB i_told;have g_ctab:=mC (P:=l.prog) (w:=w) (base:=base) B Y.t i_check_table;have g_cthere:=mW (P:=l.prog) (w:=w) (base:=base) B Y.h i_check_there;have g_ctask:=pE (P:=l.prog) (w:=w) (base:=base) B Y.k i_check_task;have g_byn:=pF (P:=l.prog) (w:=w) (base:=base) B i_by_numbers;have g_Finit:=mFi.make (P:=l.prog) (w:=w) (mg:=mg) (base:=base) (ps:=["self","many"]) fMk fKp fMg (fun _ _ _ _ _ _ us hl=>match us,hl with|[_,_],_=>rfl) (fun F=>aBa tF F);have g_come:=mFc.hasE (P:=l.prog) (w:=w) (mg:=mg) (base:=base) (ps:=["self","row"]) tF.cl (fun _ _ _ _ _ _ us hl=>match us,hl with|[_,_],_=>rfl) (fun F=>aDp B tF g_ctab F);have g_leave:=mFl.hasE (P:=l.prog) (w:=w) (mg:=mg) (base:=base) (ps:=["self","hand"]) tF.cl (fun _ _ _ _ _ _ us hl=>match us,hl with|[_,_],_=>rfl) (fun F=>aB7 tF g_cthere F);have g_scost:=mFk.hasE (P:=l.prog) (w:=w) (mg:=mg) (base:=base) (ps:=["self","hand","task","cost"]) tF.cl (fun _ _ _ _ _ _ us hl=>match us,hl with|[_,_,_,_],_=>rfl) (fun F=>sR tF g_cthere g_ctask F);have g_deal:=mFd.has (P:=l.prog) (w:=w) (mg:=mg) (base:=base) (ps:=["self"]) tF.cl (fun _ _ _ _ _ _ us hl=>match us,hl with|[_],_=>rfl) (fun F=>aDo B tF tB g_sett g_told g_byn F);have g_done:=aDn (P:=l.prog) (w:=w) (base:=base) tF g_come g_leave g_scost g_deal i_done;have g_answered:=sV (P:=l.prog) (w:=w) (base:=base) Y g_done i_answered;have g_answers:=wA (P:=l.prog) (w:=w) (base:=base) tF g_Finit g_answered i_answers;have g_upto:=aDj (P:=l.prog) (w:=w) (base:=base) B i_upto;have g_whole:=aB5 (P:=l.prog) (w:=w) (base:=base) B i_whole;have g_at:=aGm (P:=l.prog) (w:=w) (base:=base) B i_at;have g_nums:=vY (P:=l.prog) (w:=w) (base:=base) B g_whole i_numbers;have g_one:=oY (P:=l.prog) (w:=w) (base:=base) B i_one_to_one;have g_least:=mV (P:=l.prog) (w:=w) (base:=base) B g_one i_least_shown;have g_rising:=yO (P:=l.prog) (w:=w) (base:=base) B i_rising;have g_short:=mU (P:=l.prog) (w:=w) (base:=base) B g_rising i_short_shown;have g_ans:=mD (P:=l.prog) (w:=w) (base:=base) B g_nums g_least g_short i_answer_holds;have g_rowby:=yN (P:=l.prog) (w:=w) (base:=base) B i_row_by;have g_deeds:=aB8 (P:=l.prog) (w:=w) (base:=base) B g_rowby i_deeds;have g_copy:=pC (P:=l.prog) (w:=w) (base:=base) B i_copy_deeds;have g_stepped:=vX (P:=l.prog) (w:=w) (base:=base) B i_stepped;have g_holds:=pB (P:=l.prog) (w:=w) (base:=base) B g_whole g_ans i_deal_holds;have g_like:=aDl (P:=l.prog) (w:=w) (base:=base) B i_like;exact aF5 B ⟨g_at,g_upto,g_whole,g_deeds,g_copy,g_like,g_stepped,g_holds,g_answers⟩ FL
theorem aHk{l:W.OpenLaw}{q:Program}{loose:List Str}{XP:(Str->Option Value)->Heap->Prop}{YP:World->Heap->Prop}{d dN:DefRec}{K:Params->W.Frag}(hn:l.most=some 63)(hdf:d.params.defaults=[])(hY:∀(w:World)(h:Heap),YP w h->(K w.params).In h)(hrec:(recsOf q).find? (fun e=>e.name==("nearest":Str))=some dN)(F:∀(w:World)(mg:Str->Option Value)(fa:Addr)(h:Heap),(K w.params).In h->h.Ns mainGlobals mg->mg d.name=some (.ref fa) -> ∃(fd:FuncData)(cN TN:Addr),W.tabIn (K w.params) "nearest"=some (cN,TN)/\W.noTabs (K w.params)=true/\(∀(s:Shared)(u:Value),BindsTo s fd ⟨[u],[]⟩ [("_law_script", u)])/\∀base:Heap,(K w.params).In base->base.Ns mainGlobals mg->rX mg base->W.CodeHd base cN TN->gO l.prog w (K w.params) mg base CX0 10 fa fd ["_law_script"] (nY (K w.params) TN)): W.WalkO q loose XP YP l.row.toRowW d [] (fun f vs=>PySem.call f vs):=L2.aAn (n:=63) (k:=10) (x := "_law_script") (nm := "nearest") (CX:=fun _=>CX0) (sp:=fun w TN=>nY (K w.params) TN) hn (by decide) hdf ⟨rfl,by decide,by decide⟩ hY hrec F (fun _ _ a _ ns hl _ hT hS=>⟨a,ns,rfl,hS,hl,hT,fun _=>rfl⟩) fun _ _ _ _ _ z=>z
end Hf
namespace PySem.W.Fast
theorem tw10049587680322506524:True:=⟨⟩
theorem tw10073495032057194811:True:=⟨⟩
theorem tw10172676511391302081:True:=⟨⟩
theorem tw10239481296100181946:True:=⟨⟩
theorem tw10318073086624999498:True:=⟨⟩
theorem tw10431094354176450357:True:=⟨⟩
theorem tw10438718215302252507:True:=⟨⟩
theorem tw10442417420542883840:True:=⟨⟩
theorem tw10698206515850312669:True:=⟨⟩
theorem tw10750646676056572074:True:=⟨⟩
theorem tw10752904510411037010:True:=⟨⟩
theorem tw10897292697609956119:True:=⟨⟩
theorem tw10945257333429767221:True:=⟨⟩
theorem tw11003997599918961636:True:=⟨⟩
theorem tw11010241489614635255:True:=⟨⟩
theorem tw11030941890681724058:True:=⟨⟩
theorem tw11046156246020662610:True:=⟨⟩
theorem tw11070980204903816795:True:=⟨⟩
theorem tw11082931818762032662:True:=⟨⟩
theorem tw11093302769358378726:True:=⟨⟩
theorem tw11098425030448113286:True:=⟨⟩
theorem tw11275491909687737788:True:=⟨⟩
theorem tw11295191255029874365:True:=⟨⟩
theorem tw1132073229183124357:True:=⟨⟩
theorem tw11341328641831831589:True:=⟨⟩
theorem tw11490525801167024373:True:=⟨⟩
theorem tw11518858038722993020:True:=⟨⟩
theorem tw11637923164223068252:True:=⟨⟩
theorem tw11657436906912833779:True:=⟨⟩
theorem tw11705083859348081847:True:=⟨⟩
theorem tw11725690188903689613:True:=⟨⟩
theorem tw11727136931409504985:True:=⟨⟩
theorem tw11744148795538123664:True:=⟨⟩
theorem tw11788947179017846877:True:=⟨⟩
theorem tw11792958038068943868:True:=⟨⟩
theorem tw11807099810883163286:True:=⟨⟩
theorem tw11860530727684912302:True:=⟨⟩
theorem tw11869510929784456145:True:=⟨⟩
theorem tw11906025815685043996:True:=⟨⟩
theorem tw1191868092959995823:True:=⟨⟩
theorem tw11961322855718580955:True:=⟨⟩
theorem tw11966147098570203861:True:=⟨⟩
theorem tw11985837753660419838:True:=⟨⟩
theorem tw11993979703904874390:True:=⟨⟩
theorem tw12007110332661729066:True:=⟨⟩
theorem tw12047000653116832464:True:=⟨⟩
theorem tw12079719779047173608:True:=⟨⟩
theorem tw12184562756322514568:True:=⟨⟩
theorem tw12218049113696304412:True:=⟨⟩
theorem tw12341688197756736205:True:=⟨⟩
theorem tw12374268129501750267:True:=⟨⟩
theorem tw12396183134751071483:True:=⟨⟩
theorem tw12487836591982960768:True:=⟨⟩
theorem tw12526296258047503388:True:=⟨⟩
theorem tw1252860410948235332:True:=⟨⟩
theorem tw12533329734808524433:True:=⟨⟩
theorem tw12538456335159693817:True:=⟨⟩
theorem tw12702454541114283392:True:=⟨⟩
theorem tw12722325883512452279:True:=⟨⟩
theorem tw127382635365697803:True:=⟨⟩
theorem tw12864373031071275087:True:=⟨⟩
theorem tw12890298785498549025:True:=⟨⟩
theorem tw12964514978481703608:True:=⟨⟩
theorem tw13079032576323433962:True:=⟨⟩
theorem tw13106798753143124924:True:=⟨⟩
theorem tw1311741643122198618:True:=⟨⟩
theorem tw13156273723632382619:True:=⟨⟩
theorem tw1316595432015581210:True:=⟨⟩
theorem tw13244047533055913919:True:=⟨⟩
theorem tw13476130144453978668:True:=⟨⟩
theorem tw13478922901030203177:True:=⟨⟩
theorem tw13505914585997227714:True:=⟨⟩
theorem tw13505989496793973068:True:=⟨⟩
theorem tw13519561041695382198:True:=⟨⟩
theorem tw13520927245423983045:True:=⟨⟩
theorem tw13546022262934740753:True:=⟨⟩
theorem tw13607878873655038305:True:=⟨⟩
theorem tw13642225334564205227:True:=⟨⟩
theorem tw13761392023928610681:True:=⟨⟩
theorem tw13769262511341401752:True:=⟨⟩
theorem tw13787467627453816392:True:=⟨⟩
theorem tw13813797830312730773:True:=⟨⟩
theorem tw13877438476877276877:True:=⟨⟩
theorem tw13932483746495969632:True:=⟨⟩
theorem tw13996854443752675872:True:=⟨⟩
theorem tw1400596630955694035:True:=⟨⟩
theorem tw14026069503871269958:True:=⟨⟩
theorem tw14051823134200215333:True:=⟨⟩
theorem tw14175885465053387420:True:=⟨⟩
theorem tw14258754235037508264:True:=⟨⟩
theorem tw14307059897258585466:True:=⟨⟩
theorem tw1436131380784741168:True:=⟨⟩
theorem tw14385455360030763382:True:=⟨⟩
theorem tw14423752015464892991:True:=⟨⟩
theorem tw14436891955693242003:True:=⟨⟩
theorem tw14442054275739119445:True:=⟨⟩
theorem tw14574217471822069745:True:=⟨⟩
theorem tw14616199319087161832:True:=⟨⟩
theorem tw14655976966656759417:True:=⟨⟩
theorem tw14736095869998592821:True:=⟨⟩
theorem tw14837280475350312642:True:=⟨⟩
theorem tw14876577982343894664:True:=⟨⟩
theorem tw14908105720634958681:True:=⟨⟩
theorem tw14917527428797375034:True:=⟨⟩
theorem tw14936642575356629478:True:=⟨⟩
theorem tw14969830343039265603:True:=⟨⟩
theorem tw14991824335723599864:True:=⟨⟩
theorem tw14994166160238633661:True:=⟨⟩
theorem tw14995142339048161601:True:=⟨⟩
theorem tw15199392111357210443:True:=⟨⟩
theorem tw15212018851441879854:True:=⟨⟩
theorem tw15237966983460528812:True:=⟨⟩
theorem tw15290793302098338966:True:=⟨⟩
theorem tw15359434157543364942:True:=⟨⟩
theorem tw15449229454169133038:True:=⟨⟩
theorem tw15491963668890422022:True:=⟨⟩
theorem tw15516465120957163524:True:=⟨⟩
theorem tw1554491852373580117:True:=⟨⟩
theorem tw15654689076892791941:True:=⟨⟩
theorem tw157182663623219160:True:=⟨⟩
theorem tw15743954624335395729:True:=⟨⟩
theorem tw15759378256915256072:True:=⟨⟩
theorem tw15771671948737221795:True:=⟨⟩
theorem tw15882288878017420877:True:=⟨⟩
theorem tw16049532399402950128:True:=⟨⟩
theorem tw1605426872019280010:True:=⟨⟩
theorem tw16137287368707117810:True:=⟨⟩
theorem tw16211766425569470426:True:=⟨⟩
theorem tw16218845847622228452:True:=⟨⟩
theorem tw16256169402548758375:True:=⟨⟩
theorem tw16268908797391867513:True:=⟨⟩
theorem tw16277771948310093922:True:=⟨⟩
theorem tw16355474547767759995:True:=⟨⟩
theorem tw16363302780109033870:True:=⟨⟩
theorem tw16386570720221245165:True:=⟨⟩
theorem tw16428143517003772262:True:=⟨⟩
theorem tw16490103173635712167:True:=⟨⟩
theorem tw16503817461244843409:True:=⟨⟩
theorem tw16580269328203646521:True:=⟨⟩
theorem tw16592917705773935071:True:=⟨⟩
theorem tw166196808131920675:True:=⟨⟩
theorem tw16646482671816768158:True:=⟨⟩
theorem tw16746861382002723569:True:=⟨⟩
theorem tw16758160849789307543:True:=⟨⟩
theorem tw16842486818850120132:True:=⟨⟩
theorem tw16843585476105148448:True:=⟨⟩
theorem tw16851909916271458772:True:=⟨⟩
theorem tw1690704324356698381:True:=⟨⟩
theorem tw16925860690531508960:True:=⟨⟩
theorem tw16983891278007874610:True:=⟨⟩
theorem tw17008794552761690121:True:=⟨⟩
theorem tw17033824611815360519:True:=⟨⟩
theorem tw17146697613331522557:True:=⟨⟩
theorem tw17225436861675387533:True:=⟨⟩
theorem tw17237700153004633648:True:=⟨⟩
theorem tw17260405748483536149:True:=⟨⟩
theorem tw17266877427206887710:True:=⟨⟩
theorem tw1731890870136083998:True:=⟨⟩
theorem tw17437453631797802171:True:=⟨⟩
theorem tw17558345254830901544:True:=⟨⟩
theorem tw17640676690499688483:True:=⟨⟩
theorem tw17652697717504704534:True:=⟨⟩
theorem tw17661717550327955775:True:=⟨⟩
theorem tw17683589685599935549:True:=⟨⟩
theorem tw17715714757214393947:True:=⟨⟩
theorem tw17823409251437341834:True:=⟨⟩
theorem tw17863470925554337207:True:=⟨⟩
theorem tw17876085121647926197:True:=⟨⟩
theorem tw17907041060254652348:True:=⟨⟩
theorem tw17969890947134699861:True:=⟨⟩
theorem tw18021880446305243383:True:=⟨⟩
theorem tw18068715553713296304:True:=⟨⟩
theorem tw18070253064190528278:True:=⟨⟩
theorem tw18078317235021948680:True:=⟨⟩
theorem tw18097728344925467485:True:=⟨⟩
theorem tw18154085979503115983:True:=⟨⟩
theorem tw18159677869955765875:True:=⟨⟩
theorem tw18296755372409767611:True:=⟨⟩
theorem tw18325704575132006679:True:=⟨⟩
theorem tw18412602061406481921:True:=⟨⟩
theorem tw18446011975297295144:True:=⟨⟩
theorem tw1868388468551178035:True:=⟨⟩
theorem tw1913873454449946761:True:=⟨⟩
theorem tw1916992932525133781:True:=⟨⟩
theorem tw1924444618256354658:True:=⟨⟩
theorem tw204711289211620470:True:=⟨⟩
theorem tw2226329626012903190:True:=⟨⟩
theorem tw2316214952851044143:True:=⟨⟩
theorem tw2323759716880335776:True:=⟨⟩
theorem tw2402285682185622173:True:=⟨⟩
theorem tw2441962230597198807:True:=⟨⟩
theorem tw2468026656231398894:True:=⟨⟩
theorem tw2544277394135385332:True:=⟨⟩
theorem tw2562857534265635411:True:=⟨⟩
theorem tw2621928793687603116:True:=⟨⟩
theorem tw2643614006097755682:True:=⟨⟩
theorem tw2670098884683033805:True:=⟨⟩
theorem tw2759884792131328284:True:=⟨⟩
theorem tw2793222184957185565:True:=⟨⟩
theorem tw2797309309137912470:True:=⟨⟩
theorem tw2820874874634308996:True:=⟨⟩
theorem tw2823473080785836736:True:=⟨⟩
theorem tw2834668091578985385:True:=⟨⟩
theorem tw287632851642271311:True:=⟨⟩
theorem tw2919506737893953414:True:=⟨⟩
theorem tw2920126723573456457:True:=⟨⟩
theorem tw2963229111389570539:True:=⟨⟩
theorem tw3108719471027776994:True:=⟨⟩
theorem tw3138812494068626523:True:=⟨⟩
theorem tw3145003152488813620:True:=⟨⟩
theorem tw3161788330218059478:True:=⟨⟩
theorem tw3213799125514892663:True:=⟨⟩
theorem tw3244881695642808435:True:=⟨⟩
theorem tw3335044082897562569:True:=⟨⟩
theorem tw3436333949100976964:True:=⟨⟩
theorem tw3455393174694615562:True:=⟨⟩
theorem tw3461725763093252267:True:=⟨⟩
theorem tw3494149864428897948:True:=⟨⟩
theorem tw3500916813507569546:True:=⟨⟩
theorem tw359085817771692657:True:=⟨⟩
theorem tw3600310689077136028:True:=⟨⟩
theorem tw3684854301932003529:True:=⟨⟩
theorem tw3808711797088705322:True:=⟨⟩
theorem tw3946194872671624830:True:=⟨⟩
theorem tw4025635809885343882:True:=⟨⟩
theorem tw4025932851596244310:True:=⟨⟩
theorem tw4225175480692739739:True:=⟨⟩
theorem tw4257650686249563216:True:=⟨⟩
theorem tw4280315645233080060:True:=⟨⟩
theorem tw4286001187155204817:True:=⟨⟩
theorem tw4293173663521131304:True:=⟨⟩
theorem tw4304174164124337986:True:=⟨⟩
theorem tw4313539751048852040:True:=⟨⟩
theorem tw4596754174154101694:True:=⟨⟩
theorem tw4697059929453163875:True:=⟨⟩
theorem tw4710426204535226862:True:=⟨⟩
theorem tw4818563328160307665:True:=⟨⟩
theorem tw4843946486715537560:True:=⟨⟩
theorem tw487832225345075849:True:=⟨⟩
theorem tw4886698123266876430:True:=⟨⟩
theorem tw4925329041970113743:True:=⟨⟩
theorem tw4929606948040090993:True:=⟨⟩
theorem tw4931626757686805277:True:=⟨⟩
theorem tw4956257525794170638:True:=⟨⟩
theorem tw4984531881807055593:True:=⟨⟩
theorem tw4984729832788061046:True:=⟨⟩
theorem tw5080879310079201085:True:=⟨⟩
theorem tw5088266027355437887:True:=⟨⟩
theorem tw512257852042224896:True:=⟨⟩
theorem tw5152081264628998791:True:=⟨⟩
theorem tw5184086093020155329:True:=⟨⟩
theorem tw5191001246749103302:True:=⟨⟩
theorem tw5235533043923033117:True:=⟨⟩
theorem tw5235895190761265324:True:=⟨⟩
theorem tw5285326271321525384:True:=⟨⟩
theorem tw5287546891077847628:True:=⟨⟩
theorem tw5310086079659573658:True:=⟨⟩
theorem tw5321366243501384097:True:=⟨⟩
theorem tw5346787683393707389:True:=⟨⟩
theorem tw5360342890190699180:True:=⟨⟩
theorem tw5381081773935112792:True:=⟨⟩
theorem tw5424794225199676143:True:=⟨⟩
theorem tw5493950712514473487:True:=⟨⟩
theorem tw5506952407638872081:True:=⟨⟩
theorem tw5516020205649377172:True:=⟨⟩
theorem tw5554520998882126599:True:=⟨⟩
theorem tw5645260971942134479:True:=⟨⟩
theorem tw5703616858272829505:True:=⟨⟩
theorem tw570575260372360094:True:=⟨⟩
theorem tw5741723037840729369:True:=⟨⟩
theorem tw5787318603296351713:True:=⟨⟩
theorem tw5817680894909861495:True:=⟨⟩
theorem tw5863612635139458578:True:=⟨⟩
theorem tw5997056401899577371:True:=⟨⟩
theorem tw600214132794745254:True:=⟨⟩
theorem tw6022560560058176299:True:=⟨⟩
theorem tw6072998184043918416:True:=⟨⟩
theorem tw6143109748576756429:True:=⟨⟩
theorem tw6227175626470174392:True:=⟨⟩
theorem tw6254215481399965513:True:=⟨⟩
theorem tw6280519371491653636:True:=⟨⟩
theorem tw6309587933522884886:True:=⟨⟩
theorem tw6341786224670823935:True:=⟨⟩
theorem tw6404439371200777330:True:=⟨⟩
theorem tw6463134382694050135:True:=⟨⟩
theorem tw6479639308520960344:True:=⟨⟩
theorem tw6512743172153370023:True:=⟨⟩
theorem tw6517755444396161729:True:=⟨⟩
theorem tw6569225268950757401:True:=⟨⟩
theorem tw6578435597505606877:True:=⟨⟩
theorem tw6624215116557157521:True:=⟨⟩
theorem tw6708092588400394559:True:=⟨⟩
theorem tw6886739853014967585:True:=⟨⟩
theorem tw6894881801063623158:True:=⟨⟩
theorem tw6911420589686957222:True:=⟨⟩
theorem tw6920592665040060701:True:=⟨⟩
theorem tw6936068927591912847:True:=⟨⟩
theorem tw6989917872225752471:True:=⟨⟩
theorem tw6994021798002076137:True:=⟨⟩
theorem tw7039499753689418512:True:=⟨⟩
theorem tw7042581526330166202:True:=⟨⟩
theorem tw7135998309771832713:True:=⟨⟩
theorem tw7151378429978998998:True:=⟨⟩
theorem tw7158307735359091833:True:=⟨⟩
theorem tw7216440304299644352:True:=⟨⟩
theorem tw7223965210771752755:True:=⟨⟩
theorem tw7270397053790477936:True:=⟨⟩
theorem tw7278224278682406531:True:=⟨⟩
theorem tw7302246012725127760:True:=⟨⟩
theorem tw7383450706403489833:True:=⟨⟩
theorem tw7405146400067264705:True:=⟨⟩
theorem tw7452373469584580107:True:=⟨⟩
theorem tw7484740467303278143:True:=⟨⟩
theorem tw7518152672495865512:True:=⟨⟩
theorem tw7526324498010525993:True:=⟨⟩
theorem tw7734795046738756738:True:=⟨⟩
theorem tw7751183611130704312:True:=⟨⟩
theorem tw7761706114414506233:True:=⟨⟩
theorem tw7788795889022789462:True:=⟨⟩
theorem tw7791594004209655066:True:=⟨⟩
theorem tw7814435399922824816:True:=⟨⟩
theorem tw7824002531178909919:True:=⟨⟩
theorem tw7831638371086625416:True:=⟨⟩
theorem tw7857026296796852956:True:=⟨⟩
theorem tw7870496194211164623:True:=⟨⟩
theorem tw7893298153097284124:True:=⟨⟩
theorem tw790103571754286015:True:=⟨⟩
theorem tw7934010460086394568:True:=⟨⟩
theorem tw7973331424090428409:True:=⟨⟩
theorem tw8000056760602691841:True:=⟨⟩
theorem tw8012970079062114990:True:=⟨⟩
theorem tw8063613543359258011:True:=⟨⟩
theorem tw8066893787084387630:True:=⟨⟩
theorem tw8083112898774190838:True:=⟨⟩
theorem tw8139021503973109217:True:=⟨⟩
theorem tw8207906362999396323:True:=⟨⟩
theorem tw8213071083772822239:True:=⟨⟩
theorem tw831223950572590409:True:=⟨⟩
theorem tw8326525497361181293:True:=⟨⟩
theorem tw8406617647415500538:True:=⟨⟩
theorem tw8431451715901316504:True:=⟨⟩
theorem tw8439708410806379229:True:=⟨⟩
theorem tw8488990773681540200:True:=⟨⟩
theorem tw8509161309404352296:True:=⟨⟩
theorem tw8543973768994312934:True:=⟨⟩
theorem tw8698257352632988986:True:=⟨⟩
theorem tw8705637585340984451:True:=⟨⟩
theorem tw872651765739620438:True:=⟨⟩
theorem tw8732951405446823496:True:=⟨⟩
theorem tw8766093062362574038:True:=⟨⟩
theorem tw8775946722731576851:True:=⟨⟩
theorem tw8825122255297013775:True:=⟨⟩
theorem tw8906525040836391838:True:=⟨⟩
theorem tw8916137278899807198:True:=⟨⟩
theorem tw895185189606251272:True:=⟨⟩
theorem tw8953589310531744028:True:=⟨⟩
theorem tw8970879299470659779:True:=⟨⟩
theorem tw9008334250564477020:True:=⟨⟩
theorem tw9121098098618268462:True:=⟨⟩
theorem tw9163986850293299708:True:=⟨⟩
theorem tw9305418468704570373:True:=⟨⟩
theorem tw9340396534741641228:True:=⟨⟩
theorem tw9412779739681685752:True:=⟨⟩
theorem tw9486068897285730262:True:=⟨⟩
theorem tw9556452759982720157:True:=⟨⟩
theorem tw9584995251882910917:True:=⟨⟩
theorem tw9639587473946483106:True:=⟨⟩
theorem tw9680933511091379795:True:=⟨⟩
theorem tw9692756797486986216:True:=⟨⟩
theorem tw9780954327955338144:True:=⟨⟩
theorem tw9833138024844220128:True:=⟨⟩
theorem tw9859382233801409339:True:=⟨⟩
end PySem.W.Fast
open PySem PySem.W PyProof.Rows
set_option maxRecDepth 100000 in
set_option maxHeartbeats 0 in
theorem PySem.Challenge.cw_hirefair_k12_whole_a_fair_holds : PySem.Challenge.rw_hirefair_k12_whole_a_fair.Holds := by
 w_on;o_law;k_head;(case hw=>w_witness2)
 k_fill
 refine Hf.aHk (l:=PySem.Challenge.rw_hirefair_k12_whole_a_fair) rfl rfl (fun w h Y=>W.km_in_of Y) rfl ?F
 case F=>
   intro w mg fa h KX G hmg
   refine' Hf.aFq KX G hmg (by kernel_rfl) ?d_check_table ?d_check_task ?d_can_do ?d_cheapest ?d_is_content ?d_look_from ?d_searched ?d_has_goal ?d_raise_prices ?d_move_along ?d_shortage ?d_keep_content ?d_settled ?d_told ?d_check_there ?d_by_numbers ?d_done ?d_answered ?d_answers ?d_upto ?d_whole ?d_at ?d_numbers ?d_one_to_one ?d_least_shown ?d_rising ?d_short_shown ?d_answer_holds ?d_row_by ?d_deeds ?d_copy_deeds ?d_stepped ?d_deal_holds ?d_like ?d_law ?z_len ?z_range ?z_isinstance ?z_int ?z_bool ?z_list ?z_all ?z_min ?z_set ?z_zip ?z_enumerate ?z_sum ?z_vErr ?z_tuple ?z_str ?z_sorted ?z_max ?z_dict ?d_nearest ?nBd ?nSr ?cBd ?cSr ?bMk ?bKp ?sMk ?sKp ?b_count ?b_rows ?b_prices ?b_tasks ?b_hands ?b_short ?s_far ?s_through ?s_ahead ?s_reached ?mBi ?mBs ?mSi ?nFr ?cFr ?fMk ?fKp ?f_many ?f_rows ?f_given ?f_tasks ?f_prices ?mFi ?mFc ?mFl ?mFk ?mFd ?cT ?cH ?cK ?eT ?xT ?eH ?xH ?eK ?xK ?r1 ?r2 ?r3 ?r4 ?r5 ?r6
   (case d_check_table=>(refine' Hf.bA ?a ?l ?c ?k;(case a=>k_is);(case l=>k_is);(case c=>k_is);(case k=>k_is)))
   (case d_check_task=>(refine' Hf.bA ?a ?l ?c ?k;(case a=>k_is);(case l=>k_is);(case c=>k_is);(case k=>k_is)))
   (case d_can_do=>(refine' Hf.bA ?a ?l ?c ?k;(case a=>k_is);(case l=>k_is);(case c=>k_is);(case k=>k_is)))
   (case d_cheapest=>(refine' Hf.bA ?a ?l ?c ?k;(case a=>k_is);(case l=>k_is);(case c=>k_is);(case k=>k_is)))
   (case d_is_content=>(refine' Hf.bA ?a ?l ?c ?k;(case a=>k_is);(case l=>k_is);(case c=>k_is);(case k=>k_is)))
   (case d_look_from=>(refine' Hf.bA ?a ?l ?c ?k;(case a=>k_is);(case l=>k_is);(case c=>k_is);(case k=>k_is)))
   (case d_searched=>(refine' Hf.bA ?a ?l ?c ?k;(case a=>k_is);(case l=>k_is);(case c=>k_is);(case k=>k_is)))
   (case d_has_goal=>(refine' Hf.bA ?a ?l ?c ?k;(case a=>k_is);(case l=>k_is);(case c=>k_is);(case k=>k_is)))
   (case d_raise_prices=>(refine' Hf.bA ?a ?l ?c ?k;(case a=>k_is);(case l=>k_is);(case c=>k_is);(case k=>k_is)))
   (case d_move_along=>(refine' Hf.bA ?a ?l ?c ?k;(case a=>k_is);(case l=>k_is);(case c=>k_is);(case k=>k_is)))
   (case d_shortage=>(refine' Hf.bA ?a ?l ?c ?k;(case a=>k_is);(case l=>k_is);(case c=>k_is);(case k=>k_is)))
   (case d_keep_content=>(refine' Hf.bA ?a ?l ?c ?k;(case a=>k_is);(case l=>k_is);(case c=>k_is);(case k=>k_is)))
   (case d_settled=>(refine' Hf.bA ?a ?l ?c ?k;(case a=>k_is);(case l=>k_is);(case c=>k_is);(case k=>k_is)))
   (case d_told=>(refine' Hf.bA ?a ?l ?c ?k;(case a=>k_is);(case l=>k_is);(case c=>k_is);(case k=>k_is)))
   (case d_check_there=>(refine' Hf.bA ?a ?l ?c ?k;(case a=>k_is);(case l=>k_is);(case c=>k_is);(case k=>k_is)))
   (case d_by_numbers=>(refine' Hf.bA ?a ?l ?c ?k;(case a=>k_is);(case l=>k_is);(case c=>k_is);(case k=>k_is)))
   (case d_done=>(refine' Hf.bA ?a ?l ?c ?k;(case a=>k_is);(case l=>k_is);(case c=>k_is);(case k=>k_is)))
   (case d_answered=>(refine' Hf.bA ?a ?l ?c ?k;(case a=>k_is);(case l=>k_is);(case c=>k_is);(case k=>k_is)))
   (case d_answers=>(refine' Hf.bA ?a ?l ?c ?k;(case a=>k_is);(case l=>k_is);(case c=>k_is);(case k=>k_is)))
   (case d_upto=>(refine' Hf.bA ?a ?l ?c ?k;(case a=>k_is);(case l=>k_is);(case c=>k_is);(case k=>k_is)))
   (case d_whole=>(refine' Hf.bA ?a ?l ?c ?k;(case a=>k_is);(case l=>k_is);(case c=>k_is);(case k=>k_is)))
   (case d_at=>(refine' Hf.bA ?a ?l ?c ?k;(case a=>k_is);(case l=>k_is);(case c=>k_is);(case k=>k_is)))
   (case d_numbers=>(refine' Hf.bA ?a ?l ?c ?k;(case a=>k_is);(case l=>k_is);(case c=>k_is);(case k=>k_is)))
   (case d_one_to_one=>(refine' Hf.bA ?a ?l ?c ?k;(case a=>k_is);(case l=>k_is);(case c=>k_is);(case k=>k_is)))
   (case d_least_shown=>(refine' Hf.bA ?a ?l ?c ?k;(case a=>k_is);(case l=>k_is);(case c=>k_is);(case k=>k_is)))
   (case d_rising=>(refine' Hf.bA ?a ?l ?c ?k;(case a=>k_is);(case l=>k_is);(case c=>k_is);(case k=>k_is)))
   (case d_short_shown=>(refine' Hf.bA ?a ?l ?c ?k;(case a=>k_is);(case l=>k_is);(case c=>k_is);(case k=>k_is)))
   (case d_answer_holds=>(refine' Hf.bA ?a ?l ?c ?k;(case a=>k_is);(case l=>k_is);(case c=>k_is);(case k=>k_is)))
   (case d_row_by=>(refine' Hf.bA ?a ?l ?c ?k;(case a=>k_is);(case l=>k_is);(case c=>k_is);(case k=>k_is)))
   (case d_deeds=>(refine' Hf.bA ?a ?l ?c ?k;(case a=>k_is);(case l=>k_is);(case c=>k_is);(case k=>k_is)))
   (case d_copy_deeds=>(refine' Hf.bA ?a ?l ?c ?k;(case a=>k_is);(case l=>k_is);(case c=>k_is);(case k=>k_is)))
   (case d_stepped=>(refine' Hf.bA ?a ?l ?c ?k;(case a=>k_is);(case l=>k_is);(case c=>k_is);(case k=>k_is)))
   (case d_deal_holds=>(refine' Hf.bA ?a ?l ?c ?k;(case a=>k_is);(case l=>k_is);(case c=>k_is);(case k=>k_is)))
   (case d_like=>(refine' Hf.bA ?a ?l ?c ?k;(case a=>k_is);(case l=>k_is);(case c=>k_is);(case k=>k_is)))
   (case d_law=>(refine' Hf.bA ?a ?l ?c ?k;(case a=>k_is);(case l=>k_is);(case c=>k_is);(case k=>k_is)))
   (case z_len=>k_is)
   (case z_range=>k_is)
   (case z_isinstance=>k_is)
   (case z_int=>k_is)
   (case z_bool=>k_is)
   (case z_list=>k_is)
   (case z_all=>k_is)
   (case z_min=>k_is)
   (case z_set=>k_is)
   (case z_zip=>k_is)
   (case z_enumerate=>k_is)
   (case z_sum=>k_is)
   (case z_vErr=>k_is)
   (case z_tuple=>k_is)
   (case z_str=>k_is)
   (case z_sorted=>k_is)
   (case z_max=>k_is)
   (case z_dict=>k_is)
   (case d_nearest=>(refine' Hf.aBx ?a ?l ?c ?k ?l2 ?v;(case a=>k_is);(case l=>k_is);(case c=>k_is);(case k=>k_is);(case l2=>k_is);(case v=>rfl)))
   (case nBd=>k_is)
   (case nSr=>k_is)
   (case cBd=>(refine' Hf.aA6 ?a ?l ?c ?k;(case a=>k_is);(case l=>k_is);(case c=>k_is);(case k=>k_is)))
   (case cSr=>(refine' Hf.aA6 ?a ?l ?c ?k;(case a=>k_is);(case l=>k_is);(case c=>k_is);(case k=>k_is)))
   (case bMk=>k_is)
   (case bKp=>k_is)
   (case sMk=>k_is)
   (case sKp=>k_is)
   (case b_count=>k_is)
   (case b_rows=>k_is)
   (case b_prices=>k_is)
   (case b_tasks=>k_is)
   (case b_hands=>k_is)
   (case b_short=>k_is)
   (case s_far=>k_is)
   (case s_through=>k_is)
   (case s_ahead=>k_is)
   (case s_reached=>k_is)
   (case mBi=>(refine' Hf.eZ ?a ?i ?l ?c ?k;(case a=>k_is);(case i=>k_is);(case l=>k_is);(case c=>k_is);(case k=>k_is)))
   (case mBs=>(refine' Hf.eZ ?a ?i ?l ?c ?k;(case a=>k_is);(case i=>k_is);(case l=>k_is);(case c=>k_is);(case k=>k_is)))
   (case mSi=>(refine' Hf.eZ ?a ?i ?l ?c ?k;(case a=>k_is);(case i=>k_is);(case l=>k_is);(case c=>k_is);(case k=>k_is)))
   (case nFr=>k_is)
   (case cFr=>(refine' Hf.aA6 ?a ?l ?c ?k;(case a=>k_is);(case l=>k_is);(case c=>k_is);(case k=>k_is)))
   (case fMk=>k_is)
   (case fKp=>k_is)
   (case f_many=>k_is)
   (case f_rows=>k_is)
   (case f_given=>k_is)
   (case f_tasks=>k_is)
   (case f_prices=>k_is)
   (case mFi=>(refine' Hf.eZ ?a ?i ?l ?c ?k;(case a=>k_is);(case i=>k_is);(case l=>k_is);(case c=>k_is);(case k=>k_is)))
   (case mFc=>(refine' Hf.eZ ?a ?i ?l ?c ?k;(case a=>k_is);(case i=>k_is);(case l=>k_is);(case c=>k_is);(case k=>k_is)))
   (case mFl=>(refine' Hf.eZ ?a ?i ?l ?c ?k;(case a=>k_is);(case i=>k_is);(case l=>k_is);(case c=>k_is);(case k=>k_is)))
   (case mFk=>(refine' Hf.eZ ?a ?i ?l ?c ?k;(case a=>k_is);(case i=>k_is);(case l=>k_is);(case c=>k_is);(case k=>k_is)))
   (case mFd=>(refine' Hf.eZ ?a ?i ?l ?c ?k;(case a=>k_is);(case i=>k_is);(case l=>k_is);(case c=>k_is);(case k=>k_is)))
   (case cT=>k_is)
   (case cH=>k_is)
   (case cK=>k_is)
   (case eT=>k_exc)
   (case xT=>exact⟨by k_is,by k_is,by k_is,by k_is,by k_is,by(show W.isClsIn _ _=true;k_is)⟩)
   (case eH=>k_exc)
   (case xH=>exact⟨by k_is,by k_is,by k_is,by k_is,by k_is,by(show W.isClsIn _ _=true;k_is)⟩)
   (case eK=>k_exc)
   (case xK=>exact⟨by k_is,by k_is,by k_is,by k_is,by k_is,by(show W.isClsIn _ _=true;k_is)⟩)
   (case r1=>kts_exm)
   (case r2=>kts_exm)
   (case r3=>kts_exm)
   (case r4=>kts_exm)
   (case r5=>kts_exm)
   (case r6=>kts_exm)
