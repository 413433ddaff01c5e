import PyProof.Rows.All
import Wide.All
import OpenK.AllK
import Wide.FinOn
import PyProof.EqAt
import PyProof.EqKinds
import PyProof.TupleCall
import KE.BitLaws
import PySem.SetTable
import PyProof.TupleKey
import PyProof.Rows.SetFrom
import KE.KLam
import KE.OsGo
import Open.SpecLaws
import KE.KRevIter
import Open.Pieces
import KE.OsHead
import PySem.Challenge.RW_chancechoices_s03_worst
set_option Elab.async false
set_option linter.all false
set_option maxRecDepth 100000
set_option maxHeartbeats 8000000
noncomputable section
namespace L2
open PySem PySem.Spec PyProof.Rows
abbrev Key:=Sum Int Str
def keyIs:Key->Value->Bool
 |.inl k,v=>Value.isInt k v
 |.inr x,v=>Value.isStrOf x v
def keyH(w:World):Key->Int
 |.inl k=>hashInt k
 |.inr x=>hashStr w x
theorem ks10:∀{k:Key}{v:Value},keyIs k v=true->(∃i t,k=Sum.inl i/\v=Value.int i t)\/(∃x t,k=Sum.inr x/\v=Value.str x t)
 |.inl i,v,h=>by
  obtain⟨t,e⟩:=Value.isInt_shape (k:=i) (v:=v) h
  exact .inl ⟨i,t,rfl,e⟩
 |.inr x,v,h=>by
  obtain⟨t,e⟩:=Value.isStrOf_shape (x:=x) (v:=v) h
  exact .inr ⟨x,t,rfl,e⟩
theorem keyIs_int(i:Int)(t:Tok):keyIs (.inl i) (.int i t)=true:=by simp[keyIs,Value.isInt]
theorem keyIs_str(x:Str)(t:Tok):keyIs (.inr x) (.str x t)=true:=by simp[keyIs,Value.isStrOf]
theorem key_ll(a b:Int):decide ((Sum.inl a:Key)=Sum.inl b)=(a==b):=by
 by_cases e:a=b
 ·subst e;simp
 ·have h:¬(Sum.inl a:Key)=Sum.inl b:=fun q=>e (Sum.inl.inj q)
  rw[decide_eq_false h]
  exact (beq_eq_false_iff_ne.mpr e).symm
theorem key_rr(a b:Str):decide ((Sum.inr a:Key)=Sum.inr b)=decide (a=b):=by
 by_cases e:a=b
 ·subst e;simp
 ·have h:¬(Sum.inr a:Key)=Sum.inr b:=fun q=>e (Sum.inr.inj q)
  rw[decide_eq_false h,decide_eq_false e]
theorem key_lr(a:Int)(b:Str):decide ((Sum.inl a:Key)=Sum.inr b)=false:=decide_eq_false (fun q=>nomatch q)
theorem key_rl(a:Str)(b:Int):decide ((Sum.inr a:Key)=Sum.inl b)=false:=decide_eq_false (fun q=>nomatch q)
def mixKind(prog:Program)(w:World):PySem.KeyKind prog w Key where
 is:=keyIs
 hash:=keyH w
 inj:=fun v a b ha hb=>by
  rcases ks10 ha with ⟨i,t,rfl,rfl⟩ | ⟨x,t,rfl,rfl⟩
  ·rcases ks10 hb with ⟨j,u,rfl,e⟩ | ⟨y,u,rfl,e⟩
   ·injection e with e1 _;rw[e1]
   ·exact nomatch e
  ·rcases ks10 hb with ⟨j,u,rfl,e⟩ | ⟨y,u,rfl,e⟩
   ·exact nomatch e
   ·injection e with e1 _;rw[e1]
 byValue:=fun k v h=>by
  rcases ks10 h with ⟨i,t,rfl,rfl⟩ | ⟨x,t,rfl,rfl⟩<;>rfl
 pyHash:=fun hv h=>by
  rcases ks10 hv with ⟨i,t,rfl,rfl⟩ | ⟨x,t,rfl,rfl⟩
  ·exact wpAny_pyHash_int h
  ·exact wpAny_pyHash_str h
 eqBool:=fun hu hv h=>by
  rcases ks10 hu with ⟨i,t,rfl,rfl⟩ | ⟨x,t,rfl,rfl⟩
  ·rcases ks10 hv with ⟨j,u,rfl,rfl⟩ | ⟨y,u,rfl,rfl⟩
   ·rw[key_ll] at h;exact wpAny_eqBool_int h
   ·rw[key_lr] at h;exact SeqAt.EqAt.int_str i t y u _ _ _ _ h
  ·rcases ks10 hv with ⟨j,u,rfl,rfl⟩ | ⟨y,u,rfl,rfl⟩
   ·rw[key_rl] at h;exact SeqAt.EqAt.str_int x t j u _ _ _ _ h
   ·rw[key_rr] at h;exact wpAny_eqBool_str h
 «strs»:=fun k x t v h=>by
  rcases ks10 h with ⟨i,u,rfl,e⟩ | ⟨y,u,rfl,e⟩
  ·exact nomatch e
  ·injection e with e1 _
   subst e1
   cases v<;>rfl
theorem mixKind_int(prog:Program)(w:World)(i:Int)(t:Tok):(mixKind prog w).is (.inl i) (.int i t)=true:=keyIs_int i t
theorem mixKind_str(prog:Program)(w:World)(x:Str)(t:Tok):(mixKind prog w).is (.inr x) (.str x t)=true:=keyIs_str x t
end L2
namespace L2
open PySem PySem.Spec PyProof.Rows
inductive V where
 |non | bl (b:Bool) | int (i:Int) | str (x:Str) | byt (b:Array UInt8) | flt (b:UInt64) | ref (a:Addr) | ty (n:String)
 deriving DecidableEq
def RelV:V->Value->Prop
 |.non,u=>u=Value.none
 |.bl b,u=>u=Value.bool b
 |.int i,u=>∃t,u=Value.int i t
 |.str x,u=>∃t,u=Value.str x t
 |.byt b,u=>∃t,u=Value.bytes b t
 |.flt b,u=>∃t,u=Value.float b t
 |.ref a,u=>u=Value.ref a
 |.ty n,u=>u=Value.type n
abbrev Vals:List V->List Value->Prop:=Paired RelV
theorem Vals.length{xs:List V}{us:List Value}(r:Vals xs us):xs.length=us.length:=Paired.length r
theorem Vals.get:∀{xs:List V}{us:List Value}{i:Nat}{x:V},Vals xs us->xs[i]? = some x->∃u,us[i]? = some u/\RelV x u
 |_,_,_,_,.nil,e=>by simp at e
 |_,_,0,_,.cons r _,e=>by simp at e;subst e;exact⟨_,rfl,r⟩
 |_,_,i+1,x,.cons _ t,e=>by
  obtain⟨u,h1,h2⟩:=Vals.get (i:=i) (x:=x) t (by simpa using e)
  exact⟨u,by simpa using h1,h2⟩
theorem Vals.set{x:V}{u:Value}(r:RelV x u):∀{xs:List V}{us:List Value}(i:Nat),Vals xs us->Vals (xs.set i x) (us.set i u)
 |_,_,_,.nil=>.nil
 |_,_,0,.cons _ t=>.cons r t
 |_,_,i+1,.cons q t=>.cons q (Vals.set r i t)
theorem Vals.append:∀{xs ys:List V}{us ws:List Value},Vals xs us->Vals ys ws->Vals (xs++ys) (us++ws)
 |_,_,_,_,.nil,s=>s
 |_,_,_,_,.cons r t,s=>.cons r (Vals.append t s)
theorem Vals.take:∀{xs:List V}{us:List Value}(n:Nat),Vals xs us->Vals (xs.take n) (us.take n)
 |_,_,0,_=>.nil
 |_,_,_+1,.nil=>.nil
 |_,_,n+1,.cons r t=>.cons r (Vals.take n t)
theorem Vals.drop:∀{xs:List V}{us:List Value}(n:Nat),Vals xs us->Vals (xs.drop n) (us.drop n)
 |_,_,0,r=>r
 |_,_,_+1,.nil=>.nil
 |_,_,n+1,.cons _ t=>Vals.drop n t
def RelO:Option V->Option Value->Prop
 |some v,some u=>RelV v u
 |none,none=>True
 |_,_=>False
def KV{κ:Type}:List (κ×V)->List (κ×Value)->Prop:=Paired fun (p:κ×V) (q:κ×Value)=>p.1=q.1/\RelV p.2 q.2
def kV:Key->V
 |.inl i=>.int i
 |.inr x=>.str x
inductive HO where
 |lst (xs:List V)
 |tup (xs:List V)
 |dK (kvs:List (Key×V)) | dT (kvs:List (List Key×V))
 |set (S:Int->Bool) (n:Nat)
 |ins (C dx:Addr) (fs:List (Str×V))
 |own (x:Addr)
 |xd (fs:List (Str×V))
 |met (f x:Addr)
 |rng (lo hi:Int)
 |frz (o:Obj) (u:HO)
 |tbl (ps:Array Value)
 |ext (φ:Heap->Prop)
abbrev Hp:=Addr->Option HO
def upd(H:Hp)(a:Addr)(o:HO):Hp:=fun b=>if b=a then some o else H b
theorem us10{H:Hp}{a:Addr}{o:HO}:upd H a o a=some o:=by unfold upd;rw[if_pos rfl]
theorem un10{H:Hp}{a b:Addr}{o:HO}(h:b≠a):upd H a o b=H b:=by unfold upd;rw[if_neg h]
theorem uu{H:Hp}{a:Addr}{o u:HO}:upd (upd H a o) a u=upd H a u:=by
 funext b;unfold upd;split<;>rfl
theorem no11{H:Hp}{a b:Addr}{o u:HO}(h:H a=some o)(h':H b=some u)(d:o≠u):a≠b:=by
 intro e;subst e;rw[h] at h';exact d (Option.some.inj h')
theorem non10{H:Hp}{a b:Addr}{o:HO}(h:H a=some o)(h':H b=none):a≠b:=by
 intro e;subst e;rw[h] at h';cases h'
section
variable(P:Program)(w:World)
def ObjOk(H:Hp)(h:Heap)(a:Addr):HO->Prop
 |.lst xs=>xs.length<=sizeLine/\∃(its:List Value) (n:Nat),Vals xs its/\h.get? a=some { cls:=.type "list",data:=.seq its.toArray n }
 |.tup xs=>xs.length<=sizeLine/\∃its:List Value,Vals xs its/\IsTup h a its.toArray
 |.dK kvs=>kvs.length<=sizeLine/\(a==sysModules)=false/\∃vs,KV kvs vs/\h.DictOf (mixKind P w) a vs
 |.dT kvs=>kvs.length<=sizeLine/\(a==sysModules)=false/\∃xs:List (List Key×Addr×Value),
   Paired (fun (p:List Key×V) (q:List Key×Addr×Value)=>p.1=q.1/\H q.2.1=some (.tup (p.1.map kV))/\RelV p.2 q.2.2) kvs xs /\
   ∃o es ep,h.get? a=some o/\o.ExactDict/\o.data=.dict es ep/\es.toList=xs.map (entryOfKey (tupleKind (mixKind P w)))/\(xs.map (·.1)).Nodup
 |.set S n=>h.SetOf (intKind P w) a S n
 |.ins C dx fs=>H dx=some (.own a)/\fs.length<=1000/\dx≠a/\h.get? a=some (PySem.W.instObj C dx) /\
   ∃mA,h.Ns1 dx mA/\(∀f,RelO (fs.lookup f) (mA f))/\PySem.Within mA (fs.map (·.1))
 |.own _=>∃o,h.get? a=some o
 |.xd fs=>∃mA,h.Ns1 a mA/\∀f,RelO (fs.lookup f) (mA f)
 |.rng lo hi=>∃t u v,h.get? a=some { cls:=.type "range",data:=.fields #[.int lo t,.int hi u,.int 1 v] }
 |.frz o u=>h.get? a=some o/\ObjOk H h a u
 |.tbl ps=>h.get? a=some { cls:=.none,data:=.fields ps }
 |.met f x=>h.get? a=some (PySem.W.methodObj (.ref f) (.ref x))
 |.ext φ=>φ h/\(∃o,h.get? a=some o)/\∀h1 h2:Heap,φ h1->(∀o,h1.get? a=some o->h2.get? a=some o)->φ h2
def HOk(H:Hp)(h:Heap):Prop:=∀a o,H a=some o->ObjOk P w H h a o
end
section
variable{P:Program}{w:World}{H H':Hp}{h h':Heap}{a:Addr}{o:HO}
theorem ObjOk.lt(x:ObjOk P w H h a o):a<h.objs.size:=by
 cases o with
 |lst xs=>obtain⟨_,_,_,_,e⟩:=x;exact Heap.lt_size e
 |tup xs=>obtain⟨_,_,_,p⟩:=x;exact p.lt
 |dK kvs=>obtain⟨_,_,_,_,o,_,_,e,_⟩:=x;exact Heap.lt_size e
 |dT kvs=>obtain⟨_,_,_,_,o,_,_,e,_⟩:=x;exact Heap.lt_size e
 |set S n=>obtain⟨o,_,_,_,e,_⟩:=x;exact Heap.lt_size e
 |ins C dx fs=>obtain⟨_,_,_,e,_⟩:=x;exact Heap.lt_size e
 |own y=>obtain⟨_,e⟩:=x;exact Heap.lt_size e
 |xd fs=>obtain⟨_,⟨_,_,_,e,_⟩,_⟩:=x;exact Heap.lt_size e
 |rng lo hi=>obtain⟨_,_,_,e⟩:=x;exact Heap.lt_size e
 |frz ob u=>obtain⟨e,_⟩:=x;exact Heap.lt_size e
 |tbl ps=>exact Heap.lt_size (show h.get? a=some _ from x)
 |met f y=>exact Heap.lt_size (show h.get? a=some _ from x)
 |ext φ=>obtain⟨_,⟨_,e⟩,_⟩:=x;exact Heap.lt_size e
theorem Paired.mapP{α β:Type}{F G:α->β->Prop}:∀{l₁:List α}{l₂:List β},Paired F l₁ l₂->(∀a b,F a b->G a b)->Paired G l₁ l₂
 |_,_,.nil,_=>.nil
 |_,_,.cons r t,f=>.cons (f _ _ r) (Paired.mapP t f)
theorem ObjOk.stay(x:ObjOk P w H h a o)(k:∀b u,(b=a\/H b=some (.own a))->h.get? b=some u->h'.get? b=some u)
  (ho:∀b,H b=some (.own a)->H' b=some (.own a)) (ht:∀b xs,H b=some (.tup xs)->H' b=some (.tup xs)):ObjOk P w H' h' a o:=by
 induction o with
 |lst xs=>obtain⟨z,its,n,r,e⟩:=x;exact⟨z,its,n,r,k _ _ (.inl rfl) e⟩
 |tup xs=>obtain⟨z,its,r,ob,e,c⟩:=x;exact⟨z,its,r,ob,k _ _ (.inl rfl) e,c⟩
 |dK kvs=>obtain⟨z,y,vs,r,ob,es,ep,e,c⟩:=x;exact⟨z,y,vs,r,ob,es,ep,k _ _ (.inl rfl) e,c⟩
 |dT kvs=>
  obtain⟨z,y,xs,r,ob,es,ep,e,c⟩:=x
  exact⟨z,y,xs,Paired.mapP r fun p q z=>⟨z.1,ht _ _ z.2.1,z.2.2⟩,ob,es,ep,k _ _ (.inl rfl) e,c⟩
 |set S n=>obtain⟨ob,es,ep,t,e,c⟩:=x;exact⟨ob,es,ep,t,k _ _ (.inl rfl) e,c⟩
 |ins C dx fs=>
  obtain⟨d,z,ne,e,mA,⟨od,es,ep,e2,c⟩,r⟩:=x
  exact⟨ho _ d,z,ne,k _ _ (.inl rfl) e,mA,⟨od,es,ep,k _ _ (.inr d) e2,c⟩,r⟩
 |own y=>obtain⟨ob,e⟩:=x;exact⟨ob,k _ _ (.inl rfl) e⟩
 |xd fs=>obtain⟨mA,⟨od,es,ep,e,c⟩,r⟩:=x;exact⟨mA,⟨od,es,ep,k _ _ (.inl rfl) e,c⟩,r⟩
 |rng lo hi=>obtain⟨t,u,v,e⟩:=x;exact⟨t,u,v,k _ _ (.inl rfl) e⟩
 |frz ob u ih=>obtain⟨e,q⟩:=x;exact⟨k _ _ (.inl rfl) e,ih q⟩
 |tbl ps=>
  have e:h.get? a=some { cls:=.none,data:=.fields ps }:=x
  show h'.get? a=some { cls:=.none,data:=.fields ps }
  exact k a _ (.inl rfl) e
 |met f y=>
  have e:h.get? a=some (PySem.W.methodObj (.ref f) (.ref y)):=x
  show h'.get? a=some (PySem.W.methodObj (.ref f) (.ref y))
  exact k a _ (.inl rfl) e
 |ext φ=>obtain⟨p,⟨o,e⟩,st⟩:=x;exact⟨st _ _ p fun o q=>k _ _ (.inl rfl) q,⟨o,k _ _ (.inl rfl) e⟩,st⟩
theorem HOk.lt(x:HOk P w H h)(e:H a=some o):a<h.objs.size:=(x a o e).lt
theorem HOk.fresh(x:HOk P w H h)(e:h.objs.size<=a):H a=none:=by
 cases q:H a with
 |none=>rfl
 |some u=>exact absurd (Nat.lt_of_lt_of_le (x.lt q) e) (Nat.lt_irrefl _)
theorem HOk.kept(x:HOk P w H h)(k:∀b u,h.get? b=some u->h'.get? b=some u):HOk P w H h':=fun a o e=>
 (x a o e).stay (fun b u _ q=>k b u q) (fun _ q=>q) fun _ _ q=>q
theorem HOk.laid(x:HOk P w H h)(k:∀b u,h.get? b=some u->h'.get? b=some u)(hp:h.objs.size<=a)(new:ObjOk P w (upd H a o) h' a o):HOk P w (upd H a o) h':=fun b u e=>by
 have hn:=x.fresh hp
 by_cases hb:b=a
 ·subst hb;rw[us10] at e;cases e;exact new
 ·rw[un10 hb] at e
  exact (x b u e).stay (fun c v _ q=>k c v q) (fun c q=>by rw[un10 (non10 q hn)];exact q) fun c xs q=>by rw[un10 (non10 q hn)];exact q
end
def Rd(H:Hp)(a:Addr)(u:HO):Prop:=H a=some u\/∃o,H a=some (.frz o u)
theorem Rd.ok{P:Program}{w:World}{H:Hp}{h:Heap}{a:Addr}{u:HO}(r:Rd H a u)(x:HOk P w H h):ObjOk P w H h a u:=by
 rcases r with r | ⟨o,r⟩
 ·exact x a u r
 ·obtain⟨_,q⟩:=x a _ r
  exact q
def Mut:Option HO->Prop
 |some (.lst _)=>True
 |some (.dK _)=>True
 |some (.dT _)=>True
 |some (.set _ _)=>True
 |some (.ins _ _ _)=>True
 |some (.ext _)=>True
 |_=>False
section
variable{P:Program}{w:World}{H:Hp}{h h':Heap}{x e:Addr}{o':HO}
theorem HOk.write(ok:HOk P w H h)(mu:Mut (H x))(he:e=x\/H e=some (.own x))(k:∀b u,b≠e->h.get? b=some u->h'.get? b=some u)(heo:∃u,h'.get? e=some u)
  (new:ObjOk P w (upd H x o') h' x o'):HOk P w (upd H x o') h':=fun b u q=>by
 have nown:∀c y,H c=some (.own y)->c≠x:=fun c y r z=>by subst z;rw[r] at mu;exact mu
 have ntup:∀c xs,H c=some (.tup xs)->c≠x:=fun c xs r z=>by subst z;rw[r] at mu;exact mu
 by_cases hb:b=x
 ·subst hb;rw[us10] at q;cases q;exact new
 ·rw[un10 hb] at q
  by_cases hbe:b=e
  ·have q':H b=some (.own x):=by
    rcases he with z | z
    ·exact absurd (hbe.trans z) hb
    ·rw[hbe];exact z
   rw[q] at q';cases q'
   obtain⟨v,hv⟩:=heo
   exact⟨v,by rw[hbe];exact hv⟩
  ·refine (ok b u q).stay (fun c v hc r=>k c v ?_ r) (fun c r=>by rw[un10 (nown c b r)];exact r) fun c xs r=>by rw[un10 (ntup c xs r)];exact r
   rcases hc with rfl | hc
   ·exact hbe
   ·rintro rfl
    rcases he with z | z
    ·exact nown c b hc z
    ·rw[hc] at z;cases z;exact hb rfl
end
structure Un(fs ex:List Addr)(H H':Hp)(h h':Heap):Prop where
 keep:∀b o,h.get? b=some o->H b=none->b ∉ fs->b ∉ ex->h'.get? b=some o
 slot:∀b o,h.get? b=some o->H b=none->b∈fs->b ∉ ex->∃sl,h'.get? b=some { o with slots:=sl }
 free:∀b o,h.get? b=some o->H b=none->b ∉ ex->H' b=none
 there:∀b o,h.get? b=some o->b ∉ ex->∃o',h'.get? b=some o'
 tups:∀b xs,H b=some (.tup xs)->H' b=some (.tup xs)
 frzs:∀b o u,H b=some (.frz o u)->H' b=some (.frz o u)
 tbls:∀b ps,H b=some (.tbl ps)->∃more,H' b=some (.tbl (ps++more))
section
variable{fs fs' ex ex':List Addr}{H H1 H2:Hp}{h h1 h2 h':Heap}{a x e:Addr}{o:HO}
theorem Un.any(u:Un fs ex H H1 h h1){b:Addr}{ob:Obj}(q:h.get? b=some ob)(n:H b=none)(hx:b ∉ ex):∃sl,h1.get? b=some { ob with slots:=sl }:=by
 by_cases hb:b∈fs
 ·exact u.slot b ob q n hb hx
 ·exact⟨ob.slots,u.keep b ob q n hb hx⟩
theorem Un.kept(k:∀b u,h.get? b=some u->h'.get? b=some u):Un fs ex H H h h':=
 ⟨fun b ob q _ _ _=>k b ob q,fun b ob q _ _ _=>⟨ob.slots,k b ob q⟩,fun _ _ _ n _=>n,fun b ob q _=>⟨ob,k b ob q⟩,fun _ _ q=>q,fun _ _ _ q=>q,fun _ ps q=>⟨#[],by rw[q];simp⟩⟩
theorem Un.refl:Un fs ex H H h h:=Un.kept fun _ _ q=>q
theorem Un.laid(k:∀b u,h.get? b=some u->h'.get? b=some u)(hp:h.objs.size<=a)(hn:H a=none):Un fs ex H (upd H a o) h h' where
 keep:=fun b u q _ _ _=>k b u q
 slot:=fun b u q _ _ _=>⟨u.slots,k b u q⟩
 free:=fun b u q n _=>by rw[un10 (Nat.ne_of_lt (Nat.lt_of_lt_of_le (Heap.lt_size q) hp))];exact n
 there:=fun b u q _=>⟨u,k b u q⟩
 tups:=fun b xs q=>by rw[un10 (non10 q hn)];exact q
 frzs:=fun b u xs q=>by rw[un10 (non10 q hn)];exact q
 tbls:=fun b ps q=>⟨#[],by rw[un10 (non10 q hn),q];simp⟩
theorem Un.write(mu:Mut (H x))(he:e=x\/H e=some (.own x))(k:∀b u,b≠e->h.get? b=some u->h'.get? b=some u)(heo:∃u,h'.get? e=some u):Un fs ex H (upd H x o) h h':=by
 have hx:∀b,H b=none->b≠x:=fun b n z=>by subst z;rw[n] at mu;exact mu
 have hb:∀b,H b=none->b≠e:=fun b n z=>by
  subst z
  rcases he with r | r
  ·exact hx b n r
  ·rw[n] at r;cases r
 have hm:∀b u,H b=some u->¬Mut (some u)->b≠x:=fun b u q nm z=>by subst z;rw[q] at mu;exact nm mu
 refine⟨fun b u q n _ _=>k b u (hb b n) q,fun b u q n _ _=>⟨u.slots,k b u (hb b n) q⟩,fun b u q n _=>by rw[un10 (hx b n)];exact n,fun b u q _=>?_,
  fun b xs q=>by rw[un10 (hm b _ q fun z=>z)];exact q,fun b u xs q=>by rw[un10 (hm b _ q fun z=>z)];exact q,fun b ps q=>⟨#[],by rw[un10 (hm b _ q fun z=>z),q];simp⟩⟩
 by_cases hbe:b=e
 ·subst hbe;exact heo
 ·exact⟨u,k b u hbe q⟩
end
def trk(h:Heap)(H:Hp):List Addr:=(List.range h.objs.size).filter fun a=>(H a).isSome
def hidT(h:Heap)(H:Hp):Heap:=PySem.W.hideAll h (trk h H)
theorem hidT_size(h:Heap)(H:Hp):(hidT h H).objs.size=h.objs.size:=PySem.W.hideAll_size _ _
theorem hidT_get{h:Heap}{H:Hp}{b:Addr}{o:Obj}(e:h.get? b=some o)(n:H b=none):(hidT h H).get? b=some o:=
 PySem.W.hideAll_get _ e fun hm=>by
  have q:(H b).isSome=true:=(List.mem_filter.mp hm).2
  rw[n] at q;simp at q
theorem of_hidT{h:Heap}{H:Hp}{b:Addr}{o:Obj}(e:(hidT h H).get? b=some o):h.get? b=some o/\H b=none:=by
 have e':h.get? b=some o:=PySem.W.of_hideAll (trk h H) e
 refine⟨e',?_⟩
 cases q:H b with
 |none=>rfl
 |some x=>
  have hm:b∈trk h H:=List.mem_filter.mpr ⟨List.mem_range.mpr (Heap.lt_size e'),by simp[q]⟩
  have z:(hidT h H).get? b=none:=PySem.W.hideAll_none (trk h H) hm
  rw[z] at e;cases e
end L2
namespace L2
open PySem PySem.Spec PyProof.Rows
structure Mod(K:PySem.W.Frag)(mg:Str->Option Value)(base:Heap):Prop where
 kin:K.In base
 glob:base.Ns mainGlobals mg
 blt:∃mb,base.Ns builtinsNs mb/\∀x:Str,x≠"__name__"->mb x=bootBuiltins x
 nolimit:base.NoLimit
structure Cx where
 prog:Program
 w:World
 K:PySem.W.Frag
 mg:Str->Option Value
 base:Heap
 A:Around
 N:List Str
 s_0:Shared
 H_0:Hp
 env:Env
 outer:List Env
 stack:List Env
 ex:List Addr
 fn:Str->Bool
 calm:Bool
 pn:List (Addr×Obj)
 xe:Value->Shared->Prop
def frs(l:List Env):List Addr:=l.filterMap (·.frame)
abbrev Cx.fs(X:Cx):List Addr:=frs X.outer
def Vis(sc:Scope)(x:Str):Prop:=sc.names.lookup x=some .local\/sc.names.lookup x=some .cell\/sc.names.lookup x=some .free
def Loc(sc:Scope)(x:Str):Prop:=sc.names.lookup x=some .local\/sc.names.lookup x=some .cell
def Look(env:Env)(h:Heap)(m:Str->Option Value)(x:Str)(u:Value):Prop:=
 (env.kindOf x=some .local/\m x=some u)\/((env.kindOf x=some .cell\/env.kindOf x=some .free)/\∃c,env.cells.lookup x=some c/\h.IsCell c (some u))
structure Cx.Ok(X:Cx):Prop where
 mod:Mod X.K X.mg X.base
 kind:X.env.scope.kind=.function
 glob:X.env.globals=mainGlobals
 blt:X.env.builtins=builtinsNs
 above:X.s_0.heap.objs.size<=X.env.locals
 inj:∀x y c,X.env.cells.lookup x=some c->X.env.cells.lookup y=some c->x=y
 has:∀x,(X.env.kindOf x=some .cell\/X.env.kindOf x=some .free)->∃c,X.env.cells.lookup x=some c
 cab:∀x c,X.fn x=true->X.env.cells.lookup x=some c->X.s_0.heap.objs.size<=c
 hd:X.calm=true->X.A.handled=none
 frames:X.A.frames=some X.stack
 stk:X.stack=X.outer\/(X.stack=X.env::X.outer/\X.env.frame=some X.env.locals)
 exf:∀b∈X.ex,b≠X.env.locals/\∀x c,X.env.cells.lookup x=some c->c≠b
 bs:∀b o,X.base.get? b=some o->X.s_0.heap.get? b=some o/\X.H_0 b=none
 bsz:X.base.objs.size<=X.s_0.heap.objs.size
 noex:∀b o,X.base.get? b=some o->b ∉ X.ex
 exfs:∀b∈X.ex,b ∉ X.fs
 funs:X.s_0.heap.FunFrames X.base X.outer
 frf:∀b∈X.fs,X.H_0 b=none
structure Inv(X:Cx)(pins:List (Addr×Obj))(σ:List (Option V))(H:Hp)(s:Shared):Prop where
 ok:X.Ok
 os:s.os=X.s_0.os
 bare:AllBare s.gens
 base:Un X.fs X.ex X.H_0 H X.s_0.heap s.heap
 loc:∃m,s.heap.Ns X.env.locals m/\∀(i:Nat) (x:Str) (v:V),X.N[i]? = some x->σ[i]? = some (some v)->Vis X.env.scope x->∃u,RelV v u/\Look X.env s.heap m x u
 cell:∀x c,X.env.cells.lookup x=some c->∃v,s.heap.IsCell c v
 free:H X.env.locals=none
 freeC:∀x c,X.env.cells.lookup x=some c->H c=none
 pin:∀p∈X.pn++pins,s.heap.get? p.1=some p.2/\H p.1=none/\p.1≠X.env.locals/\p.1 ∉ X.fs/\∀v,p.2.data≠.cell v
 hok:HOk X.prog X.w H s.heap
 len:σ.length=X.N.length
section
variable{X:Cx}{pins:List (Addr×Obj)}{σ:List (Option V)}{H H':Hp}{s:Shared}{h':Heap}
theorem Cx.Ok.nofr(ok:X.Ok){b:Addr}{o:Obj}(e:X.base.get? b=some o):b ∉ X.fs:=fun hb=>by
 have:=(ok.funs.mem hb).1
 rw[e] at this;cases this
theorem Inv.bs(I:Inv X pins σ H s):∀b o,X.base.get? b=some o->s.heap.get? b=some o/\H b=none:=fun b o e=>
 ⟨I.base.keep b o (I.ok.bs b o e).1 (I.ok.bs b o e).2 (I.ok.nofr e) (I.ok.noex b o e),I.base.free b o (I.ok.bs b o e).1 (I.ok.bs b o e).2 (I.ok.noex b o e)⟩
theorem Inv.bk(I:Inv X pins σ H s):∀b o,X.base.get? b=some o->s.heap.get? b=some o:=fun b o e=>(I.bs b o e).1
theorem Inv.mod(I:Inv X pins σ H s):Mod X.K X.mg X.base:=I.ok.mod
theorem Inv.kIn(I:Inv X pins σ H s):X.K.In s.heap:=I.ok.mod.kin.keeps I.bk
theorem Inv.nolimit(I:Inv X pins σ H s):s.heap.NoLimit:=I.ok.mod.nolimit.keeps I.bk
theorem Inv.fr(I:Inv X pins σ H s):∃m,Fr X.base X.env.locals s.heap m:=
 let ⟨m,hn,_⟩:=I.loc
 ⟨m,hn,I.bk,Nat.le_trans I.ok.bsz I.ok.above⟩
theorem Inv.lt(I:Inv X pins σ H s):X.env.locals<s.heap.objs.size:=let ⟨_,hn,_⟩:=I.loc;hn.lt
theorem Inv.sz(I:Inv X pins σ H s):X.s_0.heap.objs.size<=s.heap.objs.size:=Nat.le_trans I.ok.above (Nat.le_of_lt I.lt)
theorem Inv.nofs(I:Inv X pins σ H s){a:Addr}(h:s.heap.objs.size<=a):a ∉ X.fs:=fun hb=>by
 obtain⟨_,o,ho,_⟩:=I.ok.funs.mem hb
 exact absurd (Nat.lt_of_lt_of_le (Heap.lt_size ho) (Nat.le_trans I.sz h)) (Nat.lt_irrefl _)
theorem Inv.cne(I:Inv X pins σ H s):∀x c,X.env.cells.lookup x=some c->c≠X.env.locals:=fun x c e z=>by
 obtain⟨v,o,ho,hd⟩:=I.cell x c e
 obtain⟨m,⟨o',es,ep,ho',hd',_⟩,_⟩:=I.loc
 rw[z,ho'] at ho;cases ho;rw[hd'] at hd;cases hd
theorem Inv.funs(I:Inv X pins σ H s):s.heap.FunFrames X.base X.outer:=by
 have all:∀(l:List Env),(∀b∈frs l,b∈X.fs)->X.s_0.heap.FunFrames X.base l->s.heap.FunFrames X.base l:=by
  intro l
  induction l with
  |nil=>intro _ _;trivial
  |cons env r ih=>
   intro hs hl
   obtain⟨hk,⟨L,o,hf,hn,ho,hd⟩,hr⟩:=hl
   have hL:L∈X.fs:=hs L (by unfold frs;rw[List.filterMap_cons,hf];exact List.mem_cons_self)
   obtain⟨sl,e⟩:=I.base.slot L o ho (I.ok.frf L hL) hL fun z=>I.ok.exfs L z hL
   exact⟨hk,⟨L,_,hf,hn,e,hd⟩,ih (fun b hb=>hs b (by unfold frs;rw[List.filterMap_cons,hf];exact List.mem_cons_of_mem _ hb)) hr⟩
 exact all X.outer (fun _ hb=>hb) I.ok.funs
theorem Inv.stack(I:Inv X pins σ H s):s.heap.FunFrames X.base X.stack:=by
 rcases I.ok.stk with e | ⟨e,hf⟩
 ·rw[e];exact I.funs
 ·rw[e]
  obtain⟨m,hn,_⟩:=I.loc
  refine .cons (by rw[I.ok.kind];decide) hf hn ?_ I.funs
  exact Heap.get?_none_of_le (Nat.le_trans I.ok.bsz I.ok.above)
theorem Inv.stkSub(I:Inv X pins σ H s):∀b∈frs X.stack,b∈X.env.locals::X.fs:=fun b hb=>by
 rcases I.ok.stk with e | ⟨e,hf⟩
 ·rw[e] at hb;exact List.mem_cons_of_mem _ hb
 ·rw[e] at hb
  unfold frs at hb
  rw[List.filterMap_cons,hf] at hb
  exact hb
theorem Inv.stkFree(I:Inv X pins σ H s):∀b∈frs X.stack,H b=none:=fun b hb=>by
 rcases List.mem_cons.mp (I.stkSub b hb) with e | hb
 ·rw[e];exact I.free
 ·obtain⟨_,o,ho,_⟩:=I.ok.funs.mem hb
  exact I.base.free b o ho (I.ok.frf b hb) fun z=>I.ok.exfs b z hb
theorem Inv.step{g':Array GenState}{t':Nat}{d':Drawn}{ch:List Addr}(I:Inv X pins σ H s)
  (hch:∀b∈ch,(b∈X.ex\/X.s_0.heap.objs.size<=b)/\b≠X.env.locals/\(∀x c,X.env.cells.lookup x=some c->c≠b)/\∀p∈X.pn++pins,p.1≠b)
  (keep:∀b o,b≠X.env.locals->b ∉ X.fs->b ∉ ch->s.heap.get? b=some o->H b=none->h'.get? b=some o)
  (slot:∀b o,b≠X.env.locals->b∈X.fs->b ∉ ch->s.heap.get? b=some o->H b=none->∃sl,h'.get? b=some { o with slots:=sl }) (free:∀b o,b ∉ ch->s.heap.get? b=some o->H b=none->H' b=none)
  (there:∀b o,b ∉ ch->s.heap.get? b=some o->∃o',h'.get? b=some o')
  (tups:∀b xs,H b=some (.tup xs)->H' b=some (.tup xs)) (frzs:∀b o u,H b=some (.frz o u)->H' b=some (.frz o u)) (tbls:∀b ps,H b=some (.tbl ps)->∃more,H' b=some (.tbl (ps++more)))
  (ns:∀m,s.heap.Ns X.env.locals m->h'.Ns X.env.locals m) (hok:HOk X.prog X.w H' h') (hg:AllBare g') :
  Inv X pins σ H' { s with heap:=h',gens:=g',drawn:=d',toks:=t' }:=by
 have neL:∀b o,X.s_0.heap.get? b=some o->b≠X.env.locals:=fun b o e=>Nat.ne_of_lt (Nat.lt_of_lt_of_le (Heap.lt_size e) I.ok.above)
 have neC:∀b o,X.s_0.heap.get? b=some o->b ∉ X.ex->b ∉ ch:=fun b o e hx hb=>by
  rcases (hch b hb).1 with z | z
  ·exact hx z
  ·exact absurd (Nat.lt_of_lt_of_le (Heap.lt_size e) z) (Nat.lt_irrefl _)
 have cellK:∀x c,X.env.cells.lookup x=some c->∀v,s.heap.IsCell c v->h'.IsCell c v:=fun x c e v ⟨o,ho,hd⟩=>by
  have nch:c ∉ ch:=fun z=>(hch c z).2.2.1 x c e rfl
  by_cases hc:c∈X.fs
  ·obtain⟨sl,q⟩:=slot c o (I.cne x c e) hc nch ho (I.freeC x c e)
   exact⟨_,q,hd⟩
  ·exact⟨o,keep c o (I.cne x c e) hc nch ho (I.freeC x c e),hd⟩
 refine⟨I.ok,I.os,hg,⟨fun b o e n hb hx=>?_,fun b o e n hb hx=>?_,fun b o e n hx=>?_,fun b o e hx=>?_,fun b xs e=>tups b xs (I.base.tups b xs e),fun b o xs e=>frzs b o xs (I.base.frzs b o xs e),fun b ps e=>?_⟩,?_,fun x c e=>?_,?_,fun x c e=>?_,fun p hp=>?_,hok,I.len⟩
 ·exact keep b o (neL b o e) hb (neC b o e hx) (I.base.keep b o e n hb hx) (I.base.free b o e n hx)
 ·obtain⟨sl,e1⟩:=I.base.slot b o e n hb hx
  obtain⟨sl',e2⟩:=slot b _ (neL b o e) hb (neC b o e hx) e1 (I.base.free b o e n hx)
  exact⟨sl',e2⟩
 ·obtain⟨o',e1⟩:=I.base.there b o e hx
  exact free b o' (neC b o e hx) e1 (I.base.free b o e n hx)
 ·obtain⟨o',e1⟩:=I.base.there b o e hx
  exact there b o' (neC b o e hx) e1
 ·obtain⟨m1,e1⟩:=I.base.tbls b ps e
  obtain⟨m2,e2⟩:=tbls b _ e1
  exact⟨m1++m2,by rw[e2,Array.append_assoc]⟩
 ·obtain⟨m,hn,hl⟩:=I.loc
  refine⟨m,ns m hn,fun i x v e1 e2 e3=>?_⟩
  obtain⟨u,r,l⟩:=hl i x v e1 e2 e3
  refine⟨u,r,?_⟩
  rcases l with l | ⟨k,c,e,z⟩
  ·exact .inl l
  ·exact .inr ⟨k,c,e,cellK x c e _ z⟩
 ·obtain⟨v,z⟩:=I.cell x c e
  exact⟨v,cellK x c e v z⟩
 ·obtain⟨m,⟨o,_,_,ho,_⟩,_⟩:=I.loc
  exact free _ o (fun z=>(hch _ z).2.1 rfl) ho I.free
 ·obtain⟨v,o,ho,hd⟩:=I.cell x c e
  exact free c o (fun z=>(hch c z).2.2.1 x c e rfl) ho (I.freeC x c e)
 ·obtain⟨e,n,ne,nf,d⟩:=I.pin p hp
  have nch:p.1 ∉ ch:=fun z=>(hch p.1 z).2.2.2 p hp rfl
  exact⟨keep p.1 p.2 ne nf nch e n,free p.1 p.2 nch e n,ne,nf,d⟩
theorem Inv.un{t':Nat}(I:Inv X pins σ H s)(u:Un X.fs [] H H' s.heap h')(hok:HOk X.prog X.w H' h'):Inv X pins σ H' { s with heap:=h',toks:=t' }:=by
 obtain⟨m,⟨o,es,ep,ho,r⟩,_⟩:=id I.loc
 obtain⟨sl,hL⟩:=u.any ho I.free (by simp)
 exact I.step (g':=s.gens) (d':=s.drawn) (ch:=[]) (fun _ z=>nomatch z) (fun b o _ hb _ e n=>u.keep b o e n hb (by simp)) (fun b o _ hb _ e n=>u.slot b o e n hb (by simp)) (fun b o _ e n=>u.free b o e n (by simp)) (fun b o _ e=>u.there b o e (by simp)) u.tups u.frzs u.tbls (fun m' hm=>by
  obtain⟨o',es',ep',ho',r'⟩:=hm
  rw[ho] at ho';cases ho'
  exact⟨_,es',ep',hL,r'⟩) hok I.bare
theorem Inv.call{g':Array GenState}{t':Nat}{d':Drawn}{ch:List Addr}(I:Inv X pins σ H s)(u:Un (frs X.stack) ch H H' s.heap h')(hok:HOk X.prog X.w H' h')(hg:AllBare g')
  (hch:∀b∈ch,(b∈X.ex\/X.s_0.heap.objs.size<=b)/\b≠X.env.locals/\(∀x c,X.env.cells.lookup x=some c->c≠b)/\∀p∈X.pn++pins,p.1≠b) :
  Inv X pins σ H' { s with heap:=h',gens:=g',drawn:=d',toks:=t' }:=by
 obtain⟨m,⟨o,es,ep,ho,r⟩,_⟩:=id I.loc
 obtain⟨sl,hL⟩:=u.any ho I.free fun z=>(hch _ z).2.1 rfl
 exact I.step (ch:=ch) hch (fun b o hL hb hc e n=>u.keep b o e n (fun z=>(List.mem_cons.mp (I.stkSub b z)).elim hL hb) hc) (fun b o _ _ hc e n=>u.any e n hc) (fun b o hc e n=>u.free b o e n hc) (fun b o hc e=>u.there b o e hc) u.tups u.frzs u.tbls (fun m' hm=>by
  obtain⟨o',es',ep',ho',r'⟩:=hm
  rw[ho] at ho';cases ho'
  exact⟨_,es',ep',hL,r'⟩) hok hg
theorem Inv.turned{t':Nat}{it:Addr}(I:Inv X pins σ H s)(k:∀b o,b≠it->s.heap.get? b=some o->h'.get? b=some o)(hn:H it=none)(hL:it≠X.env.locals)
  (h1:it∈X.ex\/X.s_0.heap.objs.size<=it) (h2:∀x c,X.env.cells.lookup x=some c->c≠it) (h3:∀p∈X.pn++pins,p.1≠it):Inv X pins σ H { s with heap:=h',toks:=t' }:=by
 have nit:∀b u,H b=some u->b≠it:=fun b u e z=>by rw[z,hn] at e;cases e
 refine I.step (g':=s.gens) (d':=s.drawn) (ch:=[it]) (fun b hb=>?_) (fun b o _ _ hc e _=>k b o (fun z=>hc (by simp[z])) e) (fun b o _ _ hc e _=>⟨o.slots,k b o (fun z=>hc (by simp[z])) e⟩) (fun _ _ _ _ n=>n)
  (fun b o hc e=>⟨o,k b o (fun z=>hc (by simp[z])) e⟩) (fun _ _ e=>e) (fun _ _ _ e=>e) (fun b ps e=>⟨#[],by rw[e];simp⟩) (fun m hm=>?_) (fun b u e=>?_) I.bare
 ·have e:b=it:=by simpa using hb
  subst e
  exact⟨h1,hL,h2,h3⟩
 ·obtain⟨o,es,ep,ho,r⟩:=hm
  exact⟨o,es,ep,k _ o (Ne.symm hL) ho,r⟩
 ·refine (I.hok b u e).stay (fun c v hc q=>k c v ?_ q) (fun _ q=>q) fun _ _ q=>q
  rcases hc with z | z
  ·rw[z];exact nit b u e
  ·exact nit c _ z
theorem Inv.tok(I:Inv X pins σ H s)(t:Nat):Inv X pins σ H { s with toks:=t }:=I.un (h':=s.heap) (t':=t) Un.refl I.hok
theorem Inv.kept{t':Nat}(I:Inv X pins σ H s)(k:∀b u,s.heap.get? b=some u->h'.get? b=some u):Inv X pins σ H { s with heap:=h',toks:=t' }:=I.un (Un.kept k) (I.hok.kept k)
theorem Inv.laid{a:Addr}{o:HO}{t':Nat}(I:Inv X pins σ H s)(k:∀b u,s.heap.get? b=some u->h'.get? b=some u)(hp:s.heap.objs.size<=a)(new:ObjOk X.prog X.w (upd H a o) h' a o) :
  Inv X pins σ (upd H a o) { s with heap:=h',toks:=t' }:=I.un (Un.laid k hp (I.hok.fresh hp)) (I.hok.laid k hp new)
theorem Inv.write{x e:Addr}{o:HO}{t':Nat}(I:Inv X pins σ H s)(mu:Mut (H x))(he:e=x\/H e=some (.own x))(k:∀b u,b≠e->s.heap.get? b=some u->h'.get? b=some u)(heo:∃u,h'.get? e=some u)
  (new:ObjOk X.prog X.w (upd H x o) h' x o):Inv X pins σ (upd H x o) { s with heap:=h',toks:=t' }:=I.un (Un.write mu he k heo) (I.hok.write mu he k heo new)
theorem Inv.weak{σ':List (Option V)}(I:Inv X pins σ H s)(hl:σ'.length = σ.length)(w:∀(i:Nat) v,σ'[i]? = some (some v)->σ[i]? = some (some v)):Inv X pins σ' H s:=
 ⟨I.ok,I.os,I.bare,I.base,let ⟨m,hn,hl'⟩:=I.loc;⟨m,hn,fun i x v e1 e2 e3=>hl' i x v e1 (w i v e2) e3⟩,I.cell,I.free,I.freeC,I.pin,I.hok,hl.trans I.len⟩
theorem Inv.pins_of{pins':List (Addr×Obj)}(I:Inv X pins σ H s)(h:∀p∈pins',s.heap.get? p.1=some p.2/\H p.1=none/\p.1≠X.env.locals/\p.1 ∉ X.fs/\∀v,p.2.data≠.cell v):Inv X pins' σ H s:=
 ⟨I.ok,I.os,I.bare,I.base,I.loc,I.cell,I.free,I.freeC,fun p hp=>(List.mem_append.mp hp).elim (fun z=>I.pin p (List.mem_append_left _ z)) (h p),I.hok,I.len⟩
theorem nodup_ix{N:List Str}(hN:N.Nodup){i j:Nat}{x:Str}(a:N[i]? = some x)(b:N[j]? = some x):i=j:=by
 obtain⟨h1,e1⟩:=List.getElem?_eq_some_iff.mp a
 obtain⟨h2,e2⟩:=List.getElem?_eq_some_iff.mp b
 exact (List.getElem_inj hN).mp (e1.trans e2.symm)
theorem store_ok2{M:Model}{A:Around}{E:Value->Shared->Prop}{i:Nat}{x:Str}{v:V}{u:Value}{Q:Unit->Shared->Prop}(I:Inv X pins σ H s)(hN:X.N.Nodup)(hi:X.N[i]? = some x)(hx:Loc X.env.scope x)(r:RelV v u)
  (h:∀s',Inv X pins (σ.set i (some v)) H s'->(∃a,Heap.SameBut a s.heap s'.heap/\(a=X.env.locals\/X.env.cells.lookup x=some a))->Q () s') (hf:X.fn x=true\/X.env.scope.names.lookup x=some .local:=by first | exact .inl rfl | exact .inr rfl | assumption):wpAny M A (storeName X.env x u) Q E s:=by
 obtain⟨m,hn,hl⟩:=id I.loc
 have hcls:(X.env.scope.kind == .class||(X.env.scope.kind == .module&&X.env.locals != X.env.globals))=false:=by rw[I.ok.kind];rfl
 have hiσ:i<σ.length:=by rw[I.len];exact (List.getElem?_eq_some_iff.mp hi).1
 have cne:=I.cne
 have tracked:∀{a:Addr} {h':Heap},(∃o,s.heap.get? a=some o/\H a=none)->Heap.SameBut a s.heap h'->HOk X.prog X.w H h':=fun {a h'} ha hs b ob e=>by
  obtain⟨_,_,hfree⟩:=ha
  refine (I.hok b ob e).stay (fun c w' hc q=>(hs.2 c ?_).trans q) (fun _ q=>q) fun _ _ q=>q
  rintro rfl
  rcases hc with rfl | hc
  ·rw[hfree] at e;cases e
  ·rw[hfree] at hc;cases hc
 rcases hx with hk | hk
 ·refine wpAny_storeName_local hk hn (fun h' hn' hs=>?_) hcls
  obtain⟨oL,_,_,hoL,_⟩:=id hn
  refine h _ ⟨I.ok,I.os,I.bare,⟨fun b o e n hb hx=>?_,fun b o e n hb hx=>?_,I.base.free,fun b o e hx=>?_,I.base.tups,I.base.frzs,I.base.tbls⟩,⟨_,hn',fun j y v' e1 e2 e3=>?_⟩,fun y c e=>?_,I.free,I.freeC,fun p hp=>?_,tracked ⟨oL,hoL,I.free⟩ hs,by simpa using I.len⟩ ⟨_,hs,.inl rfl⟩
  ·exact (hs.2 b (Nat.ne_of_lt (Nat.lt_of_lt_of_le (Heap.lt_size e) I.ok.above))).trans (I.base.keep b o e n hb hx)
  ·obtain⟨sl,e1⟩:=I.base.slot b o e n hb hx
   exact⟨sl,(hs.2 b (Nat.ne_of_lt (Nat.lt_of_lt_of_le (Heap.lt_size e) I.ok.above))).trans e1⟩
  ·obtain⟨o',e1⟩:=I.base.there b o e hx
   exact⟨o',(hs.2 b (Nat.ne_of_lt (Nat.lt_of_lt_of_le (Heap.lt_size e) I.ok.above))).trans e1⟩
  ·by_cases hj:j=i
   ·subst hj
    rw[hi] at e1;cases e1
    rw[List.getElem?_set_self hiσ] at e2
    cases e2
    exact⟨u,r,.inl ⟨hk,by simp⟩⟩
   ·rw[List.getElem?_set_ne (Ne.symm hj)] at e2
    obtain⟨u',r',q⟩:=hl j y v' e1 e2 e3
    refine⟨u',r',?_⟩
    rcases q with ⟨k,e⟩ | ⟨k,c,e,z⟩
    ·refine .inl ⟨k,?_⟩
     have:y≠x:=fun e=>hj (nodup_ix hN e1 (e ▸ hi))
     simp[this,e]
    ·exact .inr ⟨k,c,e,z.sameBut hs (cne y c e)⟩
  ·obtain⟨w',z⟩:=I.cell y c e
   exact⟨w',z.sameBut hs (cne y c e)⟩
  ·obtain⟨e,n,ne,nf,d⟩:=I.pin p hp
   exact⟨(hs.2 p.1 ne).trans e,n,ne,nf,d⟩
 ·have hfn:X.fn x=true:=by
   rcases hf with z | z
   ·exact z
   ·rw[z] at hk;cases hk
  obtain⟨c,hc⟩:=I.ok.has x (.inl hk)
  obtain⟨w',z⟩:=I.cell x c hc
  refine wpAny_storeName_cell I.ok.kind hk hc z (fun h' hc' hs=>?_)
  obtain⟨oc,hoc,hocd⟩:=id z
  refine h { s with heap:=h' } ⟨I.ok,I.os,I.bare,⟨fun b o e n hb hx=>?_,fun b o e n hb hx=>?_,I.base.free,fun b o e hx=>?_,I.base.tups,I.base.frzs,I.base.tbls⟩,⟨m,hn.sameBut hs (Ne.symm (cne x c hc)),fun j y v' e1 e2 e3=>?_⟩,fun y c' e=>?_,I.free,I.freeC,fun p hp=>?_,tracked ⟨oc,hoc,I.freeC x c hc⟩ hs,by simpa using I.len⟩ ⟨c,hs,.inr hc⟩
  ·exact (hs.2 b (Nat.ne_of_lt (Nat.lt_of_lt_of_le (Heap.lt_size e) (I.ok.cab x c hfn hc)))).trans (I.base.keep b o e n hb hx)
  ·obtain⟨sl,e1⟩:=I.base.slot b o e n hb hx
   exact⟨sl,(hs.2 b (Nat.ne_of_lt (Nat.lt_of_lt_of_le (Heap.lt_size e) (I.ok.cab x c hfn hc)))).trans e1⟩
  ·obtain⟨o',e1⟩:=I.base.there b o e hx
   exact⟨o',(hs.2 b (Nat.ne_of_lt (Nat.lt_of_lt_of_le (Heap.lt_size e) (I.ok.cab x c hfn hc)))).trans e1⟩
  ·by_cases hj:j=i
   ·subst hj
    rw[hi] at e1;cases e1
    rw[List.getElem?_set_self hiσ] at e2
    cases e2
    exact⟨u,r,.inr ⟨.inl hk,c,hc,hc'⟩⟩
   ·rw[List.getElem?_set_ne (Ne.symm hj)] at e2
    obtain⟨u',r',q⟩:=hl j y v' e1 e2 e3
    refine⟨u',r',?_⟩
    rcases q with q | ⟨k,c',e,z'⟩
    ·exact .inl q
    ·refine .inr ⟨k,c',e,z'.sameBut hs ?_⟩
     rintro rfl
     exact hj (nodup_ix hN e1 (I.ok.inj _ _ _ e hc ▸ hi))
  ·by_cases hcc:c'=c
   ·subst hcc;exact⟨_,hc'⟩
   ·obtain⟨w2,z2⟩:=I.cell y c' e
    exact⟨w2,z2.sameBut hs hcc⟩
  ·obtain⟨e,n,ne,nf,d⟩:=I.pin p hp
   refine⟨(hs.2 p.1 ?_).trans e,n,ne,nf,d⟩
   intro q
   rw[q,hoc] at e
   have q':oc=p.2:=Option.some.inj e
   exact d w' (by rw[<-q'];exact hocd)
theorem store_ok{M:Model}{A:Around}{E:Value->Shared->Prop}{i:Nat}{x:Str}{v:V}{u:Value}{Q:Unit->Shared->Prop}(I:Inv X pins σ H s)(hN:X.N.Nodup)(hi:X.N[i]? = some x)(hx:Loc X.env.scope x)(r:RelV v u)
  (h:∀s',Inv X pins (σ.set i (some v)) H s'->Q () s') (hf:X.fn x=true\/X.env.scope.names.lookup x=some .local:=by first | exact .inl rfl | exact .inr rfl | assumption):wpAny M A (storeName X.env x u) Q E s:=
 store_ok2 I hN hi hx r (fun s' I' _=>h s' I') hf
theorem Inv.call'{s':Shared}{ch:List Addr}(I:Inv X pins σ H s)(ho:s'.os=s.os)(u:Un (frs X.stack) ch H H' s.heap s'.heap)(hok:HOk X.prog X.w H' s'.heap)(hg:AllBare s'.gens)
  (hch:∀b∈ch,(b∈X.ex\/X.s_0.heap.objs.size<=b)/\b≠X.env.locals/\(∀x c,X.env.cells.lookup x=some c->c≠b)/\∀p∈X.pn++pins,p.1≠b):Inv X pins σ H' s':=by
 obtain⟨h',g',d',t',o'⟩:=s'
 have e:o'=s.os:=ho
 subst e
 exact I.call (g':=g') (t':=t') (d':=d') u hok hg hch
end
abbrev XK:=Value->Option Addr->Hp->Prop
abbrev St:=List (Option V)
abbrev VK:=V->Hp->Prop
abbrev TE:=St->Hp->VK->Prop
abbrev TT:=St->Hp->(Bool->Hp->Prop)->Prop
abbrev TA:=St->Hp->(List V->Hp->Prop)->Prop
structure Ends where
 nx:St->Hp->Prop
 rt:VK
 bk:St->Hp->Prop:=fun _ _=>False
 ct:St->Hp->Prop:=fun _ _=>False
abbrev TS:=Ends->St->Hp->Prop
def EP(X:Cx)(pins:List (Addr×Obj))(σ:St)(Q:VK)(u:Value)(s':Shared):Prop:=∃v H',Inv X pins σ H' s'/\RelV v u/\Q v H'
def TP(X:Cx)(pins:List (Addr×Obj))(σ:St)(Q:Bool->Hp->Prop)(b:Bool)(s':Shared):Prop:=∃H',Inv X pins σ H' s'/\Q b H'
def AP(X:Cx)(pins:List (Addr×Obj))(σ:St)(Q:List V->Hp->Prop)(us:List Value)(s':Shared):Prop:=∃vs H',Inv X pins σ H' s'/\Vals vs us/\Q vs H'
def SP(X:Cx)(pins:List (Addr×Obj))(D:Ends)(f:Flow)(s':Shared):Prop:=
 match f with
 |.next=>∃σ' H',Inv X pins σ' H' s'/\D.nx σ' H'
 |.brk=>∃σ' H',Inv X pins σ' H' s'/\D.bk σ' H'
 |.cont=>∃σ' H',Inv X pins σ' H' s'/\D.ct σ' H'
 |.ret u=>∃v σ' H',Inv X pins σ' H' s'/\RelV v u/\D.rt v H'
def PE(X:Cx)(e:Expr)(t:TE):Prop:=
 ∀(pins:List (Addr×Obj)) (s:Shared) (σ:St) (H:Hp) (Q:VK),Inv X pins σ H s->t σ H Q->wpAny (model X.prog X.w) X.A (eval e X.env) (EP X pins σ Q) X.xe s
def PT(X:Cx)(e:Expr)(t:TT):Prop:=
 ∀(pins:List (Addr×Obj)) (s:Shared) (σ:St) (H:Hp) (Q:Bool->Hp->Prop),Inv X pins σ H s->t σ H Q->wpAny (model X.prog X.w) X.A (isTrue e X.env (eval e X.env)) (TP X pins σ Q) X.xe s
def PW(X:Cx)(e:Expr)(t:TT):Prop:=
 ∀(whole:Sem Value) (pins:List (Addr×Obj)) (s:Shared) (σ:St) (H:Hp) (Q:Bool->Hp->Prop),Inv X pins σ H s->t σ H Q->wpAny (model X.prog X.w) X.A (isTrue e X.env whole) (TP X pins σ Q) X.xe s
theorem PW.pt{X:Cx}{e:Expr}{t:TT}(h:PW X e t):PT X e t:=h _
def PA(X:Cx)(es:List Expr)(t:TA):Prop:=
 ∀(pos:Pos) (pins:List (Addr×Obj)) (s:Shared) (σ:St) (H:Hp) (Q:List V->Hp->Prop),Inv X pins σ H s->t σ H Q->wpAny (model X.prog X.w) X.A (spliced (backTo pos (starEach es X.env))) (AP X pins σ Q) X.xe s
def PS(X:Cx)(st:Stmt)(t:TS):Prop:=
 ∀(pins:List (Addr×Obj)) (s:Shared) (σ:St) (H:Hp) (D:Ends),Inv X pins σ H s->t D σ H->wpAny (model X.prog X.w) X.A (exec st X.env) (SP X pins D) X.xe s
def PSs(X:Cx)(st:List Stmt)(t:TS):Prop:=
 ∀(pins:List (Addr×Obj)) (s:Shared) (σ:St) (H:Hp) (D:Ends),Inv X pins σ H s->t D σ H->wpAny (model X.prog X.w) X.A (execs st X.env) (SP X pins D) X.xe s
theorem thn{α:Type}{t:Sem α}{Q Q':α->Shared->Prop}{M:Model}{A:Around}{E:Value->Shared->Prop}{s:Shared}(h:wpAny M A t Q E s)(hQ:∀a s,Q a s->Q' a s):wpAny M A t Q' E s:=wpAny_mono h hQ fun _ _ x=>x
end L2
namespace L2
open PySem PySem.Spec PyProof.Rows
section
variable{X:Cx}
theorem bin{a b:Expr}{ta tb:TE}(ha:PE X a ta)(hb:PE X b tb){pins:List (Addr×Obj)}{s:Shared}{σ:St}{H:Hp}{R:V->V->Hp->Prop}(I:Inv X pins σ H s)(h:ta σ H fun x H1=>tb σ H1 fun y H2=>R x y H2)
  {α:Type} {Q:α->Shared->Prop} {f:Value->Value->Sem α}
  (hf:∀v u s2 x y H2,Inv X pins σ H2 s2->RelV x v->RelV y u->R x y H2->wpAny (model X.prog X.w) X.A (f v u) Q X.xe s2) :
  wpAny (model X.prog X.w) X.A (eval a X.env) (fun v s₁=>wpAny (model X.prog X.w) X.A (eval b X.env) (fun u s₂=>wpAny (model X.prog X.w) X.A (f v u) Q X.xe s₂) X.xe s₁) X.xe s:=by
 refine thn (ha pins s σ H _ I h) fun v s1 ⟨x,H1,I1,r1,q1⟩=>?_
 refine thn (hb pins s1 σ H1 _ I1 q1) fun u s2 ⟨y,H2,I2,r2,q2⟩=>?_
 exact hf v u s2 x y H2 I2 r1 r2 q2
def tVar(i:Nat):TE:=fun σ H Q=>∃v,σ[i]? = some (some v)/\Q v H
def tC(v:V):TE:=fun _ H Q=>Q v H
theorem pe_var{i:Nat}{x:Str}{pos:Pos}(hN:X.N[i]? = some x)(hv:Vis X.env.scope x)(hd:(x==("__debug__":Str))=false:=by decide)(hcd:(x==("__classdict__":Str))=false:=by decide):PE X (.Name x pos) (tVar i):=by
 intro pins s σ H Q I h
 obtain⟨v,e,h⟩:=h
 obtain⟨m,hn,hl⟩:=I.loc
 obtain⟨u,r,l⟩:=hl i x v hN e hv
 have fin:EP X pins σ Q u s:=⟨v,H,I,r,h⟩
 rcases l with ⟨hk,hm⟩ | ⟨hk,c,hc,hcell⟩
 ·exact wpAny_Name (wpAny_loadName_local I.ok.kind hk hn hm fin) hd
 ·rcases hk with hk | hk
  ·exact wpAny_Name (wpAny_loadName_cell I.ok.kind hk hc hcell fin) hd
  ·exact wpAny_Name (wpAny_loadName_free I.ok.kind hk hc hcell fin hcd) hd
theorem pi{i j pos}:PE X (.Constant (.int i) j pos) (tC (.int i)):=fun _ _ _ H _ I h=>wpAny_Constant_int ⟨.int i,H,I.tok _,⟨_,rfl⟩,h⟩
theorem pe_bl{b j pos}:PE X (.Constant (.bool b) j pos) (tC (.bl b)):=fun _ _ _ H _ I h=>Constant_bool ⟨.bl b,H,I,rfl,h⟩
def Gl(X:Cx)(x:Str):Prop:=X.env.kindOf x=some .globalImplicit
theorem lg10{E:Value->Shared->Prop}{pins:List (Addr×Obj)}{s:Shared}{σ:St}{H:Hp}{x:Str}{u:Value}{pos:Pos}{Q:Value->Shared->Prop}(I:Inv X pins σ H s)(hg:Gl X x)(hm:X.mg x=some u)(h:Q u s)
  (hd:(x==("__debug__":Str))=false:=by decide):wpAny (model X.prog X.w) X.A (eval (.Name x pos) X.env) Q E s:=
 Calls.Name_function_global I.ok.kind hg (Calls.loadGlobal_global (by rw[I.ok.glob];exact I.mod.glob.keeps I.bk) hm h) hd
theorem ld_blt{E:Value->Shared->Prop}{pins:List (Addr×Obj)}{s:Shared}{σ:St}{H:Hp}{x:Str}{u:Value}{pos:Pos}{Q:Value->Shared->Prop}(I:Inv X pins σ H s)(hg:Gl X x)(hm:X.mg x=none)(hv:bootBuiltins x=some u)(h:Q u s)
  (hn:x≠"__name__":=by decide) (hd:(x==("__debug__":Str))=false:=by decide):wpAny (model X.prog X.w) X.A (eval (.Name x pos) X.env) Q E s:=by
 obtain⟨mb,h1,h2⟩:=I.mod.blt
 exact Calls.Name_function_global I.ok.kind hg (Calls.loadGlobal_builtin (by rw[I.ok.glob];exact I.mod.glob.keeps I.bk) hm (by rw[I.ok.blt];exact h1.keeps I.bk) ((h2 x hn).trans hv) h) hd
theorem pe_glob{x:Str}{v:V}{u:Value}{pos:Pos}(hg:Gl X x)(hm:X.mg x=some u)(r:RelV v u)(hd:(x==("__debug__":Str))=false:=by decide):PE X (.Name x pos) (tC v):=
 fun _ _ _ H _ I h=>lg10 I hg hm ⟨v,H,I,r,h⟩ hd
variable{a b:Expr}{ta tb:TE}{pos:Pos}
def tB(t:TE):TT:=fun σ H Q=>t σ H fun x H1=>∃c,x=.bl c/\Q c H1
theorem pv10{e:Expr}{t:TE}(h:PE X e t)(he:∀whole,isTrue e X.env whole=(do let v <-whole;standAt e.pos;holding [v] (truthy v)):=by intro _;rfl):PT X e (tB t):=by
 intro pins s σ H Q I hw
 refine isTrue_plain (thn (h pins s σ H _ I hw) fun v s1 ⟨x,H1,I1,r1,q1⟩=>?_) (he _)
 obtain⟨d,rfl,q⟩:=q1
 cases r1
 exact wpAny_truthy_bool ⟨H1,I1,q⟩
variable{tA tB':TT}{rest:List Expr}
def tAnd(t u:TT):TT:=fun σ H Q=>t σ H fun c H1=>if c=true then u σ H1 Q else Q false H1
def tOr(t u:TT):TT:=fun σ H Q=>t σ H fun c H1=>if c=true then Q true H1 else u σ H1 Q
def tNot(t:TT):TT:=fun σ H Q=>t σ H fun c H1=>Q (!c) H1
theorem pw_and1(ha:PT X a tA):PW X (.BoolOp .And [a] pos) tA:=by
 intro wh pins s σ H Q I h
 refine isTrue_and (thn (ha pins s σ H Q I h) fun c s1 e=>?_)
 cases c with
 |true=>exact isTrue_and_nil e
 |false=>exact e
theorem pw_or1(ha:PT X a tA):PW X (.BoolOp .Or [a] pos) tA:=by
 intro wh pins s σ H Q I h
 refine isTrue_or (thn (ha pins s σ H Q I h) fun c s1 e=>?_)
 cases c with
 |false=>exact isTrue_or_nil e
 |true=>exact e
theorem pw_and(ha:PT X a tA)(hb:PW X (.BoolOp .And (b::rest) pos) tB'):PW X (.BoolOp .And (a::b::rest) pos) (tAnd tA tB'):=by
 intro wh pins s σ H Q I h
 refine isTrue_and (thn (ha pins s σ H _ I h) fun c s1 ⟨H1,I1,q1⟩=>?_)
 cases c with
 |true=>exact hb wh pins s1 σ H1 Q I1 q1
 |false=>exact⟨H1,I1,q1⟩
theorem pw_or(ha:PT X a tA)(hb:PW X (.BoolOp .Or (b::rest) pos) tB'):PW X (.BoolOp .Or (a::b::rest) pos) (tOr tA tB'):=by
 intro wh pins s σ H Q I h
 refine isTrue_or (thn (ha pins s σ H _ I h) fun c s1 ⟨H1,I1,q1⟩=>?_)
 cases c with
 |true=>exact⟨H1,I1,q1⟩
 |false=>exact hb wh pins s1 σ H1 Q I1 q1
theorem pt_not(ha:PT X a tA):PT X (.UnaryOp .Not a pos) (tNot tA):=by
 intro pins s σ H Q I h
 exact isTrue_not (ha pins s σ H (fun c H1=>Q (!c) H1) I h)
def tOrV(ta tb:TE):TE:=fun σ H Q=>ta σ H fun x H1=>∃c,x=.bl c/\if c=true then Q (.bl true) H1 else tb σ H1 Q
theorem pe_one{op}{t:TE}(h:PE X a t):PE X (.BoolOp op [a] pos) t:=fun pins s σ H Q I hw=>BoolOp_one (h pins s σ H Q I hw)
theorem pe_or(ha:PE X a ta)(hb:PE X (.BoolOp .Or (b::rest) pos) tb):PE X (.BoolOp .Or (a::b::rest) pos) (tOrV ta tb):=by
 intro pins s σ H Q I h
 refine BoolOp_or (thn (ha pins s σ H _ I h) fun v s1 ⟨x,H1,I1,r1,q1⟩=>?_)
 obtain⟨c,rfl,q1⟩:=q1
 cases r1
 refine wpAny_truthy_bool ?_
 cases c with
 |false=>exact hb pins s1 σ H1 Q I1 q1
 |true=>exact⟨.bl true,H1,I1,rfl,q1⟩
def tIf(t:TT)(ta tb:TE):TE:=fun σ H Q=>t σ H fun c H1=>if c=true then ta σ H1 Q else tb σ H1 Q
theorem pi11{c:Expr}(hc:PT X c tA)(ha:PE X a ta)(hb:PE X b tb):PE X (.IfExp c a b pos) (tIf tA ta tb):=by
 intro pins s σ H Q I h
 refine wpAny_IfExp (thn (hc pins s σ H _ I h) fun d s1 ⟨H1,I1,q1⟩=>?_)
 cases d with
 |true=>exact ha pins s1 σ H1 Q I1 q1
 |false=>exact hb pins s1 σ H1 Q I1 q1
end
end L2
namespace L2
open PySem PySem.Spec PyProof.Rows
def SqL(K:PySem.W.Frag)(H:Hp)(a:Addr)(xs:List V):Prop:=
 Rd H a (.lst xs) \/
  ∃(o:Obj) (its:Array Value) (n:Nat),K.lookup a=some o/\o.cls=.type "list"/\o.dict=none/\o.data=.seq its n/\its.size<=sizeLine/\Vals xs its.toList
def SqT(K:PySem.W.Frag)(H:Hp)(a:Addr)(xs:List V):Prop:=
 Rd H a (.tup xs) \/
  ∃(o:Obj) (its:Array Value) (n:Nat),K.lookup a=some o/\o.cls=.type "tuple"/\o.data=.seq its n/\its.size<=sizeLine/\Vals xs its.toList
def absV:Value->Option V
 |.none=>some .non
 |.bool b=>some (.bl b)
 |.int i _=>some (.int i)
 |.str x _=>some (.str x)
 |.bytes b _=>some (.byt b)
 |.float b _=>some (.flt b)
 |.ref a=>some (.ref a)
 |.type n=>some (.ty n)
 |_=>none
theorem RelV.abs{x:V}{u:Value}(r:RelV x u):absV u=some x:=by
 cases x with
 |non=>cases r;rfl
 |bl _=>cases r;rfl
 |int _=>obtain⟨t,rfl⟩:=r;rfl
 |str _=>obtain⟨t,rfl⟩:=r;rfl
 |byt _=>obtain⟨t,rfl⟩:=r;rfl
 |flt _=>obtain⟨t,rfl⟩:=r;rfl
 |ref _=>cases r;rfl
 |ty _=>cases r;rfl
theorem RelV.inj{x y:V}{u:Value}(r:RelV x u)(q:RelV y u):x=y:=Option.some.inj (r.abs.symm.trans q.abs)
theorem Vals.inj:∀{xs ys:List V}{us:List Value},Vals xs us->Vals ys us->xs=ys
 |_,_,_,.nil,.nil=>rfl
 |_,_,_,.cons r t,.cons r' t'=>by rw[r.inj r',Vals.inj t t']
section
variable{X:Cx}{pins:List (Addr×Obj)}{σ:St}{H:Hp}{s:Shared}{a:Addr}{xs ys:List V}
theorem SqL.of{K:PySem.W.Frag}(h:H a=some (.lst xs)):SqL K H a xs:=.inl (.inl h)
theorem SqT.of{K:PySem.W.Frag}(h:H a=some (.tup xs)):SqT K H a xs:=.inl (.inl h)
theorem Inv.list(I:Inv X pins σ H s)(h:SqL X.K H a xs):∃its:List Value,Vals xs its/\PlainL s.heap a its.toArray/\xs.length<=sizeLine:=by
 rcases h with h | ⟨o,its,n,hk,hc,hd,hs,hz,r⟩
 ·obtain⟨z,its,n,r,e⟩:=h.ok I.hok
  exact⟨its,r,⟨_,n,e,rfl,rfl,rfl⟩,z⟩
 ·refine⟨its.toList,r,⟨o,n,I.kIn a o hk,hc,hd,by simpa using hs⟩,?_⟩
  have e:=r.length
  simp only[Array.length_toList] at e
  omega
theorem Inv.tuple(I:Inv X pins σ H s)(h:SqT X.K H a xs):∃its:List Value,Vals xs its/\IsTup s.heap a its.toArray/\xs.length<=sizeLine:=by
 rcases h with h | ⟨o,its,n,hk,hc,hs,hz,r⟩
 ·obtain⟨z,its,r,p⟩:=h.ok I.hok
  exact⟨its,r,p,z⟩
 ·refine⟨its.toList,r,⟨o,I.kIn a o hk,hc,n,by simpa using hs⟩,?_⟩
  have e:=r.length
  simp only[Array.length_toList] at e
  omega
theorem Inv.list_inj(I:Inv X pins σ H s)(h:SqL X.K H a xs)(h':SqL X.K H a ys):xs=ys:=by
 obtain⟨its,r,⟨o,n,e,_,_,d⟩,_⟩:=I.list h
 obtain⟨its',r',⟨o',n',e',_,_,d'⟩,_⟩:=I.list h'
 rw[e] at e';cases e'
 rw[d] at d'
 injection d' with d1 _
 have:its=its':=by simpa using congrArg Array.toList d1
 subst this
 exact r.inj r'
end
section
variable{X:Cx}{pins:List (Addr×Obj)}{σ:St}{H:Hp}{s:Shared}{E:Value->Shared->Prop}
end
section
variable{X:Cx}{st:Stmt}{rest:List Stmt}{t u:TS}{e:Expr}{te:TE}{pos:Pos}
def tNext:TS:=fun D σ H=>D.nx σ H
def tSeq(t u:TS):TS:=fun D σ H=>t { D with nx:=u D } σ H
theorem pn13:PSs X [] tNext:=fun _ _ σ H _ I h=>wpAny_execs_nil ⟨σ,H,I,h⟩
theorem pc11(h1:PS X st t)(h2:PSs X rest u):PSs X (st::rest) (tSeq t u):=by
 intro pins s σ H D I h
 refine wpAny_execs_cons (thn (h1 pins s σ H { D with nx:=u D } I h) fun f s1 q=>?_)
 cases f with
 |next=>
  obtain⟨σ',H',I',q⟩:=q
  exact h2 pins s1 σ' H' D I' q
 |ret v=>exact q
 |brk=>exact q
 |cont=>exact q
theorem po10(h1:PS X st t):PSs X [st] t:=by
 intro pins s σ H D I h
 refine wpAny_execs_cons (thn (h1 pins s σ H D I h) fun f s1 q=>?_)
 cases f with
 |next=>exact wpAny_execs_nil q
 |ret v=>exact q
 |brk=>exact q
 |cont=>exact q
theorem Inv.quiet{pins:List (Addr×Obj)}{σ:St}{H:Hp}{s:Shared}(I:Inv X pins σ H s):interactive X.env=false:=by simp[interactive,I.ok.kind]
def tDrop(te:TE):TS:=fun D σ H=>te σ H fun _ H1=>D.nx σ H1
theorem pe10(he:PE X e te)(hs:swapsWith e none pos.line X.env=pure false:=by rfl):PS X (.Expr e pos) (tDrop te):=by
 intro pins s σ H D I h
 exact wpAny_Expr_any (thn (he pins s σ H _ I h) fun v s1 ⟨x,H1,I1,r1,q1⟩=>⟨σ,H1,I1,q1⟩) I.quiet hs
def tRet(te:TE):TS:=fun D σ H=>te σ H D.rt
theorem pr10(he:PE X e te):PS X (.Return (some e) pos) (tRet te):=by
 intro pins s σ H D I h
 exact wpAny_Return_some (thn (he pins s σ H _ I h) fun v s1 ⟨x,H1,I1,r1,q1⟩=>⟨x,σ,H1,I1,r1,q1⟩)
def tIfS(c:TT)(t u:TS):TS:=fun D σ H=>c σ H fun b H1=>if b=true then t D σ H1 else u D σ H1
theorem ps_if{c:Expr}{a b:List Stmt}{tc:TT}(hc:PT X c tc)(ha:PSs X a t)(hb:PSs X b u):PS X (.If c a b pos) (tIfS tc t u):=by
 intro pins s σ H D I h
 refine wpAny_If (thn (hc pins s σ H _ I h) fun d s1 ⟨H1,I1,q1⟩=>?_)
 cases d with
 |true=>exact ha pins s1 σ H1 D I1 q1
 |false=>exact hb pins s1 σ H1 D I1 q1
end
abbrev TG:=V->St->Hp->(St->Hp->Prop)->Prop
abbrev TGs:=List V->St->Hp->(St->Hp->Prop)->Prop
def PG(X:Cx)(target:Expr)(t:TG):Prop:=
 ∀(pins:List (Addr×Obj)) (s:Shared) (σ:St) (H:Hp) (v:V) (u:Value) (Q:St->Hp->Prop),Inv X pins σ H s->RelV v u->t v σ H Q ->
  wpAny (model X.prog X.w) X.A (assign target X.env u) (fun _ s'=>∃σ' H',Inv X pins σ' H' s'/\Q σ' H') X.xe s
def PGs(X:Cx)(ts:List Expr)(t:TGs):Prop:=
 ∀(pins:List (Addr×Obj)) (s:Shared) (σ:St) (H:Hp) (vs:List V) (us:List Value) (Q:St->Hp->Prop),Inv X pins σ H s->Vals vs us->t vs σ H Q ->
  wpAny (model X.prog X.w) X.A (assignInOrder ((assignEach ts X.env).map (·.2)) us) (fun _ s'=>∃σ' H',Inv X pins σ' H' s'/\Q σ' H') X.xe s
abbrev TSet:=V->V->V->Hp->(Hp->Prop)->Prop
def PSet(X:Cx)(t:TSet):Prop:=
 ∀(pins:List (Addr×Obj)) (s:Shared) (σ:St) (H:Hp) (o i v:V) (ov iv u:Value) (Q:Hp->Prop),Inv X pins σ H s->RelV o ov->RelV i iv->RelV v u->t o i v H Q ->
  wpAny (model X.prog X.w) X.A (setItem ov iv u) (fun _ s'=>∃H',Inv X pins σ H' s'/\Q H') X.xe s
abbrev TIp:=V->V->Hp->VK->Prop
def PIp(X:Cx)(op:Operator)(t:TIp):Prop:=
 ∀(pins:List (Addr×Obj)) (s:Shared) (σ:St) (H:Hp) (x y:V) (v u:Value) (Q:VK),Inv X pins σ H s->RelV x v->RelV y u->t x y H Q ->
  wpAny (model X.prog X.w) X.A (inplaceOp op v u) (EP X pins σ Q) X.xe s
section
variable{X:Cx}{pos:Pos}
def gName(i:Nat):TG:=fun v σ H Q=>Q (σ.set i (some v)) H
theorem pn11{i:Nat}{x:Str}(hN:X.N.Nodup)(hi:X.N[i]? = some x)(hx:Loc X.env.scope x)(hf:X.fn x=true\/X.env.scope.names.lookup x=some .local:=by first | exact .inl rfl | exact .inr rfl | assumption):PG X (.Name x pos) (gName i):=by
 intro pins s σ H v u Q I r h
 exact wpAny_assign_Name (store_ok I hN hi hx r (fun s' I'=>⟨_,H,I',h⟩) hf)
def gNil:TGs:=fun vs σ H Q=>vs=[]/\Q σ H
def gCons(t:TG)(u:TGs):TGs:=fun vs σ H Q=>∃v r,vs=v::r/\t v σ H fun σ' H'=>u r σ' H' Q
theorem pgs_nil:PGs X [] gNil:=by
 intro pins s σ H vs us Q I r h
 obtain⟨e,h⟩:=h
 subst e
 cases r
 exact assignInOrder_nil ⟨σ,H,I,h⟩
theorem pgs_cons{e:Expr}{es:List Expr}{t:TG}{u:TGs}(h1:PG X e t)(h2:PGs X es u)
  (hs:(assignEach (e::es) X.env).map (·.2)=assign e X.env::(assignEach es X.env).map (·.2):=by rfl):PGs X (e::es) (gCons t u):=by
 intro pins s σ H vs us Q I r h
 obtain⟨v,vr,e1,h⟩:=h
 subst e1
 cases r with
 |cons r rr=>
  rw[hs]
  refine assignInOrder_cons (thn (h1 pins s σ H _ _ _ I r h) fun _ s1 ⟨σ1,H1,I1,q1⟩=>?_)
  exact h2 pins s1 σ1 H1 _ _ Q I1 rr q1
def gTup(K:PySem.W.Frag)(n:Nat)(t:TGs):TG:=fun v σ H Q=>∃a xs,v=.ref a/\SqT K H a xs/\xs.length=n/\t xs σ H Q
theorem pg_tup{es:List Expr}{k:Nat}{t:TGs}{n:Nat}(hc:X.calm=true)(h:PGs X es t)
  (hn:(assignEach es X.env).length=n:=by rfl) (hst:(assignEach es X.env).findIdx? (·.1)=none:=by rfl):PG X (.Tuple es k pos) (gTup X.K n t):=by
 intro pins s σ H v u Q I r hw
 obtain⟨a,xs,e1,hq,hl,hw⟩:=hw
 subst e1
 cases r
 obtain⟨its,rv,ht,hz⟩:=I.tuple hq
 refine assign_Tuple_tuple (I.ok.hd hc) ht (by simp[hn,<-hl,rv.length]) hst fun h' hx=>?_
 have I1:Inv X pins σ H { s with heap:=h' }:=I.kept (t':=s.toks) fun b o e=>hx b o (Nat.ne_of_lt (Heap.lt_size e)) e
 exact h pins _ σ H xs _ Q I1 (by simpa using rv) hw
def gSub(to ti:TE)(t:TSet):TG:=fun v σ H Q=>to σ H fun o H1=>ti σ H1 fun i H2=>t o i v H2 fun H3=>Q σ H3
theorem pg_sub{o i:Expr}{to ti:TE}{t:TSet}(ho:PE X o to)(hi:PE X i ti)(hs:PSet X t)
  (ha:∀v,assign (.Subscript o i pos) X.env v=(do
   let ov <-holding [v] (eval o X.env)
   let iv <-holding [v,ov] (eval i X.env)
   standAt pos
   holding [v,ov,iv] (setItem ov iv v)
   release [v,ov,iv] []):=by intro _;rfl):PG X (.Subscript o i pos) (gSub to ti t):=by
 intro pins s σ H v u Q I r h
 rw[ha]
 refine wpAny_bind (wpAny_holding (thn (ho pins s σ H _ I h) fun ov s1 ⟨x,H1,I1,r1,q1⟩=>?_))
 refine wpAny_bind (wpAny_holding (thn (hi pins s1 σ H1 _ I1 q1) fun iv s2 ⟨y,H2,I2,r2,q2⟩=>?_))
 refine wpAny_bind (wpAny_standAt (wpAny_bind (wpAny_holding (thn (hs pins s2 σ H2 x y v ov iv u _ I2 r1 r2 r q2) fun _ s3 ⟨H3,I3,q3⟩=>?_))))
 exact wpAny_release ⟨σ,H3,I3,q3⟩
def tAsg(te:TE)(g:TG):TS:=fun D σ H=>te σ H fun x H1=>g x σ H1 D.nx
theorem ps_asg{tg e:Expr}{te:TE}{g:TG}(he:PE X e te)(hg:PG X tg g)(hs:swapsWithSole [tg] e pos.line X.env=pure false:=by rfl)(hw:swappedStores [tg] e X.env=pure none:=by rfl)
  (h1:(assignEach [tg] X.env).map (·.2)=[assign tg X.env]:=by rfl):PS X (.Assign [tg] e pos) (tAsg te g):=by
 intro pins s σ H D I h
 refine wpAny_Assign_stores (thn (he pins s σ H _ I h) fun v s1 ⟨x,H1,I1,r1,q1⟩=>?_) hs hw
 rw[h1]
 exact thn (hg pins s1 σ H1 x v _ I1 r1 q1) fun _ s2 q=>q
theorem ps10{i:Nat}{x:Str}{e:Expr}{te:TE}{pos':Pos}(hN:X.N.Nodup)(hi:X.N[i]? = some x)(hx:Loc X.env.scope x)(he:PE X e te)(hs:swapsWith e (some (.Name x pos')) pos.line X.env=pure false:=by rfl)(hf:X.fn x=true\/X.env.scope.names.lookup x=some .local:=by first | exact .inl rfl | exact .inr rfl | assumption) :
  PS X (.Assign [.Name x pos'] e pos) (tAsg te (gName i)):=by
 intro pins s σ H D I h
 refine wpAny_Assign_Name (thn (he pins s σ H _ I h) fun v s1 ⟨y,H1,I1,r1,q1⟩=>?_) hs
 exact store_ok I1 hN hi hx r1 (fun s2 I2=>⟨_,H1,I2,q1⟩) hf
def tAug(i:Nat)(te:TE)(ti:TIp):TS:=fun D σ H=>∃x,σ[i]? = some (some x)/\te σ H fun y H1=>ti x y H1 fun z H2=>D.nx (σ.set i (some z)) H2
theorem ps_aug{i:Nat}{x:Str}{e:Expr}{te:TE}{op:Operator}{ti:TIp}{pos':Pos}(hN:X.N.Nodup)(hi:X.N[i]? = some x)(hx:Loc X.env.scope x)(he:PE X e te)(ho:PIp X op ti)(hf:X.fn x=true\/X.env.scope.names.lookup x=some .local:=by first | exact .inl rfl | exact .inr rfl | assumption) :
  PS X (.AugAssign (.Name x pos') op e pos) (tAug i te ti):=by
 intro pins s σ H D I h
 obtain⟨v,e1,h⟩:=h
 obtain⟨m,hn,hl⟩:=I.loc
 have vis:Vis X.env.scope x:=by rcases hx with k | k;exact .inl k;exact .inr (.inl k)
 obtain⟨u,r,l⟩:=hl i x v hi e1 vis
 refine wpAny_AugAssign_Name ?_
 have go:wpAny (model X.prog X.w) X.A (eval e X.env) (fun w s₂=>wpAny (model X.prog X.w) X.A (inplaceOp op u w) (fun r s₃=>wpAny (model X.prog X.w) X.A (storeName X.env x r) (fun _=>SP X pins D .next) X.xe s₃) X.xe s₂) X.xe s:=by
  refine thn (he pins s σ H _ I h) fun w s1 ⟨y,H1,I1,r1,q1⟩=>?_
  refine thn (ho pins s1 σ H1 v y u w _ I1 r r1 q1) fun z s2 ⟨zv,H2,I2,r2,q2⟩=>?_
  exact store_ok I2 hN hi hx r2 (fun s3 I3=>⟨_,H2,I3,q2⟩) hf
 rcases l with ⟨hk,hm⟩ | ⟨hk,c,hc,hcell⟩
 ·exact wpAny_loadName_local I.ok.kind hk hn hm go
 ·rcases hk with hk | hk
  ·exact wpAny_loadName_cell I.ok.kind hk hc hcell go
  ·rcases hx with k | k
   ·have:X.env.scope.names.lookup x=some .free:=hk
    rw[k] at this;cases this
   ·have:X.env.scope.names.lookup x=some .free:=hk
    rw[k] at this;cases this
def tAugS(to ti te:TE)(tget:V->V->Hp->VK->Prop)(tip:TIp)(tset:TSet):TS:=fun D σ H=>to σ H fun o H1=>ti σ H1 fun i H2=>tget o i H2 fun x H3=>te σ H3 fun y H4=>tip x y H4 fun z H5=>tset o i z H5 fun H6=>D.nx σ H6
def PGet(X:Cx)(t:V->V->Hp->VK->Prop):Prop:=
 ∀(pins:List (Addr×Obj)) (s:Shared) (σ:St) (H:Hp) (o i:V) (ov iv:Value) (Q:VK),Inv X pins σ H s->RelV o ov->RelV i iv->t o i H Q ->
  wpAny (model X.prog X.w) X.A (getItem ov iv) (EP X pins σ Q) X.xe s
theorem ps_augS{o i e:Expr}{to ti te:TE}{tget:V->V->Hp->VK->Prop}{tip:TIp}{tset:TSet}{op:Operator}{tpos:Pos}(ho:PE X o to)(hi:PE X i ti)(hg:PGet X tget)(he:PE X e te)(hp:PIp X op tip)(hs:PSet X tset)
  (ha:∀ov iv new,augStore i ov iv new=(do holding [new,ov,iv] (setItem ov iv new);release [new,ov,iv] [];pure .next):=by intros;rfl):PS X (.AugAssign (.Subscript o i tpos) op e pos) (tAugS to ti te tget tip tset):=by
 intro pins s σ H D I h
 refine wpAny_AugAssign_SubscriptAny (thn (ho pins s σ H _ I h) fun ov s1 ⟨x1,H1,I1,r1,q1⟩=>?_) ha
 refine thn (hi pins s1 σ H1 _ I1 q1) fun iv s2 ⟨x2,H2,I2,r2,q2⟩=>?_
 refine thn (hg pins s2 σ H2 x1 x2 ov iv _ I2 r1 r2 q2) fun old s3 ⟨x3,H3,I3,r3,q3⟩=>?_
 refine thn (he pins s3 σ H3 _ I3 q3) fun v s4 ⟨x4,H4,I4,r4,q4⟩=>?_
 refine thn (hp pins s4 σ H4 x3 x4 old v _ I4 r3 r4 q4) fun new s5 ⟨x5,H5,I5,r5,q5⟩=>?_
 exact thn (hs pins s5 σ H5 x1 x2 x5 ov iv new _ I5 r1 r2 r5 q5) fun _ s6 ⟨H6,I6,q6⟩=>⟨σ,H6,I6,q6⟩
def ipI(f:Int->Int->Int):TIp:=fun x y H Q=>∃i j,x=.int i/\y=.int j/\Q (.int (f i j)) H
theorem ip_sub:PIp X .Sub (ipI fun i j=>i-j):=by
 intro pins s σ H x y v u Q I r1 r2 h
 obtain⟨i,j,e1,e2,q⟩:=h
 subst e1;subst e2
 obtain⟨t,rfl⟩:=r1
 obtain⟨t',rfl⟩:=r2
 exact isub_int ⟨.int _,H,I.tok _,⟨_,rfl⟩,q⟩
end
section
variable{X:Cx}{pos:Pos}
def tWhile(c:TT)(tb:TS):TS:=fun D σ H=>∃W:Nat->St->Hp->Prop,(∃m,W m σ H)/\∀m σ H,W m σ H ->
 c σ H fun b H1=>if b=true then ∃N:St->Hp->Prop,(∀σ' H',N σ' H'->∃m',m'<m/\W m' σ' H')/\tb { D with nx:=N,ct:=N,bk:=D.nx } σ H1 else D.nx σ H1
theorem pw10{c:Expr}{body:List Stmt}{tc:TT}{tb:TS}(hp:PassesOwn (model X.prog X.w) X.A X.env X.xe)(hc:PT X c tc)(hb:PSs X body tb):PS X (.While c body [] pos) (tWhile tc tb):=by
 intro pins s σ H D I h
 obtain⟨W,⟨m0,w0⟩,turn⟩:=h
 refine wpAny_While (codeAny_whileLoop (fun n s'=>∃σ' H',Inv X pins σ' H' s'/\W n σ' H') ?_ m0 ⟨σ,H,I,w0⟩)
 rintro n s1 ⟨σ1,H1,I1,w1⟩
 refine wpAny_passesOwn hp (thn (hc pins s1 σ1 H1 _ I1 (turn n σ1 H1 w1)) fun b s2 ⟨H2,I2,q2⟩=>?_)
 cases b with
 |true=>
  obtain⟨N,hN,q2⟩:=q2
  rw[if_pos rfl]
  refine wpAny_passesOwn hp (thn (hb pins s2 σ1 H2 _ I2 q2) fun f s3 q3=>?_)
  cases f with
  |next=>
   obtain⟨σ3,H3,I3,n3⟩:=q3
   obtain⟨m',hm,w3⟩:=hN σ3 H3 n3
   exact⟨m',hm,σ3,H3,I3,w3⟩
  |cont=>
   obtain⟨σ3,H3,I3,n3⟩:=q3
   obtain⟨m',hm,w3⟩:=hN σ3 H3 n3
   exact⟨m',hm,σ3,H3,I3,w3⟩
  |brk=>exact q3
  |ret v=>exact q3
 |false=>
  rw[if_neg Bool.false_ne_true]
  exact wpAny_execs_nil ⟨σ1,H2,I2,q2⟩
end
structure It where
 go:Nat->Hp->Prop
 yld:Nat->Hp->V->Hp->Prop
 stop:Nat->Hp->Prop
def FpOk(X:Cx)(pins:List (Addr×Obj))(H:Hp)(b:Addr):Prop:=
 H b=none/\b≠X.env.locals/\b ∉ X.fs/\(b∈X.ex\/X.s_0.heap.objs.size<=b)/\(∀x c,X.env.cells.lookup x=some c->c≠b)/\∀p∈X.pn++pins,p.1≠b
theorem Inv.fpOk{X:Cx}{pins:List (Addr×Obj)}{σ:St}{H H':Hp}{s:Shared}{b:Addr}(I:Inv X pins σ H s)(hb:s.heap.objs.size<=b)(hn:H' b=none):FpOk X pins H' b:=by
 refine⟨hn,Nat.ne_of_gt (Nat.lt_of_lt_of_le I.lt hb),I.nofs hb,.inr (Nat.le_trans I.sz hb),fun x c e z=>?_,fun p hp z=>?_⟩
 ·obtain⟨v,q⟩:=I.cell x c e
  exact absurd (Nat.lt_of_lt_of_le q.lt (by rw[z];exact hb)) (Nat.lt_irrefl _)
 ·exact absurd (Nat.lt_of_lt_of_le (Heap.lt_size (I.pin p hp).1) (by rw[z];exact hb)) (Nat.lt_irrefl _)
structure Turn(P:Program)(w:World)(K:PySem.W.Frag)(tg:Expr)(J:It)(fp:List Addr)(it:Addr)(tn:Nat->Heap->Prop):Prop where
 mem:it∈fp
 obj:∀i h,tn i h->∀b∈fp,∃o,h.get? b=some o/\∀v,o.data≠.cell v
 keep:∀i h h',tn i h->(∀b∈fp,∀o,h.get? b=some o->h'.get? b=some o)->tn i h'
 item:∀(X:Cx),X.prog=P->X.w=w->X.K=K->X.calm=true->∀(i:Nat) (pins:List (Addr×Obj)) (s:Shared) (σ:St) (H:Hp) (E:Value->Shared->Prop),Inv X pins σ H s->(∀b∈fp,FpOk X pins H b)->tn i s.heap->J.go i H ->
  wpAny (model P w) X.A (pyNext (.ref it)) (fun r s1=>∃u,r=some u /\
   wpAny (model P w) X.A (letOwnedTupleGo tg (.ref it) u) (fun _ s2=>∃x H',Inv X pins σ H' s2/\RelV x u/\J.yld i H x H'/\tn (i+1) s2.heap/\∀b∈fp,H' b=none) E s1) E s
 done:∀(X:Cx),X.prog=P->X.w=w->X.K=K->X.calm=true->∀(i:Nat) (pins:List (Addr×Obj)) (s:Shared) (σ:St) (H:Hp) (E:Value->Shared->Prop),Inv X pins σ H s->(∀b∈fp,FpOk X pins H b)->tn i s.heap->J.stop i H ->
  wpAny (model P w) X.A (pyNext (.ref it)) (fun r s1=>r=none/\Inv X pins σ H s1) E s
 self:∀(A:Around) (i:Nat) (s:Shared) (Q:Value->Shared->Prop) (E:Value->Shared->Prop),tn i s.heap->Q (.ref it) s->wpAny (model P w) A (pyIter (.ref it)) Q E s
abbrev TI:=St->Hp->(It->Hp->Prop)->Prop
def PIE(X:Cx)(pins:List (Addr×Obj))(σ:St)(tg:Expr)(R:It->Hp->Prop)(itv:Value)(s2:Shared):Prop:=
 ∃(it:Addr) (fp:List Addr) (tn:Nat->Heap->Prop) (J:It) (H':Hp),itv=.ref it/\Inv X pins σ H' s2/\Turn X.prog X.w X.K tg J fp it tn/\tn 0 s2.heap/\(∀b∈fp,FpOk X pins H' b)/\R J H'
def PI(X:Cx)(tg iter:Expr)(wi:TI):Prop:=
 ∀(pins:List (Addr×Obj)) (s:Shared) (σ:St) (H:Hp) (R:It->Hp->Prop),Inv X pins σ H s->wi σ H R ->
  wpAny (model X.prog X.w) X.A (eval iter X.env) (fun v s1=>wpAny (model X.prog X.w) X.A (pyIter v) (PIE X pins σ tg R) X.xe s1) X.xe s
theorem go_of{M:Model}{A:Around}{E:Value->Shared->Prop}{s:Shared}{tg:Expr}{it:Addr}{u:Value}{o:Obj}{n:String}{vs:Array Value}{Q:Unit->Shared->Prop}(ho:s.heap.get? it=some o)(hc:o.cls=.type n)(hd:o.data=.fields vs)
  (hn:["enumerate","zip","dict_itemiterator","dict_reverseitemiterator","odict_iterator","itertools.zip_longest","itertools.pairwise"].contains n=false) (hQ:Q () s):wpAny M A (letOwnedTupleGo tg (.ref it) u) Q E s:=by
 unfold letOwnedTupleGo
 cases tg<;>first
  |exact wpAny_pure hQ
  |(cases u<;>first
    |exact wpAny_pure hQ
    |(refine wpAny_bind (wpAny_load ho ?_)
       rw[hc,hd]
       show wpAny M A (if (["enumerate","zip","dict_itemiterator","dict_reverseitemiterator","odict_iterator","itertools.zip_longest","itertools.pairwise"].contains n&&vs[0]? == some (rawInt _))=true then _ else _) Q E s
       rw[if_neg (by intro h;rw[hn,Bool.false_and] at h;cases h)]
       exact wpAny_pure hQ))
def Itl(K:PySem.W.Frag)(a:Addr):It:=
 ⟨fun i H=>∃xs x,SqL K H a xs/\xs[i]? = some x,fun i H x H'=>H'=H/\∀xs,SqL K H a xs->xs[i]? = some x,fun i H=>∃xs,SqL K H a xs/\xs.length<=i⟩
def Itr(lo:Int)(n:Nat):It:=⟨fun i _=>i<n,fun i H x H'=>H'=H/\x=.int (lo+i),fun i _=>n<=i⟩
theorem turn_list{P:Program}{w:World}{K:PySem.W.Frag}{tg:Expr}(a it:Addr):Turn P w K tg (Itl K a) [it] it (fun i h=>h.IsListIter it a i) where
 mem:=by simp
 obj:=fun i h st b hb=>by
  have e:b=it:=by simpa using hb
  subst e
  obtain⟨o,e,c,d⟩:=st
  exact⟨o,e,fun v z=>by rw[d] at z;cases z⟩
 keep:=fun i h h' st k=>st.at fun o e=>k it (by simp) o e
 item:=by
  intro X hP hw hK hc i pins s σ H E I hf st hg
  subst hP hw hK
  obtain⟨xs,x,hq,hx⟩:=hg
  obtain⟨its,rv,p,hz⟩:=I.list hq
  obtain⟨u,hu,ru⟩:=rv.get hx
  obtain⟨f0,f1,f2,f3,f4,f5⟩:=hf it (by simp)
  refine wpAny_pyNext_list_item st p.isList (x:=u) (by simpa using hu) fun h' st' sb=>?_
  have I1:Inv X pins σ H { s with heap:=h' }:=I.turned (t':=s.toks) (fun b o hb e=>(sb.2 b hb).trans e) f0 f1 f3 f4 f5
  obtain⟨o,e,c,d⟩:=id st'
  exact⟨u,rfl,go_of (s:={ s with heap:=h' }) e c d (by decide) ⟨x,H,I1,ru,⟨rfl,fun ys hy=>by rw[I.list_inj hy hq];exact hx⟩,st',fun b hb=>(hf b hb).1⟩⟩
 done:=by
  intro X hP hw hK hc i pins s σ H E I hf st hg
  subst hP hw hK
  obtain⟨xs,hq,hx⟩:=hg
  obtain⟨its,rv,p,hz⟩:=I.list hq
  obtain⟨f0,f1,f2,f3,f4,f5⟩:=hf it (by simp)
  have hl:=rv.length
  exact wpAny_pyNext_list_end (I.ok.hd hc) st p.isList (by simp;omega) fun h' eb=>⟨rfl,I.turned (t':=s.toks) (fun b o hb e=>eb b o hb e) f0 f1 f3 f4 f5⟩
 self:=fun _ _ _ _ _ st h=>wpAny_pyIter_listiter st h
theorem turn_range{P:Program}{w:World}{K:PySem.W.Frag}{tg:Expr}(it:Addr)(lo:Int)(n:Nat):Turn P w K tg (Itr lo n) [it] it (fun i h=>IsRangeIter h it (lo+(i:Nat)*1) ((n:Int)-(i:Nat)) 1) where
 mem:=by simp
 obj:=fun i h st b hb=>by
  have e:b=it:=by simpa using hb
  subst e
  exact⟨_,st,fun v z=>by
   have z':Data.fields _=Data.cell v:=z
   cases z'⟩
 keep:=fun i h h' st k=>k it (by simp) _ st
 item:=by
  intro X hP hw hK hc i pins s σ H E I hf st hg
  subst hP hw hK
  obtain⟨f0,f1,f2,f3,f4,f5⟩:=hf it (by simp)
  have W:=Walks.range (prog:=X.prog) (w:=X.w) (I.ok.hd hc) it lo 1 n
  refine W.item i s _ _ hg st fun v h' tk hv st' kk=>?_
  obtain⟨t,rfl⟩:=hv
  have I1:Inv X pins σ H { s with heap:=h',toks:=tk }:=I.turned (fun b o hb e=>kk b o (by simpa using hb) e) f0 f1 f3 f4 f5
  refine⟨_,rfl,go_of (s:={ s with heap:=h',toks:=tk }) (n:="range_iterator") st' rfl rfl (by decide) ⟨.int (lo+i),H,I1,⟨t,?_⟩,⟨rfl,rfl⟩,st',fun b hb=>(hf b hb).1⟩⟩
  rw[Int.mul_one]
 done:=by
  intro X hP hw hK hc i pins s σ H E I hf st hg
  subst hP hw hK
  obtain⟨f0,f1,f2,f3,f4,f5⟩:=hf it (by simp)
  exact wpAny_pyNext_range_end (I.ok.hd hc) st (by have:n<=i:=hg;omega) fun h' eb=>⟨rfl,I.turned (t':=s.toks) (fun b o hb e=>eb b o hb e) f0 f1 f3 f4 f5⟩
 self:=fun _ _ _ _ _ st h=>wpAny_pyIter_rangeiter st h
end L2
namespace L2
open PySem PySem.Spec PyProof.Rows
section
variable{X:Cx}{tg:Expr}
def iList(K:PySem.W.Frag)(tl:TE):TI:=fun σ H R=>tl σ H fun x H1=>∃a,x=.ref a/\(∃xs,SqL K H1 a xs)/\R (Itl K a) H1
theorem pl11{l:Expr}{tl:TE}(hl:PE X l tl):PI X tg l (iList X.K tl):=by
 intro pins s σ H R I h
 refine thn (hl pins s σ H _ I h) fun v s1 ⟨x,H1,I1,r1,q1⟩=>?_
 obtain⟨a,e,⟨xs,hq⟩,q⟩:=q1
 subst e
 cases r1
 obtain⟨its,rv,p,hz⟩:=I1.list hq
 refine wpAny_pyIter_list p.isList ?_
 refine⟨s1.heap.objs.size,[s1.heap.objs.size],_,_,H1,rfl,I1.kept (t':=s1.toks) fun b o e=>Heap.get?_push_of_some _ e,turn_list a _,⟨_,Heap.get?_push_size _ rfl,rfl,rfl⟩,fun b hb=>?_,q⟩
 have e:b=s1.heap.objs.size:=by simpa using hb
 subst e
 exact I1.fpOk (Nat.le_refl _) (I1.hok.fresh (Nat.le_refl _))
theorem range_it{pins:List (Addr×Obj)}{σ:St}{H:Hp}{s:Shared}{R:It->Hp->Prop}{E:Value->Shared->Prop}{lo hi:Int}{t u v:Tok}{tk:Nat}(I:Inv X pins σ H s)(h1:-(2^62)<=lo)(h2:lo<2^62)(h3:-(2^62)<=hi)(h4:hi<2^62)
  (q:R (Itr lo (hi-lo).toNat) H):wpAny (model X.prog X.w) X.A (pyIter (.ref s.heap.objs.size)) (PIE X pins σ tg R) E { s with heap:=s.heap.push { cls:=.type "range",data:=.fields #[.int lo t,.int hi u,.int 1 v] },toks:=tk }:=by
 refine wpAny_pyIter_range (IsRange.new ..) (small_one h1 h2 h3 h4) ?_
 have I1:Inv X pins σ H { s with heap:=s.heap.push { cls:=.type "range",data:=.fields #[.int lo t,.int hi u,.int 1 v] },toks:=tk }:=I.kept fun b o e=>Heap.get?_push_of_some _ e
 refine⟨(s.heap.push { cls:=.type "range",data:=.fields #[.int lo t,.int hi u,.int 1 v] }).objs.size,[(s.heap.push { cls:=.type "range",data:=.fields #[.int lo t,.int hi u,.int 1 v] }).objs.size],_,_,H,rfl,
  I1.kept (t':=tk) fun b o e=>Heap.get?_push_of_some _ e,turn_range _ lo (hi-lo).toNat,?_,fun b hb=>?_,q⟩
 ·have e1:lo+((0:Nat):Int)*1=lo:=by simp
  have e2:(((hi-lo).toNat:Nat):Int)-((0:Nat):Int)=Builtin.Range.rangeSize lo hi 1:=by rw[rangeSize_one];split<;>omega
  show IsRangeIter _ _ (lo+((0:Nat):Int)*1) ((((hi-lo).toNat:Nat):Int)-((0:Nat):Int)) 1
  rw[e1,e2]
  exact Heap.get?_push_size _ rfl
 ·have e:b=(s.heap.push { cls:=.type "range",data:=.fields #[.int lo t,.int hi u,.int 1 v] }).objs.size:=by simpa using hb
  subst e
  exact I1.fpOk (Nat.le_refl _) (I1.hok.fresh (Nat.le_refl _))
def iRng1(ta:TA):TI:=fun σ H R=>ta σ H fun vs H1=>∃j:Int,vs=[.int j]/\-(2^62)<=j/\j<2^62/\R (Itr 0 j.toNat) H1
theorem pr11{a:Expr}{ta:TA}{p pos:Pos}(hg:Gl X "range")(hm:X.mg "range" = none)(ha:PA X [a] ta)(hs:starEach [a] X.env=[(false,eval a X.env)]:=by rfl):PI X tg (.Call (.Name "range" p) [a] [] pos) (iRng1 ta):=by
 intro pins s σ H R I h
 refine Call_ (ld_blt I hg hm boot_range (PyProof.Rows.callWith_type1 (thn (ha pos pins s σ H _ I h) fun us s1 ⟨vs,H1,I1,r1,q1⟩=>?_) hs rfl))
 obtain⟨j,e,q1,q2,q⟩:=q1
 subst e
 cases r1 with
 |cons r rr=>
  cases rr
  obtain⟨t,rfl⟩:=r
  exact call_range_1 (range_it I1 (by omega) (by omega) q1 q2 (by simpa using q))
def tFor(wi:TI)(g:TG)(tb:TS):TS:=fun D σ H=>wi σ H fun J H1=>∃W:Nat->Nat->St->Hp->Prop,(∃m,W 0 m σ H1)/\∀i m σ H,W i m σ H ->
 (J.stop i H/\D.nx σ H)\/(J.go i H/\∃N:St->Hp->Prop,(∀σ' H',N σ' H'->∃m',m'<m/\W (i+1) m' σ' H')/\∀x H',J.yld i H x H'->g x σ H' fun σ2 H2=>tb { D with nx:=N,ct:=N,bk:=D.nx } σ2 H2)
def pinsAt(fp:List Addr)(h:Heap):List (Addr×Obj):=fp.filterMap fun b=>(h.get? b).map fun o=>(b,o)
theorem mp10{fp:List Addr}{h:Heap}{b:Addr}{o:Obj}(hb:b∈fp)(e:h.get? b=some o):(b,o)∈pinsAt fp h:=List.mem_filterMap.mpr ⟨b,hb,by rw[e];rfl⟩
theorem of_pinsAt{fp:List Addr}{h:Heap}{p:Addr×Obj}(hp:p∈pinsAt fp h):p.1∈fp/\h.get? p.1=some p.2:=by
 obtain⟨b,hb,e⟩:=List.mem_filterMap.mp hp
 cases q:h.get? b with
 |none=>rw[q] at e;cases e
 |some o=>
  rw[q] at e
  have e':(b,o)=p:=Option.some.inj e
  subst e'
  exact⟨hb,q⟩
theorem Inv.pinned{pins:List (Addr×Obj)}{σ:St}{H:Hp}{s:Shared}{fp:List Addr}(I:Inv X pins σ H s)(hf:∀b∈fp,FpOk X pins H b)(ho:∀b∈fp,∃o,s.heap.get? b=some o/\∀v,o.data≠.cell v):Inv X (pins++pinsAt fp s.heap) σ H s:=
 I.pins_of fun p hp=>(List.mem_append.mp hp).elim (fun z=>I.pin p (List.mem_append_right _ z)) fun z=>by
  obtain⟨hb,e⟩:=of_pinsAt z
  obtain⟨f0,f1,f2,_⟩:=hf p.1 hb
  obtain⟨o,e',d⟩:=ho p.1 hb
  rw[e] at e';cases e'
  exact⟨e,f0,f1,f2,d⟩
theorem Inv.unpinned{pins pl:List (Addr×Obj)}{σ:St}{H:Hp}{s:Shared}(I:Inv X (pins++pl) σ H s):Inv X pins σ H s:=I.pins_of fun p hp=>I.pin p (List.mem_append_right _ (List.mem_append_left _ hp))
theorem pf14{iter:Expr}{body:List Stmt}{wi:TI}{g:TG}{tb:TS}{pos:Pos}(hp:PassesOwn (model X.prog X.w) X.A X.env X.xe)(hc:X.calm=true)(hi:PI X tg iter wi)(hg:PG X tg g)(hb:PSs X body tb)
  (hs:∀x,foldedSetIterable iter X.env x=pure x:=by intro _;rfl):PS X (.For tg iter body [] pos) (tFor wi g tb):=by
 intro pins s σ H D I h
 refine wpAny_For (thn (hi pins s σ H _ I h) fun v s1 h1=>thn h1 fun itv s2 h2=>?_) hs
 obtain⟨it,fp,tn,J,H2,e,I2,T,st2,f2,W,⟨m0,w0⟩,turn⟩:=h2
 subst e
 have stat:∀{H':Hp},(∀b∈fp,H' b=none)->∀b∈fp,FpOk X pins H' b:=fun hn b hb=>⟨hn b hb,(f2 b hb).2⟩
 refine codeAny_forLoop_any (fun n s'=>∃i σ' H',Inv X pins σ' H' s'/\tn i s'.heap/\(∀b∈fp,H' b=none)/\W i n σ' H') ?_ m0 ⟨0,σ,H2,I2,st2,fun b hb=>(f2 b hb).1,w0⟩
 rintro n s3 ⟨i,σ3,H3,I3,st3,fr3,w3⟩
 rcases turn i n σ3 H3 w3 with ⟨stop,qn⟩ | ⟨go,N,hN,step⟩
 ·refine wpAny_passesOwn hp (thn (T.done X rfl rfl rfl hc i pins s3 σ3 H3 X.xe I3 (stat fr3) st3 stop) fun r s4 ⟨hr,I4⟩=>?_)
  subst hr
  exact wpAny_execs_nil ⟨σ3,H3,I4,qn⟩
 ·refine wpAny_passesOwn hp (thn (T.item X rfl rfl rfl hc i pins s3 σ3 H3 X.xe I3 (stat fr3) st3 go) fun r s4 ⟨u,hr,h4⟩=>?_)
  subst hr
  refine wpAny_passesOwn hp (thn h4 fun _ s5 ⟨x,H5,I5,r5,y5,st5,fr5⟩=>?_)
  have I5':=I5.pinned (stat fr5) (T.obj _ _ st5)
  refine wpAny_passesOwn hp (thn (hg _ s5 σ3 H5 x u _ I5' r5 (step x H5 y5)) fun _ s6 ⟨σ6,H6,I6,q6⟩=>?_)
  refine wpAny_passesOwn hp (thn (hb _ s6 σ6 H6 _ I6 q6) fun f s7 q7=>?_)
  have again:∀{σ7:St} {H7:Hp},Inv X (pins++pinsAt fp s5.heap) σ7 H7 s7->N σ7 H7->∃m,m<n/\∃i σ' H',Inv X pins σ' H' s7/\tn i s7.heap/\(∀b∈fp,H' b=none)/\W i m σ' H':=fun {σ7 H7} I7 n7=>by
   obtain⟨m',hm,w7⟩:=hN σ7 H7 n7
   refine⟨m',hm,i+1,σ7,H7,I7.unpinned,T.keep _ _ _ st5 fun b hb o e=>(I7.pin (b,o) (List.mem_append_right _ (List.mem_append_right _ (mp10 hb e)))).1,fun b hb=>?_,w7⟩
   obtain⟨o,e,d⟩:=T.obj _ _ st5 b hb
   exact (I7.pin (b,o) (List.mem_append_right _ (List.mem_append_right _ (mp10 hb e)))).2.1
  cases f with
  |next=>obtain⟨σ7,H7,I7,n7⟩:=q7;exact again I7 n7
  |cont=>obtain⟨σ7,H7,I7,n7⟩:=q7;exact again I7 n7
  |brk=>obtain⟨σ7,H7,I7,q7⟩:=q7;exact⟨σ7,H7,I7.unpinned,q7⟩
  |ret v=>obtain⟨x7,σ7,H7,I7,r7,q7⟩:=q7;exact⟨x7,σ7,H7,I7.unpinned,r7,q7⟩
end
theorem fl10{K:PySem.W.Frag}{a:Addr}{xs:List V}{g:TG}{tb:TS}{D:Ends}{σ:St}{H:Hp}(Pv:Nat->St->Hp->Prop)(h0:Pv 0 σ H)(hl:∀i σ H,i<=xs.length->Pv i σ H->SqL K H a xs)
  (hs:∀i x σ H,xs[i]? = some x->Pv i σ H->g x σ H fun σ2 H2=>tb { D with nx:=Pv (i+1),ct:=Pv (i+1),bk:=D.nx } σ2 H2) (hd:∀σ H,Pv xs.length σ H->D.nx σ H) :
  ∃W:Nat->Nat->St->Hp->Prop,(∃m,W 0 m σ H)/\∀i m σ H,W i m σ H ->
   ((Itl K a).stop i H/\D.nx σ H)\/((Itl K a).go i H/\∃N:St->Hp->Prop,(∀σ' H',N σ' H'->∃m',m'<m/\W (i+1) m' σ' H')/\∀x H',(Itl K a).yld i H x H'->g x σ H' fun σ2 H2=>tb { D with nx:=N,ct:=N,bk:=D.nx } σ2 H2):=by
 refine⟨fun i m σ H=>m=xs.length-i/\i<=xs.length/\Pv i σ H,⟨xs.length,by simp,Nat.zero_le _,h0⟩,?_⟩
 rintro i m σ H ⟨rfl,hi,p⟩
 have q:=hl i σ H hi p
 by_cases hlt:i<xs.length
 ·refine .inr ⟨⟨xs,xs[i],q,by simp[hlt]⟩,Pv (i+1),fun σ' H' p'=>⟨xs.length-(i+1),by omega,rfl,hlt,p'⟩,fun x H' y=>?_⟩
  obtain⟨e,y⟩:=y
  subst e
  exact hs i x σ _ (y xs q) p
 ·have e:i=xs.length:=by omega
  subst e
  exact .inl ⟨⟨xs,q,Nat.le_refl _⟩,hd σ H p⟩
theorem for_range{lo:Int}{n:Nat}{g:TG}{tb:TS}{D:Ends}{σ:St}{H:Hp}(Pv:Nat->St->Hp->Prop)(h0:Pv 0 σ H)
  (hs:∀i σ H,i<n->Pv i σ H->g (.int (lo+i)) σ H fun σ2 H2=>tb { D with nx:=Pv (i+1),ct:=Pv (i+1),bk:=D.nx } σ2 H2) (hd:∀σ H,Pv n σ H->D.nx σ H) :
  ∃W:Nat->Nat->St->Hp->Prop,(∃m,W 0 m σ H)/\∀i m σ H,W i m σ H ->
   ((Itr lo n).stop i H/\D.nx σ H)\/((Itr lo n).go i H/\∃N:St->Hp->Prop,(∀σ' H',N σ' H'->∃m',m'<m/\W (i+1) m' σ' H')/\∀x H',(Itr lo n).yld i H x H'->g x σ H' fun σ2 H2=>tb { D with nx:=N,ct:=N,bk:=D.nx } σ2 H2):=by
 refine⟨fun i m σ H=>m=n-i/\i<=n/\Pv i σ H,⟨n,by simp,Nat.zero_le _,h0⟩,?_⟩
 rintro i m σ H ⟨rfl,hi,p⟩
 by_cases hlt:i<n
 ·refine .inr ⟨hlt,Pv (i+1),fun σ' H' p'=>⟨n-(i+1),by omega,rfl,hlt,p'⟩,fun x H' y=>?_⟩
  obtain⟨e,y⟩:=y
  subst e y
  exact hs i σ _ hlt p
 ·have e:i=n:=by omega
  subst e
  exact .inl ⟨Nat.le_refl _,hd σ H p⟩
end L2
namespace L2
open PySem PySem.Spec PyProof.Rows
abbrev R2:=V->V->Hp->VK->Prop
def OpR(X:Cx)(f:Value->Value->Sem Value)(r:R2):Prop:=
 ∀(pins:List (Addr×Obj)) (s:Shared) (σ:St) (H:Hp) (x y:V) (v u:Value) (Q:VK),Inv X pins σ H s->RelV x v->RelV y u->r x y H Q ->
  wpAny (model X.prog X.w) X.A (f v u) (EP X pins σ Q) X.xe s
def UnR(X:Cx)(f:Value->Sem Value)(r:V->Hp->VK->Prop):Prop:=
 ∀(pins:List (Addr×Obj)) (s:Shared) (σ:St) (H:Hp) (x:V) (v:Value) (Q:VK),Inv X pins σ H s->RelV x v->r x H Q ->
  wpAny (model X.prog X.w) X.A (f v) (EP X pins σ Q) X.xe s
def CallR(X:Cx)(f:Value)(r:List V->Hp->VK->Prop):Prop:=
 ∀(pins:List (Addr×Obj)) (s:Shared) (σ:St) (H:Hp) (xs:List V) (us:List Value) (Q:VK),Inv X pins σ H s->Vals xs us->r xs H Q ->
  wpAny (model X.prog X.w) X.A (call f us) (EP X pins σ Q) X.xe s
def TruR(X:Cx)(r:V->Hp->(Bool->Hp->Prop)->Prop):Prop:=
 ∀(pins:List (Addr×Obj)) (s:Shared) (σ:St) (H:Hp) (x:V) (v:Value) (Q:Bool->Hp->Prop),Inv X pins σ H s->RelV x v->r x H Q ->
  wpAny (model X.prog X.w) X.A (truthy v) (TP X pins σ Q) X.xe s
def tOp(r:R2)(ta tb:TE):TE:=fun σ H Q=>ta σ H fun x H1=>tb σ H1 fun y H2=>r x y H2 Q
def tUn(r:V->Hp->VK->Prop)(ta:TE):TE:=fun σ H Q=>ta σ H fun x H1=>r x H1 Q
def rI(C:Int->Int->Prop)(g:Int->Int->V):R2:=fun x y H Q=>∃i j,x=.int i/\y=.int j/\C i j/\Q (g i j) H
def rI0(g:Int->Int->V):R2:=fun x y H Q=>∃i j,x=.int i/\y=.int j/\Q (g i j) H
def rU(g:Int->V):V->Hp->VK->Prop:=fun x H Q=>∃i,x=.int i/\Q (g i) H
section
variable{X:Cx}{a b c:Expr}{ta tb tc:TE}{pos:Pos}
theorem binT(ha:PE X a ta)(hb:PE X b tb){pins:List (Addr×Obj)}{s:Shared}{σ:St}{H:Hp}{R:V->V->Hp->Prop}(I:Inv X pins σ H s)
  (h:ta σ H fun x H1=>tb σ H1 fun y H2=>R x y H2) {Q:Value->Shared->Prop} {f:Value->Value->Sem Value}
  (hf:∀v u s2 x y H2,Inv X pins σ H2 s2->RelV x v->RelV y u->R x y H2->wpAny (model X.prog X.w) X.A (f v u) Q X.xe s2) :
  wpAny (model X.prog X.w) X.A (eval a X.env) (fun v s₁=>wpAny (model X.prog X.w) X.A (eval b X.env) (fun u s₂=>wpAny (model X.prog X.w) X.A (f v u) Q X.xe s₂) X.xe s₁) X.xe s:=by
 refine thn (ha pins s σ H _ I h) fun v s1 ⟨x,H1,I1,r1,q1⟩=>?_
 refine thn (hb pins s1 σ H1 _ I1 q1) fun u s2 ⟨y,H2,I2,r2,q2⟩=>?_
 exact hf v u s2 x y H2 I2 r1 r2 q2
theorem po11{op:Operator}{r:R2}(ho:OpR X (binaryOp op) r)(ha:PE X a ta)(hb:PE X b tb):PE X (.BinOp a op b pos) (tOp r ta tb):=by
 intro pins s σ H Q I h
 exact wpAny_BinOp (binT ha hb I h fun v u s2 x y H2 I2 rx ry q=>ho pins s2 σ H2 x y v u Q I2 rx ry q)
theorem pe_un{op:UnaryOp}{r:V->Hp->VK->Prop}(ho:UnR X (unaryOp op) r)(ha:PE X a ta):PE X (.UnaryOp op a pos) (tUn r ta):=by
 intro pins s σ H Q I h
 exact UnaryOp_ (thn (ha pins s σ H _ I h) fun v s1 ⟨x,H1,I1,r1,q1⟩=>ho pins s1 σ H1 x v Q I1 r1 q1)
theorem opI{f:Value->Value->Sem Value}{C:Int->Int->Prop}{g:Int->Int->Int}
  (rule:∀(i j:Int) (t u:Tok) (s:Shared) (Q:Value->Shared->Prop) (E:Value->Shared->Prop),C i j->Q (.int (g i j) s.toks) { s with toks:=s.toks+1 }->wpAny (model X.prog X.w) X.A (f (.int i t) (.int j u)) Q E s) :
  OpR X f (rI C fun i j=>.int (g i j)):=by
 intro pins s σ H x y v u Q I rx ry h
 obtain⟨i,j,rfl,rfl,hc,q⟩:=h
 obtain⟨t,rfl⟩:=rx
 obtain⟨t',rfl⟩:=ry
 exact rule i j t t' s _ _ hc ⟨.int (g i j),H,I.tok _,⟨_,rfl⟩,q⟩
theorem opI0{f:Value->Value->Sem Value}{g:Int->Int->Int}
  (rule:∀(i j:Int) (t u:Tok) (s:Shared) (Q:Value->Shared->Prop) (E:Value->Shared->Prop),Q (.int (g i j) s.toks) { s with toks:=s.toks+1 }->wpAny (model X.prog X.w) X.A (f (.int i t) (.int j u)) Q E s) :
  OpR X f (rI0 fun i j=>.int (g i j)):=by
 intro pins s σ H x y v u Q I rx ry h
 obtain⟨i,j,rfl,rfl,q⟩:=h
 obtain⟨t,rfl⟩:=rx
 obtain⟨t',rfl⟩:=ry
 exact rule i j t t' s _ _ ⟨.int (g i j),H,I.tok _,⟨_,rfl⟩,q⟩
theorem opB0{f:Value->Value->Sem Value}{g:Int->Int->Bool}
  (rule:∀(i j:Int) (t u:Tok) (s:Shared) (Q:Value->Shared->Prop) (E:Value->Shared->Prop),Q (.bool (g i j)) s->wpAny (model X.prog X.w) X.A (f (.int i t) (.int j u)) Q E s) :
  OpR X f (rI0 fun i j=>.bl (g i j)):=by
 intro pins s σ H x y v u Q I rx ry h
 obtain⟨i,j,rfl,rfl,q⟩:=h
 obtain⟨t,rfl⟩:=rx
 obtain⟨t',rfl⟩:=ry
 exact rule i j t t' s _ _ ⟨.bl (g i j),H,I,rfl,q⟩
def CDiv(i j:Int):Prop:=0<j/\j<1073741824
def CMul(i j:Int):Prop:=(-(2^64)<i/\i<2^64)\/(-(2^64)<j/\j<2^64)
theorem CMul.ok{i j:Int}(h:CMul i j):IntMulOk i j:=by
 rcases h with ⟨h1,h2⟩ | ⟨h1,h2⟩
 ·exact .of_left (intBits_le_64 h1 h2)
 ·exact .of_right (intBits_le_64 h1 h2)
theorem two_pow_nn(k:Nat):(0:Int)<=2^k:=by
 rw[two_pow_cast]
 exact Int.natCast_nonneg _
theorem oa:OpR X (binaryOp .Add) (rI0 fun i j=>.int (i+j)):=opI0 fun _ _ _ _ _ _ _ q=>add_int q
theorem op_sub:OpR X (binaryOp .Sub) (rI0 fun i j=>.int (i-j)):=opI0 fun _ _ _ _ _ _ _ q=>sub_int q
theorem om:OpR X (binaryOp .Mult) (rI CMul fun i j=>.int (i*j)):=opI fun _ _ _ _ _ _ _ hc q=>mul_int q hc.ok
theorem op_fdiv:OpR X (binaryOp .FloorDiv) (rI CDiv fun i j=>.int (i/j)):=opI fun i j _ _ _ _ _ hc q=>by
 have h1:(0:Int)<j:=hc.1
 have h2:j<1073741824:=hc.2
 exact floordiv_int (by omega) (by rw[Int.fdiv_eq_ediv_of_nonneg i (by omega)];exact q) (.inl (PyProof.noPylong_small (by omega)))
theorem op_mod:OpR X (binaryOp .Mod) (rI (fun _ j=>0<j) fun i j=>.int (i%j)):=opI fun i j _ _ _ _ _ hc q=>by
 have h1:(0:Int)<j:=hc
 exact mod_int' (by omega) (by rw[Int.fmod_eq_emod_of_nonneg i (by omega)];exact q)
theorem op_shr:OpR X (binaryOp .RShift) (rI (fun _ j=>0<=j) fun i j=>.int (i/2^j.toNat)):=opI fun i j _ _ _ _ _ hc q=>
 rshift_int hc (by rw[Int.fdiv_eq_ediv_of_nonneg i (two_pow_nn _)];exact q)
theorem op_and:OpR X (binaryOp .BitAnd) (rI0 fun i j=>.int (Builtin.bitAnd i j)):=opI0 fun _ _ _ _ _ _ _ q=>and_int q
theorem iop_fdiv:OpR X (inplaceOp .FloorDiv) (rI CDiv fun i j=>.int (i/j)):=opI fun i j _ _ _ _ _ hc q=>by
 have h1:(0:Int)<j:=hc.1
 have h2:j<1073741824:=hc.2
 exact ifloordiv_int (by omega) (by rw[Int.fdiv_eq_ediv_of_nonneg i (by omega)];exact q) (.inl (PyProof.noPylong_small (by omega)))
theorem unI{f:Value->Sem Value}{g:Int->Int}
  (rule:∀(i:Int) (t:Tok) (s:Shared) (Q:Value->Shared->Prop) (E:Value->Shared->Prop),Q (.int (g i) s.toks) { s with toks:=s.toks+1 }->wpAny (model X.prog X.w) X.A (f (.int i t)) Q E s) :
  UnR X f (rU fun i=>.int (g i)):=by
 intro pins s σ H x v Q I rx h
 obtain⟨i,rfl,q⟩:=h
 obtain⟨t,rfl⟩:=rx
 exact rule i t s _ _ ⟨.int (g i),H,I.tok _,⟨_,rfl⟩,q⟩
theorem un_neg:UnR X (unaryOp .USub) (rU fun i=>.int (-i)):=unI fun _ _ _ _ _ q=>neg_int q
end
def scal:V->V->Bool
 |.non,.non=>true | .non,.int _=>true | .int _,.non=>true | .non,.bl _=>true | .bl _,.non=>true | .non,.str _=>true | .str _,.non=>true
 |.int _,.int _=>true | .bl _,.bl _=>true | .str _,.str _=>true | .byt _,.byt _=>true
 |.int _,.str _=>true | .str _,.int _=>true | .bl _,.str _=>true | .str _,.bl _=>true
 |_,_=>false
def rEq:R2:=fun x y H Q=>scal x y=true/\Q (.bl (decide (x=y))) H
def rNe:R2:=fun x y H Q=>scal x y=true/\Q (.bl (!decide (x=y))) H
theorem di{i j:Int}:decide (V.int i=V.int j)=(i==j):=by
 rw[Bool.eq_iff_iff]
 simp
theorem dec_bl{i j:Bool}:decide (V.bl i=V.bl j)=(i==j):=by
 rw[Bool.eq_iff_iff]
 simp
theorem dec_str{i j:Str}:decide (V.str i=V.str j)=(i==j):=by
 rw[Bool.eq_iff_iff]
 simp
theorem dec_byt{i j:Array UInt8}:decide (V.byt i=V.byt j)=(i.toList==j.toList):=by
 rw[Bool.eq_iff_iff]
 cases i
 cases j
 simp
section
variable{X:Cx}{a b c:Expr}{ta tb tc:TE}{pos:Pos}
theorem fb{pins:List (Addr×Obj)}{σ:St}{H:Hp}{s:Shared}{Q:VK}{k k':Bool}(I:Inv X pins σ H s)(q:Q (.bl k) H)(e:k=k'):EP X pins σ Q (.bool k') s:=by
 subst e
 exact⟨.bl k,H,I,rfl,q⟩
theorem op_eq:OpR X (compareOp .Eq) rEq:=by
 intro pins s σ H x y v u Q I rx ry h
 obtain⟨hs,q⟩:=h
 cases x with
 |non=>
  cases rx
  cases y with
  |non=>cases ry;exact PySem.EqNone.eq_none_none (fb I q (by simp))
  |bl j=>cases ry;exact PySem.EqNone.eq_none_bool (fb I q (by simp))
  |int j=>obtain⟨t',rfl⟩:=ry;exact PySem.EqNone.eq_none_int (fb I q (by simp))
  |str j=>obtain⟨t',rfl⟩:=ry;exact PySem.EqNone.eq_none_str (fb I q (by simp))
  |_=>exact absurd (show false=true from hs) Bool.false_ne_true
 |bl i=>
  cases rx
  cases y with
  |non=>cases ry;exact PySem.EqNone.eq_bool_none (fb I q (by simp))
  |bl j=>cases ry;exact eq_bool (fb I q dec_bl)
  |str j=>obtain⟨t',rfl⟩:=ry;exact PySem.EqMixed.eq_bool_str (fb I q (by simp))
  |_=>exact absurd (show false=true from hs) Bool.false_ne_true
 |int i=>
  obtain⟨t,rfl⟩:=rx
  cases y with
  |non=>cases ry;exact PySem.EqNone.eq_int_none (fb I q (by simp))
  |int j=>obtain⟨t',rfl⟩:=ry;exact eq_int (fb I q di)
  |str j=>obtain⟨t',rfl⟩:=ry;exact PySem.EqMixed.eq_int_str (fb I q (by simp))
  |_=>exact absurd (show false=true from hs) Bool.false_ne_true
 |str i=>
  obtain⟨t,rfl⟩:=rx
  cases y with
  |non=>cases ry;exact PySem.EqNone.eq_str_none (fb I q (by simp))
  |bl j=>cases ry;exact PySem.EqMixed.eq_str_bool (fb I q (by simp))
  |int j=>obtain⟨t',rfl⟩:=ry;exact PySem.EqMixed.eq_str_int (fb I q (by simp))
  |str j=>obtain⟨t',rfl⟩:=ry;exact eq_str (fb I q dec_str)
  |_=>exact absurd (show false=true from hs) Bool.false_ne_true
 |byt i=>
  obtain⟨t,rfl⟩:=rx
  cases y with
  |byt j=>obtain⟨t',rfl⟩:=ry;exact PySem.W.eq_bytes (fb I q dec_byt)
  |_=>exact absurd (show false=true from hs) Bool.false_ne_true
 |_=>cases y<;>exact absurd (show false=true from hs) Bool.false_ne_true
theorem op_ne:OpR X (compareOp .NotEq) rNe:=by
 intro pins s σ H x y v u Q I rx ry h
 obtain⟨hs,q⟩:=h
 cases x with
 |non=>
  cases rx
  cases y with
  |non=>cases ry;exact PySem.EqNone.ne_none_none (fb I q (by simp))
  |bl j=>cases ry;exact PySem.EqNone.ne_none_bool (fb I q (by simp))
  |int j=>obtain⟨t',rfl⟩:=ry;exact PySem.EqNone.ne_none_int (fb I q (by simp))
  |str j=>obtain⟨t',rfl⟩:=ry;exact PySem.EqNone.ne_none_str (fb I q (by simp))
  |_=>exact absurd (show false=true from hs) Bool.false_ne_true
 |bl i=>
  cases rx
  cases y with
  |non=>cases ry;exact PySem.EqNone.ne_bool_none (fb I q (by simp))
  |bl j=>cases ry;exact ne_bool (fb I q (congrArg not dec_bl))
  |str j=>obtain⟨t',rfl⟩:=ry;exact PySem.EqMixed.ne_bool_str (fb I q (by simp))
  |_=>exact absurd (show false=true from hs) Bool.false_ne_true
 |int i=>
  obtain⟨t,rfl⟩:=rx
  cases y with
  |non=>cases ry;exact PySem.EqNone.ne_int_none (fb I q (by simp))
  |int j=>obtain⟨t',rfl⟩:=ry;exact ne_int (fb I q (congrArg not di))
  |str j=>obtain⟨t',rfl⟩:=ry;exact PySem.EqMixed.ne_int_str (fb I q (by simp))
  |_=>exact absurd (show false=true from hs) Bool.false_ne_true
 |str i=>
  obtain⟨t,rfl⟩:=rx
  cases y with
  |non=>cases ry;exact PySem.EqNone.ne_str_none (fb I q (by simp))
  |bl j=>cases ry;exact PySem.EqMixed.ne_str_bool (fb I q (by simp))
  |int j=>obtain⟨t',rfl⟩:=ry;exact PySem.EqMixed.ne_str_int (fb I q (by simp))
  |str j=>obtain⟨t',rfl⟩:=ry;exact ne_str (fb I q (congrArg not dec_str))
  |_=>exact absurd (show false=true from hs) Bool.false_ne_true
 |byt i=>
  obtain⟨t,rfl⟩:=rx
  cases y with
  |byt j=>obtain⟨t',rfl⟩:=ry;exact PySem.W.ne_bytes (fb I q (congrArg not dec_byt))
  |_=>exact absurd (show false=true from hs) Bool.false_ne_true
 |_=>cases y<;>exact absurd (show false=true from hs) Bool.false_ne_true
theorem op_lt:OpR X (compareOp .Lt) (rI0 fun i j=>.bl (decide (i<j))):=opB0 fun _ _ _ _ _ _ _ q=>lt_int q
theorem ol10:OpR X (compareOp .LtE) (rI0 fun i j=>.bl (decide (i<=j))):=opB0 fun _ _ _ _ _ _ _ q=>le_int q
theorem op_gt:OpR X (compareOp .Gt) (rI0 fun i j=>.bl (decide (j<i))):=opB0 fun _ _ _ _ _ _ _ q=>gt_int q
theorem op_ge:OpR X (compareOp .GtE) (rI0 fun i j=>.bl (decide (j<=i))):=opB0 fun _ _ _ _ _ _ _ q=>ge_int q
theorem nomark(b:Expr){op:CmpOp}(h:op≠.In:=by decide)(h2:op≠.NotIn:=by decide):behindInMarks op b=false:=by
 have e1:(op==CmpOp.In)=false:=by cases op<;>first | rfl | exact absurd rfl h
 have e2:(op==CmpOp.NotIn)=false:=by cases op<;>first | rfl | exact absurd rfl h2
 cases b<;>simp[behindInMarks,e1,e2]
theorem pc14{op:CmpOp}{r:R2}(ho:OpR X (compareOp op) r)(ha:PE X a ta)(hb:PE X b tb)(hm:behindInMarks op b=false):PE X (.Compare a [op] [b] pos) (tOp r ta tb):=by
 intro pins s σ H Q I h
 exact wpAny_Compare1 (binT ha hb I h fun v u s2 x y H2 I2 rx ry q=>ho pins s2 σ H2 x y v u Q I2 rx ry q) hm
def tTest(t:TE):TT:=fun σ H Q=>t σ H fun x H'=>∃k,x=.bl k/\Q k H'
theorem pc13{op:CmpOp}{r:R2}(ho:OpR X (compareOp op) r)(ha:PE X a ta)(hb:PE X b tb)(hm:behindInMarks op b=false):PT X (.Compare a [op] [b] pos) (tTest (tOp r ta tb)):=by
 intro pins s σ H Q I h
 refine wpAny_isTrue_Compare1 (thn (ha pins s σ H _ I h) fun v s1 ⟨x,H1,I1,r1,q1⟩=>thn (hb pins s1 σ H1 _ I1 q1) fun u s2 ⟨y,H2,I2,r2,q2⟩=>
  thn (ho pins s2 σ H2 x y v u _ I2 r1 r2 q2) fun c s3 ⟨z,H3,I3,r3,k,e,q3⟩=>?_) hm
 subst e
 cases r3
 exact wpAny_truthy_bool ⟨H3,I3,q3⟩
def tChain(r r':R2)(ta tb tc:TE):TE:=fun σ H Q=>ta σ H fun x H1=>tb σ H1 fun y H2=>r x y H2 fun z H3=>∃k,z=.bl k /\
 (if k=true then tc σ H3 fun w' H4=>r' y w' H4 Q else Q (.bl false) H3)
theorem pc15{op op':CmpOp}{r r':R2}(ho:OpR X (compareOp op) r)(ho':OpR X (compareOp op') r')(ha:PE X a ta)(hb:PE X b tb)(hc:PE X c tc)
  (hm:lastMarks [op,op'] [b,c]=false:=by with_unfolding_all rfl):PE X (.Compare a [op,op'] [b,c] pos) (tChain r r' ta tb tc):=by
 intro pins s σ H Q I h
 refine Compare_chain (thn (ha pins s σ H _ I h) fun v s1 ⟨x,H1,I1,r1,q1⟩=>chain_link (thn (hb pins s1 σ H1 _ I1 q1) fun u s2 ⟨y,H2,I2,r2,q2⟩=>
  thn (ho pins s2 σ H2 x y v u _ I2 r1 r2 q2) fun d s3 ⟨z,H3,I3,r3,k,e,q3⟩=>?_)) hm
 subst e
 cases r3
 refine wpAny_truthy_bool ?_
 cases k with
 |false=>exact ite_ff ⟨.bl false,H3,I3,rfl,q3⟩
 |true=>exact ite_tt (chain_last (thn (hc pins s3 σ H3 _ I3 q3) fun w' s4 ⟨z',H4,I4,r4,q4⟩=>ho' pins s4 σ H4 y z' u w' Q I4 r2 r4 q4))
theorem pt_chain{op op':CmpOp}{r r':R2}(ho:OpR X (compareOp op) r)(ho':OpR X (compareOp op') r')(ha:PE X a ta)(hb:PE X b tb)(hc:PE X c tc)
  (hm:lastMarks [op,op'] [b,c]=false:=by with_unfolding_all rfl):PT X (.Compare a [op,op'] [b,c] pos) (tTest (tChain r r' ta tb tc)):=by
 intro pins s σ H Q I h
 refine isTrue_chain (thn (ha pins s σ H _ I h) fun v s1 ⟨x,H1,I1,r1,q1⟩=>test_link (thn (hb pins s1 σ H1 _ I1 q1) fun u s2 ⟨y,H2,I2,r2,q2⟩=>
  thn (ho pins s2 σ H2 x y v u _ I2 r1 r2 q2) fun d s3 ⟨z,H3,I3,r3,k,e,q3⟩=>?_)) hm
 subst e
 cases r3
 refine wpAny_truthy_bool ?_
 cases k with
 |false=>
  obtain⟨k',e',q'⟩:=q3
  cases e'
  exact ite_ff ⟨H3,I3,q'⟩
 |true=>
  refine ite_tt (test_last (thn (hc pins s3 σ H3 _ I3 q3) fun w' s4 ⟨z',H4,I4,r4,q4⟩=>thn (ho' pins s4 σ H4 y z' u w' _ I4 r2 r4 q4) fun d' s5 ⟨z2,H5,I5,r5,k2,e2,q5⟩=>?_))
  subst e2
  cases r5
  exact wpAny_truthy_bool ⟨H5,I5,q5⟩
def TruV(K:PySem.W.Frag)(x:V)(H:Hp)(k:Bool):Prop:=
 match x with
 |.non=>k=false
 |.bl b=>k=b
 |.int i=>k=(i != 0)
 |.str y=>y.length<=sizeLine/\k=((y.length:Int) != 0)
 |.byt y=>y.size<=sizeLine/\k=((y.size:Int) != 0)
 |.ref p=>(∃xs,SqL K H p xs/\k = !xs.isEmpty)\/(∃xs,SqT K H p xs/\k = !xs.isEmpty)\/∃kvs,H p=some (.dK kvs)/\k = !kvs.isEmpty
 |_=>False
theorem isEmpty_kv{κ:Type}{kvs:List (κ×V)}{vs:List (κ×Value)}(r:KV kvs vs):(!vs.isEmpty) = !kvs.isEmpty:=by
 cases r<;>rfl
theorem isEmpty_of{xs:List V}{its:List Value}(r:Vals xs its):(!its.toArray.isEmpty) = !xs.isEmpty:=by
 cases r<;>simp
theorem line63:(sizeLine:Nat)<2^63:=by rw[sizeLine_eq];decide
theorem tru_ok:TruR X (fun x H Q=>∃k,TruV X.K x H k/\Q k H):=by
 intro pins s σ H x v Q I rx h
 obtain⟨k,e,q⟩:=h
 have hl:=line63
 have hs:sizeLine=16777216:=sizeLine_eq
 cases x with
 |non=>
  cases rx
  have e':k=false:=e
  subst e'
  exact truthy_none ⟨H,I,q⟩
 |bl b=>
  cases rx
  have e':k=b:=e
  subst e'
  exact wpAny_truthy_bool ⟨H,I,q⟩
 |int i=>
  obtain⟨t,rfl⟩:=rx
  have e':k=(i != 0):=e
  subst e'
  exact PySem.P.truthy_int ⟨H,I,q⟩
 |str y=>
  obtain⟨t,rfl⟩:=rx
  obtain⟨hy,e'⟩:y.length<=sizeLine/\k=((y.length:Int) != 0):=e
  subst e'
  exact PySem.P.truthy_str (by omega) ⟨H,I.tok _,q⟩
 |byt y=>
  obtain⟨t,rfl⟩:=rx
  obtain⟨hy,e'⟩:y.size<=sizeLine/\k=((y.size:Int) != 0):=e
  subst e'
  exact PySem.W.truthy_bytes (by omega) ⟨H,I.tok _,q⟩
 |ref p=>
  cases rx
  have e':(∃xs,SqL X.K H p xs/\k = !xs.isEmpty)\/(∃xs,SqT X.K H p xs/\k = !xs.isEmpty)\/∃kvs,H p=some (.dK kvs)/\k = !kvs.isEmpty:=e
  rcases e' with ⟨xs,hx,e'⟩ | ⟨xs,hx,e'⟩ | ⟨kvs,hx,e'⟩
  ·subst e'
   obtain⟨its,r,pl,hz⟩:=I.list hx
   have hlen:=r.length
   exact wpAny_truthy_list pl.isList (by simp only[List.size_toArray];omega) ⟨H,I.tok _,by rw[isEmpty_of r];exact q⟩
  ·subst e'
   obtain⟨its,r,pl,hz⟩:=I.tuple hx
   have hlen:=r.length
   exact truthy_tuple pl (by simp only[List.size_toArray];omega) ⟨H,I.tok _,by rw[isEmpty_of r];exact q⟩
  ·subst e'
   obtain⟨hz,hS,vs,r,m⟩:kvs.length<=sizeLine/\(p==sysModules)=false/\∃vs,KV kvs vs/\s.heap.DictOf (mixKind X.prog X.w) p vs:=I.hok p _ hx
   have hlen:kvs.length=vs.length:=Paired.length r
   exact wpAny_truthy_dict hS m (by omega) ⟨H,I.tok _,by rw[isEmpty_kv r];exact q⟩
 |_=>exact (show False from e).elim
theorem pt_truth(ha:PE X a ta)(he:∀whole,isTrue a X.env whole=(do let v <-whole;standAt a.pos;holding [v] (truthy v))) :
  PT X a (fun σ H Q=>ta σ H fun x H'=>∃k,TruV X.K x H' k/\Q k H'):=by
 intro pins s σ H Q I h
 exact isTrue_plain (thn (ha pins s σ H _ I h) fun v s1 ⟨x,H1,I1,r1,q1⟩=>tru_ok pins s1 σ H1 x v Q I1 r1 q1) (he _)
theorem vals1{x:V}{us:List Value}(r:Vals [x] us):∃u,us=[u]/\RelV x u:=by
 cases r with
 |cons r1 r2=>cases r2;exact⟨_,rfl,r1⟩
theorem call_abs:CallR X (.builtin "abs") (fun xs H Q=>∃i,xs=[.int i]/\Q (.int (if i<0 then -i else i)) H):=by
 intro pins s σ H xs us Q I r h
 obtain⟨i,rfl,q⟩:=h
 obtain⟨u,rfl,t,rfl⟩:=vals1 r
 exact call_abs_int fun u tk=>⟨.int (if i<0 then -i else i),H,I.tok _,⟨_,rfl⟩,q⟩
end
end L2
namespace L2
open PySem PySem.Spec PyProof.Rows
structure ObjM(h:Heap)(x dx C:Addr)(mA:Str->Option Value):Prop where
 obj:h.get? x=some (PySem.W.instObj C dx)
 ns:h.Ns1 dx mA
 ne:dx≠x
theorem lookIn_ns{h:Heap}{dx:Addr}{mA:Str->Option Value}(n:h.Ns1 dx mA):∃od,h.get? dx=some od/\∀name,PySem.W.lookIn name od=some (mA name):=by
 obtain⟨o,es,ep,ho,hd,hk,_,hm⟩:=n
 refine⟨o,ho,fun name=>?_⟩
 have e:=hm name
 unfold nsFind findBy at e
 rw[<-Array.find?_toList] at e
 unfold PySem.W.lookIn
 rw[hd]
 dsimp only
 split
 ·rename_i y q
  rw[q] at e
  exact congrArg some e
 ·rename_i q
  rw[q] at e
  have a:es.toList.any (·.refKey)=false:=by
   rw[List.any_eq_false]
   intro y hy
   obtain⟨z,t,hkey⟩:=hk y (Array.mem_toList_iff.mp hy)
   simp[DictEntry.refKey,hkey]
  have a':¬es.toList.any (·.refKey)=true:=by rw[a];exact Bool.false_ne_true
  rw[if_neg a']
  exact congrArg some e
theorem ObjM.look{h:Heap}{x dx C:Addr}{mA:Str->Option Value}(I:ObjM h x dx C mA):∃od,PySem.W.InstAt h x (PySem.W.instObj C dx) C (some od)/\∀name,PySem.W.lookIn name od=some (mA name):=
 let ⟨od,ho,hl⟩:=lookIn_ns I.ns
 ⟨od,⟨I.obj,rfl,rfl,ho⟩,hl⟩
section
variable{prog:Program}{w:World}{A:Around}{E:Value->Shared->Prop}{s:Shared}{K:PySem.W.Frag}{x dx C f:Addr}{mA:Str->Option Value}{name:Str}{v:Value}
theorem get_map{expr:Bool}{Q:Value->Shared->Prop}(X:K.In s.heap)(I:ObjM s.heap x dx C mA)(hg:PySem.W.plainGet K C name=true)(hh:PySem.W.hasDictIn K C=true)
  (ha:PySem.W.findIn K (.ref C) name=some none) (hv:mA name=some v) (hv':PySem.W.handedIn v=true) (h:Q v { s with toks:=s.toks+1 }) :
  wpAny (model prog w) A (getAttr (.ref x) name expr) Q E s:=by
 obtain⟨od,J,hl⟩:=I.look
 exact PySem.W.get_value X J (PySem.W.plainGet_of hg).1 (PySem.W.findObj_own hh ha rfl (by rw[hl,hv])) hv' h
theorem get_meth{pl:Sem Bool}{Q:Value×List Value->Shared->Prop}(X:K.In s.heap)(I:ObjM s.heap x dx C mA)(hg:PySem.W.plainGet K C name=true)
  (hf:PySem.W.findIn K (.ref C) name=some (some (.ref f))) (ht:PySem.W.isFn K (.ref f)=true) (hv:mA name=none) (h:Q (.ref f,[.ref x]) s) :
  wpAny (model prog w) A (getMethod (.ref x) name pl) Q E s:=by
 obtain⟨od,J,hl⟩:=I.look
 exact PySem.W.method_fn X J (PySem.W.plainGet_of hg).1 (PySem.W.plainGet_of hg).2 hf (beq_iff_eq.mp ht) (by show (PySem.W.lookIn name od).map (·.isSome)=some false;rw[hl,hv];rfl) h
theorem set_map{ns:List Str}{Q:Unit->Shared->Prop}(X:K.In s.heap)(I:ObjM s.heap x dx C mA)
  (hs:PySem.W.findIn K (.ref C) "__setattr__" = some (some (.builtin "object.__setattr__"))) (hp:PySem.W.plainOver K C=true) (ht:PySem.W.takerIn K C name=some none) (hh:PySem.W.hasDictIn K C=true)
  (hw:PySem.Within mA ns) (hsz:ns.length<=sizeLine)
  (h:∀h',ObjM h' x dx C (fun y=>if y=name then some v else mA y)->Heap.SameBut dx s.heap h'->Q () { s with heap:=h',toks:=s.toks+2 }) :
  wpAny (model prog w) A (setAttr (.ref x) name v) Q E s:=by
 obtain⟨od,J,hl⟩:=I.look
 refine PySem.W.set_plain X J hs (PySem.W.osa_open (s:={ s with toks:=s.toks+1 }) (r:=none) X J hp ht fun b=>?_)
 obtain⟨cd,hc,hd'⟩:=PySem.W.any_some hh
 have hx:s.heap.get? x=some ⟨.ref C,some dx,.plain,#[]⟩:=I.obj
 refine wpAny_bind (wpAny_pure (wpAny_bind (wpAny_bind (wpAny_loadPart hx (wpAny_bind (PySem.W.Looks.here (s:={ s with toks:=s.toks+1 }) (PySem.W.looks_clsIn X hc) ?_))))))
 rw[hd']
 refine wpAny_pure (a:=some dx) (wpAny_bind (wpAny_pure (wpAny_bind ?_)))
 refine wpAny_nsSet1 (s:={ s with toks:=s.toks+1 }) I.ns fun h' hn2 hs2=>?_
 obtain⟨oD,esD,epD,hoD,hdD,hcD⟩:=hn2.count (PySem.Within.cons name v hw)
 refine wpAny_bind (wpAny_lookBehind hoD (by rw[hdD];exact pastItsLine_dict (Nat.le_trans hcD (by rw[List.length_cons];omega))) ?_)
 exact wpAny_pure (h _ ⟨(hs2.2 _ (Ne.symm I.ne)).trans I.obj,hn2,I.ne⟩ hs2)
theorem make_map{R:Result->Shared->Prop}{vs:List Value}{kw:List (Str×Value)}(X:K.In s.heap)(hm:PySem.W.makesIn K C=true)
  (hi:PySem.W.findIn K (.ref C) "__init__" = some (some (.ref f))) (hf:PySem.W.typeIn K (.ref f)=some (.type "function"))
  (h:codeAny (model prog w) (A.under (.builtin "type.__call__" ⟨.ref C::vs,kw⟩)) (.call (.ref f) ⟨.ref (s.heap.objs.size+1)::vs,kw⟩) (PySem.W.InitBack (s.heap.objs.size+1) R)
   { s with heap:=(s.heap.push PySem.W.emptyDict).push (PySem.W.instObj C s.heap.objs.size) }) :
  codeAny (model prog w) A (.call (.ref C) ⟨vs,kw⟩) R s:=by
 obtain⟨hh,g,d,t,os⟩:=s
 exact PySem.W.make_core (PySem.W.makes_of X hm) (PySem.W.looks_findIn X hi) (fun self=>PySem.W.bind_fn X self hf) (.inl rfl) h
end
def putF(f:Str)(v:V):List (Str×V)->List (Str×V)
 |[]=>[(f,v)]
 |(g,x)::r=>if g=f then (g,v)::r else (g,x)::putF f v r
theorem lp10(f g:Str)(v:V):∀fs:List (Str×V),(putF f v fs).lookup g=if g=f then some v else fs.lookup g
 |[]=>by
  show List.lookup g [(f,v)]=_
  by_cases h:g=f
  ·have hb:(g==f)=true:=beq_iff_eq.mpr h
   simp only[List.lookup,hb,if_pos h]
  ·have hb:(g==f)=false:=beq_eq_false_iff_ne.mpr h
   simp only[List.lookup,hb,if_neg h]
 |(k,x)::r=>by
  have ih:=lp10 f g v r
  rw[show putF f v ((k,x)::r)=(if k=f then (k,v)::r else (k,x)::putF f v r) from rfl]
  by_cases hk:k=f
  ·rw[if_pos hk]
   by_cases h:g=k
   ·have hb:(g==k)=true:=beq_iff_eq.mpr h
    simp only[List.lookup,hb,if_pos (h.trans hk)]
   ·have hb:(g==k)=false:=beq_eq_false_iff_ne.mpr h
    simp only[List.lookup,hb,if_neg (fun e:g=f=>h (e.trans hk.symm))]
  ·rw[if_neg hk]
   by_cases h:g=k
   ·have hb:(g==k)=true:=beq_iff_eq.mpr h
    simp only[List.lookup,hb,if_neg (fun e:g=f=>hk (h.symm.trans e))]
   ·have hb:(g==k)=false:=beq_eq_false_iff_ne.mpr h
    simp only[List.lookup,hb]
    exact ih
theorem kp10(f:Str)(v:V):∀fs:List (Str×V),f∈(putF f v fs).map (·.1)/\∀g,g∈fs.map (·.1)->g∈(putF f v fs).map (·.1)
 |[]=>⟨by simp[putF],fun g h=>by simp at h⟩
 |(k,x)::r=>by
  obtain⟨i1,i2⟩:=kp10 f v r
  rw[show putF f v ((k,x)::r)=(if k=f then (k,v)::r else (k,x)::putF f v r) from rfl]
  by_cases hk:k=f
  ·rw[if_pos hk]
   subst hk
   exact⟨by simp,fun g h=>by simpa using h⟩
  ·rw[if_neg hk]
   refine⟨?_,fun g h=>?_⟩
   ·rw[List.map_cons]
    exact List.mem_cons_of_mem _ i1
   ·rw[List.map_cons] at h ⊢
    rcases List.mem_cons.mp h with e | e
    ·exact List.mem_cons.mpr (.inl e)
    ·exact List.mem_cons_of_mem _ (i2 g e)
theorem lp11(f:Str)(v:V):∀fs:List (Str×V),(putF f v fs).length<=fs.length+1
 |[]=>by simp[putF]
 |(k,x)::r=>by
  have ih:=lp11 f v r
  rw[show putF f v ((k,x)::r)=(if k=f then (k,v)::r else (k,x)::putF f v r) from rfl]
  by_cases hk:k=f
  ·rw[if_pos hk,List.length_cons,List.length_cons];omega
  ·rw[if_neg hk,List.length_cons,List.length_cons];omega
theorem RelO.some_of{v:V}{o:Option Value}(r:RelO (some v) o):∃u,o=some u/\RelV v u:=by
 cases o with
 |none=>exact (show False from r).elim
 |some u=>exact⟨u,rfl,r⟩
theorem RelO.none_of{o:Option Value}(r:RelO none o):o=none:=by
 cases o with
 |none=>rfl
 |some u=>exact (show False from r).elim
theorem handed_of{v:V}{u:Value}(r:RelV v u):PySem.W.handedIn u=true:=by
 cases v with
 |non=>cases (show u=Value.none from r);rfl
 |bl b=>cases (show u=Value.bool b from r);rfl
 |int i=>obtain⟨t,e⟩:=(show ∃t,u=Value.int i t from r);cases e;rfl
 |str x=>obtain⟨t,e⟩:=(show ∃t,u=Value.str x t from r);cases e;rfl
 |byt b=>obtain⟨t,e⟩:=(show ∃t,u=Value.bytes b t from r);cases e;rfl
 |flt b=>obtain⟨t,e⟩:=(show ∃t,u=Value.float b t from r);cases e;rfl
 |ref a=>cases (show u=Value.ref a from r);rfl
 |ty n=>cases (show u=Value.type n from r);rfl
section
variable{P:Program}{w:World}{H H':Hp}{h h':Heap}{a C dx:Addr}{fs fs':List (Str×V)}
theorem ins_get(hok:HOk P w H h)(e:H a=some (.ins C dx fs)):∃mA,ObjM h a dx C mA/\(∀f,RelO (fs.lookup f) (mA f))/\PySem.Within mA (fs.map (·.1))/\fs.length<=1000/\H dx=some (.own a):=by
 obtain⟨d,z,ne,ob,mA,n,r,q⟩:=(show ObjOk P w H h a (.ins C dx fs) from hok a _ e)
 exact⟨mA,⟨ob,n,ne⟩,r,q,z,d⟩
end
structure Cls(K:PySem.W.Frag)(C:Addr):Prop where
 pg:PySem.W.plainGet K C Str.empty=true
 hd:PySem.W.hasDictIn K C=true
 po:PySem.W.plainOver K C=true
 sa:PySem.W.findIn K (.ref C) "__setattr__" = some (some (.builtin "object.__setattr__"))
theorem Cls.get{K:PySem.W.Frag}{C:Addr}(c:Cls K C)(f:Str):PySem.W.plainGet K C f=true:=c.pg
def NoAttr(K:PySem.W.Frag)(C:Addr)(f:Str):Prop:=PySem.W.findIn K (.ref C) f=some none
theorem NoAttr.taker{K:PySem.W.Frag}{C:Addr}{f:Str}(n:NoAttr K C f):PySem.W.takerIn K C f=some none:=by
 unfold PySem.W.takerIn
 rw[show PySem.W.findIn K (.ref C) f=some none from n]
 rfl
structure Meth(K:PySem.W.Frag)(C:Addr)(m:Str)(f:Addr):Prop where
 at_:PySem.W.findIn K (.ref C) m=some (some (.ref f))
 fn:PySem.W.isFn K (.ref f)=true
 kp:PySem.W.keepIn K (.ref f)=true
section
variable{X:Cx}{pins:List (Addr×Obj)}{σ:St}{H:Hp}{s:Shared}{a C dx:Addr}{fs:List (Str×V)}{f:Str}{v:V}{A:Around}{E:Value->Shared->Prop}
theorem getattr_ok{b:Bool}{Q:Value->Shared->Prop}(I:Inv X pins σ H s)(e:H a=some (.ins C dx fs))(c:Cls X.K C)(n:NoAttr X.K C f)(l:fs.lookup f=some v)
  (h:∀u s',Inv X pins σ H s'->RelV v u->Q u s'):wpAny (model X.prog X.w) A (getAttr (.ref a) f b) Q E s:=by
 obtain⟨mA,O,r,_,_,_⟩:=ins_get I.hok e
 obtain⟨u,hu,ru⟩:=RelO.some_of (v:=v) (o:=mA f) (by rw[<-l];exact r f)
 exact get_map I.kIn O (c.get f) c.hd n hu (handed_of ru) (h u _ (I.tok _) ru)
theorem go12{m:Str}{g:Addr}{pl:Sem Bool}{Q:Value×List Value->Shared->Prop}(I:Inv X pins σ H s)(e:H a=some (.ins C dx fs))(c:Cls X.K C)(k:Meth X.K C m g)(l:fs.lookup m=none)
  (h:Q (.ref g,[.ref a]) s):wpAny (model X.prog X.w) A (getMethod (.ref a) m pl) Q E s:=by
 obtain⟨mA,O,r,_,_,_⟩:=ins_get I.hok e
 have hn:mA m=none:=RelO.none_of (by rw[<-l];exact r m)
 exact get_meth I.kIn O (c.get m) k.at_ k.fn hn h
theorem so{y:V}{u:Value}{Q:Unit->Shared->Prop}(I:Inv X pins σ H s)(e:H a=some (.ins C dx fs))(c:Cls X.K C)(n:NoAttr X.K C f)(hl:fs.length<1000)(ry:RelV y u)
  (h:∀s',Inv X pins σ (upd H a (.ins C dx (putF f y fs))) s'->Q () s'):wpAny (model X.prog X.w) A (setAttr (.ref a) f u) Q E s:=by
 obtain⟨mA,O,r,wi,_,ho⟩:=ins_get I.hok e
 have hz:(fs.map (·.1)).length<=sizeLine:=by rw[List.length_map,sizeLine_eq];omega
 refine set_map I.kIn O c.sa c.po n.taker c.hd wi hz fun h' O' sb=>h _ ?_
 have hd:∃o,h'.get? dx=some o:=let ⟨o,_,_,e',_⟩:=O'.ns;⟨o,e'⟩
 refine I.write (x:=a) (e:=dx) (by rw[e];exact True.intro) (.inr ho) (fun b q hb z=>(sb.2 b hb).trans z) hd ?_
 refine⟨by rw[un10 O.ne];exact ho,?_,O.ne,O'.obj,_,O'.ns,fun g=>?_,fun g hg=>?_⟩
 ·have:=lp11 f y fs;omega
 ·show RelO ((putF f y fs).lookup g) (if g=f then some u else mA g)
  rw[lp10]
  by_cases q:g=f
  ·rw[if_pos q,if_pos q];exact ry
  ·rw[if_neg q,if_neg q];exact r g
 ·by_cases q:g=f
  ·rw[q];exact (kp10 f y fs).1
  ·refine (kp10 f y fs).2 g (wi g fun z=>hg ?_)
   show (if g=f then some u else mA g)=none
   rw[if_neg q];exact z
theorem Inv.made(I:Inv X pins σ H s):Inv X pins σ (upd (upd H s.heap.objs.size (.own (s.heap.objs.size+1))) (s.heap.objs.size+1) (.ins C s.heap.objs.size []))
  { s with heap:=(s.heap.push PySem.W.emptyDict).push (PySem.W.instObj C s.heap.objs.size) }:=by
 have e1:(s.heap.push PySem.W.emptyDict).get? s.heap.objs.size=some PySem.W.emptyDict:=Heap.get?_push_size s.heap rfl
 have e2:((s.heap.push PySem.W.emptyDict).push (PySem.W.instObj C s.heap.objs.size)).get? (s.heap.objs.size+1)=some (PySem.W.instObj C s.heap.objs.size):=by
  have:=Heap.get?_push_size (s.heap.push PySem.W.emptyDict) (o:=PySem.W.instObj C s.heap.objs.size) rfl
  rwa [Heap.size_push] at this
 have e3:(s.heap.push PySem.W.emptyDict).Ns s.heap.objs.size (fun _=>none):=⟨PySem.W.emptyDict,#[],_,e1,rfl,(fun e he=>absurd he (by simp)),fun _=>rfl⟩
 have I1:=I.laid (a:=s.heap.objs.size) (o:=.own (s.heap.objs.size+1)) (h':=s.heap.push PySem.W.emptyDict) (t':=s.toks) (fun b u q=>Heap.get?_push_of_some _ q) (Nat.le_refl _) ⟨_,e1⟩
 refine I1.laid (a:=s.heap.objs.size+1) (o:=.ins C s.heap.objs.size []) (t':=s.toks) (fun b u q=>Heap.get?_push_of_some _ q) (Nat.le_of_eq (Heap.size_push _ _)) ?_
 have ne:s.heap.objs.size≠s.heap.objs.size+1:=Nat.ne_of_lt (Nat.lt_succ_self _)
 refine⟨by rw[un10 ne,us10],Nat.zero_le _,ne,e2,fun _=>none,(Heap.Ns1.of_empty e3).at fun o q=>Heap.get?_push_of_some _ q,fun _=>True.intro,fun y hy=>absurd rfl hy⟩
theorem attr_of{prog:Program}{w:World}{env:Env}{e:Expr}{f:Str}{pos:Pos}{s:Shared}{Q:Value->Shared->Prop}(hb:attributeBase e f env (eval e env)=eval e env)
  (h:wpAny (model prog w) A (eval e env) (fun o s₁=>wpAny (model prog w) A (getAttr o f true) Q E s₁) E s):wpAny (model prog w) A (eval (.Attribute e f pos) env) Q E s:=
 Attribute_any_ h (by rw[arm_eval_Attribute,hb])
end
def tFld(K:PySem.W.Frag)(ta:TE)(f:Str):TE:=fun σ H Q=>ta σ H fun x H1=>∃a C dx fs v,x=.ref a/\H1 a=some (.ins C dx fs)/\Cls K C/\NoAttr K C f/\fs.lookup f=some v/\Q v H1
def sFld(K:PySem.W.Frag)(ta tv:TE)(f:Str):TS:=fun D σ H=>tv σ H fun y H1=>ta σ H1 fun x H2=>∃a C dx fs,x=.ref a/\H2 a=some (.ins C dx fs)/\Cls K C/\NoAttr K C f/\fs.length<1000 /\
 D.nx σ (upd H2 a (.ins C dx (putF f y fs)))
def InOp(X:Cx)(op:Operator)(rd:V->V->Hp->VK->Prop):Prop:=
 ∀(pins:List (Addr×Obj)) (s:Shared) (σ:St) (H:Hp) (x y:V) (u v:Value) (Q:VK),Inv X pins σ H s->RelV x u->RelV y v->rd x y H Q->wpAny (model X.prog X.w) X.A (inplaceOp op u v) (EP X pins σ Q) X.xe s
def sFldAug(K:PySem.W.Frag)(ta tv:TE)(rd:V->V->Hp->VK->Prop)(f:Str):TS:=fun D σ H=>ta σ H fun x H1=>∃a C dx fs v,x=.ref a/\H1 a=some (.ins C dx fs)/\Cls K C/\NoAttr K C f/\fs.lookup f=some v /\
 tv σ H1 fun y H2=>rd v y H2 fun z H3=>∃dx' fs',H3 a=some (.ins C dx' fs')/\fs'.length<1000/\D.nx σ (upd H3 a (.ins C dx' (putF f z fs')))
section
variable{X:Cx}{o e value:Expr}{f:Str}{pos pos' tpos:Pos}{ta tv:TE}
theorem pf11(he:PE X e ta)(hb:attributeBase e f X.env (eval e X.env)=eval e X.env):PE X (.Attribute e f pos) (tFld X.K ta f):=by
 intro pins s σ H Q I h
 refine attr_of hb (thn (he pins s σ H _ I h) fun u s1 ⟨x,H1,I1,rx,a,C,dx,fs,v,ex,ea,c,n,l,q⟩=>?_)
 subst ex
 obtain rfl:u=Value.ref a:=rx
 exact getattr_ok I1 ea c n l fun u' s2 I2 ru=>⟨v,H1,I2,ru,q⟩
theorem pf12(ha:PE X o ta)(hv:PE X value tv)(hs:swapsWith value (some (.Attribute o f pos')) pos.line X.env=pure false):PS X (.Assign [.Attribute o f pos'] value pos) (sFld X.K ta tv f):=by
 intro pins s σ H D I h
 refine plainObj_wpAny_Assign_Attribute (thn (hv pins s σ H _ I h) fun u s1 ⟨y,H1,I1,ry,q⟩=>thn (ha pins s1 σ H1 _ I1 q) fun ov s2 ⟨x,H2,I2,rx,a,C,dx,fs,ex,ea,c,n,l,q2⟩=>?_) hs
 subst ex
 obtain rfl:ov=Value.ref a:=rx
 exact so I2 ea c n l ry fun s3 I3=>⟨σ,_,I3,q2⟩
theorem pf13{op:Operator}{rd:V->V->Hp->VK->Prop}(ha:PE X o ta)(hv:PE X value tv)(hop:InOp X op rd):PS X (.AugAssign (.Attribute o f tpos) op value pos) (sFldAug X.K ta tv rd f):=by
 intro pins s σ H D I h
 refine wpAny_AugAssign_AttributeAny (thn (ha pins s σ H _ I h) fun ov s1 ⟨x,H1,I1,rx,a,C,dx,fs,v,ex,ea,c,n,l,q⟩=>?_)
 subst ex
 obtain rfl:ov=Value.ref a:=rx
 refine getattr_ok I1 ea c n l fun u s2 I2 ru=>thn (hv pins s2 σ H1 _ I2 q) fun w3 s3 ⟨y,H2,I3,ry,q3⟩=>thn (hop pins s3 σ H2 v y u w3 _ I3 ru ry q3) fun w4 s4 ⟨z,H3,I4,rz,dx',fs',ea',l',q4⟩=>?_
 exact so I4 ea' c n l' rz fun s5 I5=>⟨σ,_,I5,q4⟩
def rAdd:V->V->Hp->VK->Prop:=fun x y H Q=>∃i j,x=.int i/\y=.int j/\Q (.int (i+j)) H
theorem in_add:InOp X .Add rAdd:=by
 rintro pins s σ H x y u v Q I rx ry ⟨i,j,rfl,rfl,q⟩
 obtain⟨t,rfl⟩:=(show ∃t,u=Value.int i t from rx)
 obtain⟨t',rfl⟩:=(show ∃t',v=Value.int j t' from ry)
 exact PyProof.Rows.iadd_int ⟨.int (i+j),H,I.tok _,⟨_,rfl⟩,q⟩
theorem methcall_of{pl:Sem Bool}{m:Str}{apos:Pos}{args:List Expr}{pins:List (Addr×Obj)}{s:Shared}{σ:St}{H:Hp}{Q:Value->Shared->Prop}{te:TE}(he:PE X e te)(I:Inv X pins σ H s)
  (h:te σ H fun x H1=>∃a C dx fs g,x=.ref a/\H1 a=some (.ins C dx fs)/\Cls X.K C/\Meth X.K C m g/\fs.lookup m=none /\
   ∀s1,Inv X pins σ H1 s1->wpAny (model X.prog X.w) X.A (callWith pos (.ref g) [.ref a] (backTo pos (starEach args X.env)) (backToKw pos (keywordEach [] X.env))) Q X.xe s1)
  (ht:eval (.Call (.Attribute e m apos) args [] pos) X.env=(do
   let ov <-eval e X.env
   standAt apos.atName
   let (f,first) <-holding [ov] (getMethod ov m pl)
   callWith pos f first (backTo pos (starEach args X.env)) (backToKw pos (keywordEach [] X.env)))) :
  wpAny (model X.prog X.w) X.A (eval (.Call (.Attribute e m apos) args [] pos) X.env) Q X.xe s:=by
 refine PySem.W.methodCall_KW (pl:=pl) (thn (he pins s σ H _ I h) fun u s1 ⟨x,H1,I1,rx,a,C,dx,fs,g,ex,ea,c,k,l,q⟩=>?_) ht
 subst ex
 obtain rfl:u=Value.ref a:=rx
 exact go12 I1 ea c k l (q s1 I1)
end
section
variable{X:Cx}{pins:List (Addr×Obj)}{σ:St}{H:Hp}{s:Shared}{A:Around}{E:Value->Shared->Prop}{Q:Value->Shared->Prop}{c:Value}{b:Bool}
end
end L2
namespace L2
open PySem PySem.Spec PyProof.Rows
structure Room(k:Nat)(A:Around):Prop where
 hd:A.handled=none
 dp:A.depth+3*k+5<recursionLimit
 un:A.units+16*k+200<cLine
theorem Room.mono{j k:Nat}{A:Around}(r:Room k A)(h:j<=k):Room j A:=⟨r.hd,by have:=r.dp;omega,by have:=r.un;omega⟩
theorem Room.deeper{k:Nat}{A:Around}(r:Room (k+1) A)(env:Env):Room k (A.deeper env):=
 ⟨r.hd,by have:=r.dp;show A.depth+1+3*k+5<_;omega,by have:=r.un;show A.units+3+16*k+200<_;omega⟩
theorem make_depth{A:Around}{C:Addr}{us:List Value}{kw:List (Str×Value)}:(A.under (.builtin "type.__call__" ⟨.ref C::us,kw⟩)).depth=A.depth+1:=by
 first | rfl | simp[Around.under,Code.weight,Code.isCreation,Code.isGuard,Code.isCaller,Code.frames,Code.isFrame,guardIds]
theorem make_units{A:Around}{C:Addr}{us:List Value}{kw:List (Str×Value)}:(A.under (.builtin "type.__call__" ⟨.ref C::us,kw⟩)).units=A.units+1:=by
 first | rfl | simp[Around.under,Code.cUnits,Code.frames,Code.isFrame]
theorem Room.make{k:Nat}{A:Around}(r:Room (k+1) A)(C:Addr)(us:List Value)(kw:List (Str×Value)):Room k (A.under (.builtin "type.__call__" ⟨.ref C::us,kw⟩)):=
 ⟨r.hd,by have:=r.dp;rw[make_depth];omega,by have:=r.un;rw[make_units];omega⟩
theorem Room.depth{k:Nat}{A:Around}(r:Room k A):A.depth<recursionLimit:=by have:=r.dp;omega
theorem Room.units{k:Nat}{A:Around}(r:Room k A):A.units+64<cLine:=by have:=r.un;omega
def tNil:TA:=fun _ H Q=>Q [] H
def tCons(ta:TE)(tr:TA):TA:=fun σ H Q=>ta σ H fun x H1=>tr σ H1 fun xs H2=>Q (x::xs) H2
section
variable{X:Cx}{e:Expr}{es:List Expr}{te:TE}{t:TA}{pos:Pos}
theorem pn10:PA X [] tNil:=fun _ _ _ _ H Q I h=>Calls.spliced_nil ⟨[],H,I,.nil,h⟩
theorem pc(ha:PE X e te)(hr:PA X es t)(hs:starEach (e::es) X.env=(false,eval e X.env)::starEach es X.env:=by rfl):PA X (e::es) (tCons te t):=by
 intro pos pins s σ H Q I h
 rw[hs]
 show wpAny _ _ (spliced ((false,eval e X.env)::backTo pos (starEach es X.env))) _ _ s
 refine Calls.spliced_cons (thn (ha pins s σ H _ I h) fun u s1 ⟨x,H1,I1,r1,q1⟩=>?_)
 exact thn (hr pos pins s1 σ H1 _ I1 q1) fun us s2 ⟨xs,H2,I2,r2,q2⟩=>⟨x::xs,H2,I2,.cons r1 r2,q2⟩
def tTup(t:TA):TE:=fun σ H Q=>t σ H fun xs H1=>xs.length<=sizeLine/\∀p,H1 p=none->Q (.ref p) (upd H1 p (.tup xs))
def tLst(t:TA):TE:=fun σ H Q=>t σ H fun xs H1=>xs.length<=sizeLine/\∀p,H1 p=none->Q (.ref p) (upd H1 p (.lst xs))
theorem pe_tup{x1}(h:PA X es t):PE X (.Tuple es x1 pos) (tTup t):=by
 intro pins s σ H Q I hq
 refine wpAny_Tuple_spliced (thn (h pos pins s σ H _ I hq) fun us s1 ⟨xs,H1,I1,r,z,q⟩=>⟨by rw[<-r.length];exact z,?_⟩)
 have hf:H1 s1.heap.objs.size=none:=I1.hok.fresh (Nat.le_refl _)
 refine⟨.ref s1.heap.objs.size,upd H1 s1.heap.objs.size (.tup xs),I1.laid (t':=s1.toks) (fun b u e=>Heap.get?_push_of_some _ e) (Nat.le_refl _) ?_,rfl,q _ hf⟩
 exact⟨z,us,r,⟨_,Heap.get?_push_size _ rfl,rfl,_,rfl⟩⟩
theorem pl12(h:PA X es t):PE X (.List es pos) (tLst t):=by
 intro pins s σ H Q I hq
 refine wpAny_List_spliced (thn (h pos pins s σ H _ I hq) fun us s1 ⟨xs,H1,I1,r,z,q⟩=>⟨by rw[<-r.length];exact z,?_⟩)
 have hf:H1 s1.heap.objs.size=none:=I1.hok.fresh (Nat.le_refl _)
 refine⟨.ref s1.heap.objs.size,upd H1 s1.heap.objs.size (.lst xs),I1.laid (t':=s1.toks) (fun b u e=>Heap.get?_push_of_some _ e) (Nat.le_refl _) ?_,rfl,q _ hf⟩
 exact⟨z,us,0,r,Heap.get?_push_size _ rfl⟩
end
abbrev Sp:=List V->Hp->VK->XK->Prop
abbrev CXT:=List Env->Hp->Shared->XK->Value->Shared->Prop
structure Env0(P:Program)(w:World)(K:PySem.W.Frag)(mg:Str->Option Value)(base:Heap)(A:Around)(outer:List Env)(s:Shared)(H:Hp):Prop where
 frames:A.frames=some outer
 mod:Mod K mg base
 bs:∀b o,base.get? b=some o->s.heap.get? b=some o/\H b=none
 bsz:base.objs.size<=s.heap.objs.size
 funs:s.heap.FunFrames base outer
 frf:∀b∈frs outer,H b=none
 hok:HOk P w H s.heap
 bare:AllBare s.gens
def CE(outer:List Env)(P:Program)(w:World)(H:Hp)(s:Shared)(Q:VK)(u:Value)(s':Shared):Prop:=
 ∃v H',s'.os=s.os/\AllBare s'.gens/\Un (frs outer) [] H H' s.heap s'.heap/\HOk P w H' s'.heap/\RelV v u/\Q v H'
def CR(CX:CXT)(outer:List Env)(P:Program)(w:World)(H:Hp)(s:Shared)(Q:VK)(E:XK)(r:Result)(s':Shared):Prop:=
 match r with
 |.ok (.ret u)=>CE outer P w H s Q u s'
 |.ok _=>False
 |.error e=>CX outer H s E e s'
structure FnOk(P:Program)(w:World)(K:PySem.W.Frag)(mg:Str->Option Value)(base:Heap)(CX:CXT)(k:Nat)(f:Addr)(fd:FuncData)(ps:List Str)(sp:Sp):Prop where
 len:∀vs H Q E,sp vs H Q E->vs.length=ps.length
 run:∀(A:Around) (outer:List Env) (s:Shared) (H:Hp) (args:Args) (us:List Value) (vs:List V) (Q:VK) (E:XK),Room k A->Env0 P w K mg base A outer s H->BindsTo s fd args (ps.zip us)->Vals vs us->sp vs H Q E ->
  codeAny (model P w) A (.call (.ref f) args) (CR CX outer P w H s Q E) s
theorem Env0.make{P:Program}{w:World}{K:PySem.W.Frag}{mg:Str->Option Value}{base:Heap}{A:Around}{outer:List Env}{s:Shared}{H:Hp}(e:Env0 P w K mg base A outer s H)(C:Addr)(us:List Value)(kw:List (Str×Value)) :
  Env0 P w K mg base (A.under (.builtin "type.__call__" ⟨.ref C::us,kw⟩)) outer s H:=⟨by first | exact e.frames | (simpa [Around.under,Code.envs,Code.isFrame,pushEnvs] using e.frames),e.mod,e.bs,e.bsz,e.funs,e.frf,e.hok,e.bare⟩
section
variable{X:Cx}{pins:List (Addr×Obj)}{σ:St}{H:Hp}{s s':Shared}
theorem Inv.env0(I:Inv X pins σ H s):Env0 X.prog X.w X.K X.mg X.base X.A X.stack s H:=
 ⟨I.ok.frames,I.ok.mod,I.bs,Nat.le_trans I.ok.bsz I.sz,I.stack,I.stkFree,I.hok,I.bare⟩
theorem Inv.after{Q:VK}{u:Value}(I:Inv X pins σ H s)(h:CE X.stack X.prog X.w H s Q u s'):EP X pins σ Q u s':=by
 obtain⟨v,H',os,bare,un,hok,r,q⟩:=h
 obtain⟨hh,g,d,t,os'⟩:=s'
 obtain rfl:os'=s.os:=os
 exact⟨v,H',I.call (h':=hh) (g':=g) (d':=d) (t':=t) (ch:=[]) un hok bare (fun b z=>absurd z (by simp)),r,q⟩
end
def tCall(sp:Sp)(dvs:List V)(E:XK)(t:TA):TE:=fun σ H Q=>t σ H fun vs H1=>sp (vs++dvs) H1 Q E
def tMeth(C:Addr)(m:Str)(sp:Sp)(dvs:List V)(E:XK)(ta:TE)(t:TA):TE:=fun σ H Q=>ta σ H fun x H1=>∃a dx fs,x=.ref a/\H1 a=some (.ins C dx fs)/\fs.lookup m=none /\
 t σ H1 fun vs H2=>sp (x::(vs++dvs)) H2 Q E
def tMake(C:Addr)(sp:Sp)(dvs:List V)(E:XK)(t:TA):TE:=fun σ H Q=>t σ H fun vs H1=>∀x dx,H1 x=none->H1 dx=none->dx≠x ->
 sp (.ref x::(vs++dvs)) (upd (upd H1 dx (.own x)) x (.ins C dx [])) (fun v H2=>v=.non/\Q (.ref x) H2) E
def Binds(K:PySem.W.Frag)(fd:FuncData)(ps:List Str)(ds:List Value):Prop:=
 ∀(s:Shared) (us:List Value),K.In s.heap->(us++ds).length=ps.length->BindsTo s fd ⟨us,[]⟩ (ps.zip (us++ds))
theorem Binds.all{K:PySem.W.Frag}{fd:FuncData}{ps:List Str}(h:∀us:List Value,us.length=ps.length->bindArgs fd ⟨us,[]⟩=pure (ps.zip us)):Binds K fd ps []:=fun s us _ hl=>by
 rw[List.append_nil] at hl ⊢
 exact .of_eq (h us hl)
def Passes(CX:CXT)(X:Cx)(E:XK):Prop:=∀(pins:List (Addr×Obj)) (σ:St) (H:Hp) (s:Shared) (e:Value) (s':Shared),Inv X pins σ H s->CX X.stack H s E e s'->X.xe e s'
section
variable{X:Cx}{CX:CXT}{k:Nat}{f C:Addr}{fd:FuncData}{ps:List Str}{sp:Sp}{dvs:List V}{ds:List Value}{E:XK}{x m:Str}{p pos apos:Pos}{e o:Expr}{es:List Expr}{ta:TE}{t:TA}
theorem run_fn{pins:List (Addr×Obj)}{σ:St}{H:Hp}{s:Shared}{Q:VK}{us:List Value}{vs:List V}(F:FnOk X.prog X.w X.K X.mg X.base CX k f fd ps sp)(hr:Room k X.A)(hb:Binds X.K fd ps ds)(hd:Vals dvs ds)(hx:Passes CX X E)
  (I:Inv X pins σ H s) (r:Vals vs us) (h:sp (vs++dvs) H Q E):wpAny (model X.prog X.w) X.A (call (.ref f) us) (EP X pins σ Q) X.xe s:=by
 have r2:Vals (vs++dvs) (us++ds):=r.append hd
 have hl:(us++ds).length=ps.length:=by rw[<-r2.length];exact F.len _ _ _ _ h
 refine wpAny_call (codeAny_mono (F.run X.A X.stack s H ⟨us,[]⟩ (us++ds) (vs++dvs) Q E hr I.env0 (hb s us I.kIn hl) r2 h) fun r s' hq=>?_)
 cases r with
 |error e=>exact hx pins σ H s e s' I hq
 |ok fl=>
  cases fl with
  |ret u=>exact I.after hq
  |next=>exact False.elim hq
  |brk=>exact False.elim hq
  |cont=>exact False.elim hq
theorem pe_call(F:FnOk X.prog X.w X.K X.mg X.base CX k f fd ps sp)(hr:Room k X.A)(hg:Gl X x)(hm:X.mg x=some (.ref f))(hk:PySem.W.keepIn X.K (.ref f)=true)(hb:Binds X.K fd ps ds)(hd:Vals dvs ds)(hx:Passes CX X E)
  (ha:PA X (e::es) t) (hdb:(x==("__debug__":Str))=false:=by decide) (he:starEach (e::es) X.env=(false,eval e X.env)::starEach es X.env:=by rfl) (hpl:(backTo pos (starEach es X.env)).any (·.1)=false:=by rfl) :
  PE X (.Call (.Name x p) (e::es) [] pos) (tCall sp dvs E t):=by
 intro pins s σ H Q I h
 refine wpAny_Call_Name_kw (lg10 I hg hm ?_ hdb)
 refine PySem.W.callWith_K (h₀:=X.base) I.ok.mod.kin hk (thn (ha pos pins s σ H _ I h) fun us s1 ⟨vs,H1,I1,r,q⟩=>⟨I1.kIn,?_⟩) he hpl
 exact run_fn F hr hb hd hx I1 r q
theorem pe_meth{pl:Sem Bool}(he:PE X o ta)(c:Cls X.K C)(hm:Meth X.K C m f)(F:FnOk X.prog X.w X.K X.mg X.base CX k f fd ps sp)(hr:Room k X.A)(hb:Binds X.K fd ps ds)(hd:Vals dvs ds)(hx:Passes CX X E)(ha:PA X (e::es) t)
  (hst:starEach (e::es) X.env=(false,eval e X.env)::starEach es X.env:=by rfl) (hpl:(backTo pos (starEach es X.env)).any (·.1)=false:=by rfl)
  (ht:eval (.Call (.Attribute o m apos) (e::es) [] pos) X.env=(do
   let ov <-eval o X.env
   standAt apos.atName
   let (f,first) <-holding [ov] (getMethod ov m pl)
   callWith pos f first (backTo pos (starEach (e::es) X.env)) (backToKw pos (keywordEach [] X.env))):=by rfl) :
  PE X (.Call (.Attribute o m apos) (e::es) [] pos) (tMeth C m sp dvs E ta t):=by
 intro pins s σ H Q I h
 refine PySem.W.methodCall_KW (pl:=pl) (thn (he pins s σ H _ I h) fun u s1 ⟨x,H1,I1,rx,a,dx,fs,ex,ea,l,q⟩=>?_) ht
 subst ex
 obtain rfl:u=Value.ref a:=rx
 refine go12 I1 ea c hm l ?_
 refine PySem.W.callWith_K (first:=[.ref a]) (h₀:=X.base) I.ok.mod.kin hm.kp (thn (ha pos pins s1 σ H1 _ I1 q) fun us s2 ⟨vs,H2,I2,r,q2⟩=>⟨I2.kIn,?_⟩) hst hpl
 exact run_fn (us:=.ref a::us) (vs:=.ref a::vs) F hr hb hd hx I2 (.cons rfl r) q2
theorem pe_meth0{pl:Sem Bool}(he:PE X o ta)(c:Cls X.K C)(hm:Meth X.K C m f)(F:FnOk X.prog X.w X.K X.mg X.base CX k f fd ps sp)(hr:Room k X.A)(hb:Binds X.K fd ps ds)(hd:Vals dvs ds)(hx:Passes CX X E)
  (ht:eval (.Call (.Attribute o m apos) [] [] pos) X.env=(do
   let ov <-eval o X.env
   standAt apos.atName
   let (f,first) <-holding [ov] (getMethod ov m pl)
   callWith pos f first (backTo pos (starEach [] X.env)) (backToKw pos (keywordEach [] X.env))):=by rfl) :
  PE X (.Call (.Attribute o m apos) [] [] pos) (tMeth C m sp dvs E ta tNil):=by
 intro pins s σ H Q I h
 refine PySem.W.methodCall_KW (pl:=pl) (thn (he pins s σ H _ I h) fun u s1 ⟨x,H1,I1,rx,a,dx,fs,ex,ea,l,q⟩=>?_) ht
 subst ex
 obtain rfl:u=Value.ref a:=rx
 refine go12 I1 ea c hm l ?_
 exact PySem.W.callWith_K0 (first:=[.ref a]) I1.kIn hm.kp (run_fn (us:=[.ref a]) (vs:=[.ref a]) F hr hb hd hx I1 (.cons rfl .nil) q)
structure Mk(K:PySem.W.Frag)(C f:Addr):Prop where
 makes:PySem.W.makesIn K C=true
 init:PySem.W.findIn K (.ref C) "__init__" = some (some (.ref f))
 fn:PySem.W.isFn K (.ref f)=true
 kp:PySem.W.keepIn K (.ref C)=true
theorem run_make{pins:List (Addr×Obj)}{σ:St}{H:Hp}{s:Shared}{Q:VK}{us:List Value}{vs:List V}(M:Mk X.K C f)(F:FnOk X.prog X.w X.K X.mg X.base CX k f fd ps sp)(hr:Room (k+1) X.A)(hb:Binds X.K fd ps ds)(hd:Vals dvs ds)
  (hx:Passes CX X E) (I:Inv X pins σ H s) (r:Vals vs us)
  (h:∀x dx,H x=none->H dx=none->dx≠x->sp (.ref x::(vs++dvs)) (upd (upd H dx (.own x)) x (.ins C dx [])) (fun v H2=>v=.non/\Q (.ref x) H2) E) :
  wpAny (model X.prog X.w) X.A (call (.ref C) us) (EP X pins σ Q) X.xe s:=by
 have hq:=h (s.heap.objs.size+1) s.heap.objs.size (I.hok.fresh (Nat.le_succ _)) (I.hok.fresh (Nat.le_refl _)) (Nat.ne_of_lt (Nat.lt_succ_self _))
 have I2:=Inv.made (C:=C) I
 have r2:Vals (V.ref (s.heap.objs.size+1)::(vs++dvs)) (Value.ref (s.heap.objs.size+1)::(us++ds)):=.cons rfl (r.append hd)
 have hl:(Value.ref (s.heap.objs.size+1)::us++ds).length=ps.length:=by
  have e:=r2.length
  rw[F.len _ _ _ _ hq] at e
  exact e.symm
 refine wpAny_call (make_map (f:=f) I.kIn M.makes M.init (beq_iff_eq.mp M.fn) (codeAny_mono (F.run _ X.stack _ _ ⟨Value.ref (s.heap.objs.size+1)::us,[]⟩ (Value.ref (s.heap.objs.size+1)::(us++ds)) _ _ E (hr.make C us [])
  (I2.env0.make C us []) (hb _ (Value.ref (s.heap.objs.size+1)::us) I2.kIn hl) r2 hq) fun r s' hq'=>?_))
 cases r with
 |error e=>exact hx pins σ _ _ e s' I2 hq'
 |ok fl=>
  cases fl with
  |ret u=>
   obtain⟨v,H',I3,rv,ev,q3⟩:=I2.after hq'
   subst ev
   exact⟨rv,⟨V.ref (s.heap.objs.size+1),H',I3,rfl,q3⟩⟩
  |next=>exact False.elim hq'
  |brk=>exact False.elim hq'
  |cont=>exact False.elim hq'
theorem pe_make(M:Mk X.K C f)(F:FnOk X.prog X.w X.K X.mg X.base CX k f fd ps sp)(hr:Room (k+1) X.A)(hg:Gl X x)(hm:X.mg x=some (.ref C))(hb:Binds X.K fd ps ds)(hd:Vals dvs ds)(hx:Passes CX X E)
  (ha:PA X (e::es) t) (hdb:(x==("__debug__":Str))=false:=by decide) (he:starEach (e::es) X.env=(false,eval e X.env)::starEach es X.env:=by rfl) (hpl:(backTo pos (starEach es X.env)).any (·.1)=false:=by rfl) :
  PE X (.Call (.Name x p) (e::es) [] pos) (tMake C sp dvs E t):=by
 intro pins s σ H Q I h
 refine wpAny_Call_Name_kw (lg10 I hg hm ?_ hdb)
 refine PySem.W.callWith_K (h₀:=X.base) I.ok.mod.kin M.kp (thn (ha pos pins s σ H _ I h) fun us s1 ⟨vs,H1,I1,r,q⟩=>⟨I1.kIn,?_⟩) he hpl
 exact run_make M F hr hb hd hx I1 r q
end
section
variable{X:Cx}{CX:CXT}{k:Nat}{f C:Addr}{fd:FuncData}{ps ks:List Str}{sp:Sp}{E:XK}{x m:Str}{p pos apos kpos:Pos}{e o:Expr}{es:List Expr}{kws:List Keyword}{te ta:TE}{t tk:TA}{nm:Option Str}
variable{g:List Value->List Value->List Value}{gV:List V->List V->List V}
end
structure FnScope(N P:List Str)(sc:Scope):Prop where
 kind:sc.kind=.function
 co:sc.isCoroutine=false
 gen:sc.isGenerator=false
 nd:N.Nodup
 pre:N.take P.length=P
 par:∀x∈P,sc.names.lookup x=some .local\/sc.names.lookup x=some .cell
 nofree:∀y∈sc.names,y.2≠.free
theorem bindL_out{kindOf:Str->Option NameKind}{x:Str}:∀{binds:List (Str×Value)}{m:Str->Option Value},(∀v,(x,v) ∉ binds)->bindL kindOf binds m x=m x
 |[],_,_=>rfl
 |(n,v)::r,m,h=>by
  unfold bindL
  rw[bindL_out fun w hw=>h w (List.mem_cons_of_mem _ hw)]
  split
  ·have:x≠n:=by rintro rfl;exact h v List.mem_cons_self
   simp[this]
  ·rfl
theorem bo{kindOf:Str->Option NameKind}{x:Str}:∀{binds:List (Str×Value)}{m:Str->Option Value},(∀v,(x,v) ∉ binds)->bindC kindOf binds m x=m x
 |[],_,_=>rfl
 |(n,v)::r,m,h=>by
  unfold bindC
  rw[bo fun w hw=>h w (List.mem_cons_of_mem _ hw)]
  split
  ·rfl
  ·have:x≠n:=by rintro rfl;exact h v List.mem_cons_self
   simp[this]
theorem bindL_get{kindOf:Str->Option NameKind}{x:Str}{v:Value}:∀{P:List Str}{vs:List Value}{i:Nat}{m:Str->Option Value},P.Nodup->P[i]? = some x->vs[i]? = some v->kindOf x=some .local ->
  bindL kindOf (P.zip vs) m x=some v
 |[],_,_,_,_,h,_,_=>by simp at h
 |_::_,[],_,_,_,_,h,_=>by simp at h
 |p::P,w::vs,0,m,nd,h1,h2,hk=>by
  simp at h1 h2;subst h1;subst h2
  show bindL kindOf ((p,w)::P.zip vs) m p=_
  unfold bindL
  rw[bindL_out fun v hv=>(List.nodup_cons.mp nd).1 (List.of_mem_zip hv).1,if_pos hk]
  simp
 |p::P,w::vs,i+1,m,nd,h1,h2,hk=>by
  show bindL kindOf ((p,w)::P.zip vs) m x=_
  unfold bindL
  exact bindL_get (i:=i) (List.nodup_cons.mp nd).2 (by simpa using h1) (by simpa using h2) hk
theorem bindC_get{kindOf:Str->Option NameKind}{x:Str}{v:Value}:∀{P:List Str}{vs:List Value}{i:Nat}{m:Str->Option Value},P.Nodup->P[i]? = some x->vs[i]? = some v->kindOf x≠some .local ->
  bindC kindOf (P.zip vs) m x=some v
 |[],_,_,_,_,h,_,_=>by simp at h
 |_::_,[],_,_,_,_,h,_=>by simp at h
 |p::P,w::vs,0,m,nd,h1,h2,hk=>by
  simp at h1 h2;subst h1;subst h2
  show bindC kindOf ((p,w)::P.zip vs) m p=_
  unfold bindC
  rw[bo fun v hv=>(List.nodup_cons.mp nd).1 (List.of_mem_zip hv).1,if_neg hk]
  simp
 |p::P,w::vs,i+1,m,nd,h1,h2,hk=>by
  show bindC kindOf ((p,w)::P.zip vs) m x=_
  unfold bindC
  exact bindC_get (i:=i) (List.nodup_cons.mp nd).2 (by simpa using h1) (by simpa using h2) hk
def start(N:List Str)(vs:List V):St:=vs.map some++List.replicate (N.length-vs.length) none
def cxOf(CX:CXT)(P:Program)(w:World)(K:PySem.W.Frag)(mg:Str->Option Value)(base:Heap)(N:List Str)(qual:Str)(scope:Scope)(f:Addr)(cd:Value)(A:Around)(outer:List Env)(s:Shared)(H:Hp)(E:XK):Cx where
 prog:=P
 w:=w
 K:=K
 mg:=mg
 base:=base
 A:=A.deeper (envOfC qual scope s.heap.objs.size f cd)
 N:=N
 s_0:=s
 H_0:=H
 env:=envOfC qual scope s.heap.objs.size f cd
 outer:=outer
 stack:=envOfC qual scope s.heap.objs.size f cd::outer
 ex:=[]
 calm:=true
 fn:=fun _=>true
 pn:=[]
 xe:=fun e s'=>wpAny (model P w) (A.deeper (envOfC qual scope s.heap.objs.size f cd)) (leaving (envOfC qual scope s.heap.objs.size f cd) e) (fun _ s''=>CX outer H s E e s'') (fun e' s''=>CX outer H s E e' s'') s'
theorem cell_has{sc:Scope}{n:Nat}{x:Str}(h:sc.names.lookup x=some .cell):∃c,(cellsFrom n sc.names []).lookup x=some c:=by
 have q:=PySem.W.cellsFrom_some sc.names n [] (.inl h)
 exact Option.isSome_iff_exists.mp q
theorem inv_start{CX:CXT}{P:Program}{w:World}{K:PySem.W.Frag}{mg:Str->Option Value}{base:Heap}{N ps:List Str}{qual:Str}{scope:Scope}{f:Addr}{cd:Value}{A:Around}{outer:List Env}{s s1:Shared}{H:Hp}{E:XK}{us:List Value}{vs:List V}
  (S:FnScope N ps scope) (hd:A.handled=none) (e0:Env0 P w K mg base A outer s H) (hl:vs.length=ps.length) (r:Vals vs us)
  (x:InCallC s s.heap.objs.size (bindL (envOfC qual scope s.heap.objs.size f cd).kindOf (ps.zip us) fun _=>none) (cellsFrom (s.heap.objs.size+1) scope.names []) (bindC (envOfC qual scope s.heap.objs.size f cd).kindOf (ps.zip us) fun _=>none) s1) :
  Inv (cxOf CX P w K mg base N qual scope f cd A outer s H E) [] (start N vs) H s1:=by
 have hpl:ps.length<=N.length:=by have:=congrArg List.length S.pre;rw[List.length_take] at this;omega
 obtain⟨h1,tk,rfl,hk⟩:=x.done
 have noA:∀b:Addr,b ∉ (cxOf CX P w K mg base N qual scope f cd A outer s H E).ex:=fun b z=>absurd (show b∈([]:List Addr) from z) (by simp)
 refine⟨⟨e0.mod,S.kind,rfl,rfl,Nat.le_refl _,fun y z c h1 h2=>?_,fun y hy=>?_,fun y c _ h=>?_,fun _=>hd,Around.frames_deeper e0.frames,.inr ⟨rfl,rfl⟩,fun b z=>absurd z (noA b),e0.bs,e0.bsz,fun b _ _=>noA b,fun b z=>absurd z (noA b),e0.funs,e0.frf⟩,
  rfl,e0.bare,Un.kept hk,⟨_,x.toInCall.ns,fun i y v h1 h2 h3=>?_⟩,fun y c h=>⟨_,x.cell y c h⟩,e0.hok.fresh (Nat.le_refl _),fun y c h=>?_,fun p hp=>absurd (show p∈([]:List (Addr×Obj)) from hp) (by simp),e0.hok.kept hk,?_⟩
 ·exact name_of_addr x.apart (PySem.mem_of_lookup h1) (PySem.mem_of_lookup h2)
 ·have hy:scope.names.lookup y=some .cell\/scope.names.lookup y=some .free:=hy
  rcases hy with hy | hy
  ·exact cell_has hy
  ·exact absurd rfl (S.nofree _ (PySem.mem_of_lookup hy))
 ·exact Nat.le_of_lt (x.above y c (PySem.mem_of_lookup h))
 ·have hi:i<vs.length:=by
   unfold start at h2
   by_cases hi:i<vs.length
   ·exact hi
   ·rw[List.getElem?_append_right (by simpa using hi)] at h2
    rw[List.getElem?_replicate] at h2
    split at h2<;>cases h2
  have ha:vs[i]? = some v:=by
   unfold start at h2
   rw[List.getElem?_append_left (by simpa using hi),List.getElem?_map] at h2
   cases e:vs[i]? with
   |none=>rw[e] at h2;cases h2
   |some a=>rw[e] at h2;cases h2;rfl
  obtain⟨u,hu,rv⟩:=r.get ha
  have hp:ps[i]? = some y:=by
   rw[<-S.pre,List.getElem?_take_of_lt (by omega)];exact h1
  have ndP:ps.Nodup:=by rw[<-S.pre];exact S.nd.sublist (List.take_sublist _ _)
  refine⟨u,rv,?_⟩
  rcases S.par y (List.mem_of_getElem? hp) with k | k
  ·exact .inl ⟨k,bindL_get ndP hp hu k⟩
  ·obtain⟨c,e⟩:=cell_has (n:=s.heap.objs.size+1) k
   refine .inr ⟨.inl k,c,e,?_⟩
   have q:=x.cell y c e
   rw[bindC_get ndP hp hu (by show scope.names.lookup y≠_;rw[k];decide)] at q
   exact q
 ·exact e0.hok.fresh (Nat.le_of_lt (x.above y c (PySem.mem_of_lookup h)))
 ·unfold start
  show _=N.length
  rw[List.length_append,List.length_map,List.length_replicate]
  omega
theorem fn_of{CX:CXT}{P:Program}{w:World}{K:PySem.W.Frag}{mg:Str->Option Value}{base:Heap}{k:Nat}{f:Addr}{name qual:Str}{params:Arguments}{body:List Stmt}{scope:Scope}{dV kV doc pm cdv ct oc:Value}{an od:Option Addr}
  {osl:Array (Option Value)} {N ps:List Str} {sp:Sp} (lk:K.lookup f=some ⟨oc,od,.func (PySem.W.fnOf name qual params body scope dV kV doc pm an cdv ct),osl⟩) (hcd:PySem.W.codeIn K cdv qual=true) (S:FnScope N ps scope)
  (len:∀vs H Q E,sp vs H Q E->vs.length=ps.length)
  (hbody:∀(A:Around) (outer:List Env) (s:Shared) (H:Hp) (vs:List V) (Q:VK) (E:XK),Room k (A.deeper (envOfC qual scope s.heap.objs.size f cdv))->sp vs H Q E ->
   ∃t,PSs (cxOf CX P w K mg base N qual scope f cdv A outer s H E) body t/\t { nx:=fun _ H'=>Q .non H',rt:=Q } (start N vs) H) :
  FnOk P w K mg base CX (k+1) f (PySem.W.fnOf name qual params body scope dV kV doc pm an cdv ct) ps sp:=by
 refine⟨len,fun A outer s H args us vs Q E hr e0 hb r hsp=>?_⟩
 have hl:=len _ _ _ _ hsp
 have KX:K.In s.heap:=e0.mod.kin.keeps fun b o e=>(e0.bs b o e).1
 have lim:s.heap.NoLimit:=e0.mod.nolimit.keeps fun b o e=>(e0.bs b o e).1
 have hkind:∀y∈ps.zip us,scope.names.lookup y.1=some .local\/(scope.names.lookup y.1=some .cell/\((cellsFrom (s.heap.objs.size+1) scope.names []).lookup y.1).isSome=true):=fun ⟨n,v⟩ hy=>by
  rcases S.par n (List.of_mem_zip hy).1 with q | q
  ·exact .inl q
  ·exact .inr ⟨q,PySem.W.cellsFrom_some _ _ _ (.inl q)⟩
 refine codeAny_call_function hr.depth (KX _ _ lk) rfl S.co S.gen rfl (PySem.W.codeRec_of KX hcd) (hb _ _ _ _ ?_)
 refine wpAny_newFunctionEnv_cells S.kind hkind fun env he s1 x=>?_
 subst he
 refine⟨lim.keeps x.toInCall.keep,codeAny_func ?_⟩
 obtain⟨t,ht,hq⟩:=hbody A outer s H vs Q E (hr.deeper _) hsp
 have I:Inv (cxOf CX P w K mg base N qual scope f cdv A outer s H E) [] (start N vs) H s1:=inv_start S hr.hd e0 hl r x
 refine wpAny_mono (ht [] s1 (start N vs) H _ I hq) (fun fl s' hs=>?_) fun e s' hs=>hs
 have fin:∀{σ':St} {H':Hp} {v:V} {u:Value},Inv (cxOf CX P w K mg base N qual scope f cdv A outer s H E) [] σ' H' s'->RelV v u->Q v H'->CE outer P w H s Q u s':=
  fun {σ' H' v u} J rv q=>⟨v,H',J.os,J.bare,J.base,J.hok,rv,q⟩
 cases fl with
 |ret u=>
  obtain⟨v,σ',H',J,rv,q⟩:=hs
  exact fin J rv q
 |next=>
  obtain⟨σ',H',J,q⟩:=hs
  exact fin (v:=V.non) (u:=Value.none) J rfl q
 |brk=>
  obtain⟨_,_,_,q⟩:=hs
  exact False.elim q
 |cont=>
  obtain⟨_,_,_,q⟩:=hs
  exact False.elim q
end L2
namespace L2
open PySem PySem.Spec PyProof.Rows
section
variable{X:Cx}{x:Str}{p pos:Pos}{e:Expr}{es:List Expr}{t:TA}{id T:String}{r:List V->Hp->VK->Prop}
def tCB(r:List V->Hp->VK->Prop)(t:TA):TE:=fun σ H Q=>t σ H fun vs H1=>r vs H1 Q
theorem pc12(hc:CallR X (.builtin id) r)(hg:Gl X x)(hm:X.mg x=none)(hv:bootBuiltins x=some (.builtin id))(ha:PA X (e::es) t)(hn:x≠"__name__":=by decide)(hdb:(x==("__debug__":Str))=false:=by decide)
  (he:starEach (e::es) X.env=(false,eval e X.env)::starEach es X.env:=by rfl) (hpl:(backTo pos (starEach es X.env)).any (·.1)=false:=by rfl):PE X (.Call (.Name x p) (e::es) [] pos) (tCB r t):=by
 intro pins s σ H Q I h
 refine wpAny_Call_Name_kw (ld_blt I hg hm hv ?_ hn hdb)
 exact PyProof.Rows.callWith_builtin1 (thn (ha pos pins s σ H _ I h) fun us s1 ⟨vs,H1,I1,r1,q1⟩=>hc pins s1 σ H1 vs us Q I1 r1 q1) he hpl
theorem pc16(hc:CallR X (.type T) r)(hg:Gl X x)(hm:X.mg x=none)(hv:bootBuiltins x=some (.type T))(ha:PA X (e::es) t)(hn:x≠"__name__":=by decide)(hdb:(x==("__debug__":Str))=false:=by decide)
  (he:starEach (e::es) X.env=(false,eval e X.env)::starEach es X.env:=by rfl) (hpl:(backTo pos (starEach es X.env)).any (·.1)=false:=by rfl):PE X (.Call (.Name x p) (e::es) [] pos) (tCB r t):=by
 intro pins s σ H Q I h
 refine wpAny_Call_Name_kw (ld_blt I hg hm hv ?_ hn hdb)
 exact PyProof.Rows.callWith_type1 (thn (ha pos pins s σ H _ I h) fun us s1 ⟨vs,H1,I1,r1,q1⟩=>hc pins s1 σ H1 vs us Q I1 r1 q1) he hpl
end
end L2
namespace HT
open PySem PyProof.Rows
section
open PySem.SeqAt
open PySem.AutoSeq1 (wpAny_loadPart')
open PySem.MeetsSeq PySem.MeetsSeq2 PySem.MeetsSeq3
end
section
variable{prog:Program}{w:World}{A:Around}{E:Value->Shared->Prop}{s:Shared}
def sIx(n d:Nat):Option Int->Nat
 |none=>d
 |some v=>if v<0 then (v+(n:Int)).toNat else min v.toNat n
theorem sIx_nat(n d k:Nat):sIx n d (some (k:Int))=min k n:=by
 show (if (k:Int)<0 then ((k:Int)+(n:Int)).toNat else min (k:Int).toNat n)=min k n
 rw[if_neg (by omega),Int.toNat_natCast]
end
end HT
namespace L2
open PySem PySem.Spec PyProof.Rows
abbrev TO:=St->Hp->(Option Int->Hp->Prop)->Prop
def PO(X:Cx)(e:Option Expr)(t:TO):Prop:=
 ∀(pins:List (Addr×Obj)) (s:Shared) (σ:St) (H:Hp) (Q:Option Int->Hp->Prop),Inv X pins σ H s->t σ H Q ->
  wpAny (model X.prog X.w) X.A (evalPart e X.env) (fun u s'=>∃o H',Inv X pins σ H' s'/\IsPart u o/\Q o H') X.xe s
def tPart(t:TE):TO:=fun σ H Q=>t σ H fun x H1=>∃i,x=.int i/\Q (some i) H1
section
variable{X:Cx}{e:Expr}{te:TE}{lo hi:Option Expr}{tl th:TO}{pos p2:Pos}
theorem po_some(h:PE X e te):PO X (some e) (tPart te):=by
 intro pins s σ H Q I hw
 rw[evalPart_some]
 refine thn (h pins s σ H _ I hw) fun u s1 ⟨x,H1,I1,r1,q1⟩=>?_
 obtain⟨i,rfl,q⟩:=q1
 obtain⟨t,rfl⟩:=r1
 exact⟨some i,H1,I1,.int i t,q⟩
def SlR(X:Cx)(r:V->Option Int->Option Int->Hp->VK->Prop):Prop:=
 ∀(pins:List (Addr×Obj)) (s:Shared) (σ:St) (H:Hp) (x:V) (v vl vu:Value) (lo hi:Option Int) (sl:Addr) (Q:VK),Inv X pins σ H s->RelV x v->s.heap.IsSliceOf sl vl vu .none->IsPart vl lo->IsPart vu hi->r x lo hi H Q ->
  ∃T id,typeLookup (.type T) "__getitem__" = pure (some (.builtin id))/\s.TypeIs v T/\wpAny (model X.prog X.w) X.A (getItem v (.ref sl)) (EP X pins σ Q) X.xe s
def tSl(r:V->Option Int->Option Int->Hp->VK->Prop)(te:TE)(tl th:TO):TE:=fun σ H Q=>te σ H fun x H1=>tl σ H1 fun l H2=>th σ H2 fun u H3=>r x l u H3 Q
theorem pe_slice{r:V->Option Int->Option Int->Hp->VK->Prop}(hr:SlR X r)(he:PE X e te)(hl:PO X lo tl)(hu:PO X hi th):PE X (.Subscript e (.Slice lo hi none p2) pos) (tSl r te tl th):=by
 intro pins s σ H Q I h
 refine Subscript_ (thn (he pins s σ H _ I h) fun v s1 ⟨x,H1,I1,r1,q1⟩=>?_)
 refine wpAny_Slice (thn (hl pins s1 σ H1 _ I1 q1) fun vl s2 ⟨l,H2,I2,pl,q2⟩=>thn (hu pins s2 σ H2 _ I2 q2) fun vu s3 ⟨u,H3,I3,pu,q3⟩=>?_)
 rw[evalPart_none]
 refine wpAny_pure ?_
 have I4:Inv X pins σ H3 { s3 with heap:=s3.heap.push { cls:=.type "slice",data:=.fields #[vl,vu,.none] } }:=I3.kept (t':=s3.toks) fun b ob q=>Heap.get?_push_of_some _ q
 obtain⟨T,id,hT,ht,hg⟩:=hr pins { s3 with heap:=s3.heap.push { cls:=.type "slice",data:=.fields #[vl,vu,.none] } } σ H3 x v vl vu l u s3.heap.objs.size Q I4 r1 (Heap.IsSliceOf.new ..) pl pu q3
 show wpAny (model X.prog X.w) X.A (subscriptTail e (.Slice lo hi none p2) v (.ref s3.heap.objs.size)) (EP X pins σ Q) X.xe { s3 with heap:=s3.heap.push { cls:=.type "slice",data:=.fields #[vl,vu,.none] } }
 exact tail_any (ops:=[.ref s3.heap.objs.size,v]) ht hT hg (by with_unfolding_all rfl)
def cutV(xs:List V)(lo hi:Option Int):List V:=(xs.drop (HT.sIx xs.length 0 lo)).take (HT.sIx xs.length xs.length hi-HT.sIx xs.length 0 lo)
theorem cutV_length(xs:List V)(lo hi:Option Int):(cutV xs lo hi).length<=xs.length:=by
 unfold cutV
 rw[List.length_take,List.length_drop]
 omega
end
end L2
namespace L2
open PySem PySem.Spec PyProof.Rows
def ixN(n:Nat)(i:Int):Option Nat:=if 0<=i then (if i<n then some i.toNat else none) else if -(n:Int)<=i then some (i+n).toNat else none
def atI{α:Type}(xs:List α)(i:Int):Option α:=(ixN xs.length i).bind fun j=>xs[j]?
theorem ixN_seq{n:Nat}{i:Int}{j:Nat}(h:ixN n i=some j):seqIndex? i n=some j/\j<n/\-(n:Int)<=i/\i<n:=by
 unfold ixN at h
 by_cases h0:0<=i
 ·rw[if_pos h0] at h
  by_cases h1:i<n
  ·rw[if_pos h1] at h
   have e:i.toNat=j:=Option.some.inj h
   exact⟨by rw[seqIndex_of h0 h1,e],by omega,by omega,h1⟩
  ·rw[if_neg h1] at h;cases h
 ·rw[if_neg h0] at h
  by_cases h1:-(n:Int)<=i
  ·rw[if_pos h1] at h
   have e:(i+n).toNat=j:=Option.some.inj h
   exact⟨by rw[seqIndex_neg (by omega) h1,e],by omega,h1,by omega⟩
  ·rw[if_neg h1] at h;cases h
theorem atI_get{α:Type}{xs:List α}{i:Int}{v:α}(h:atI xs i=some v):∃j,seqIndex? i xs.length=some j/\xs[j]? = some v/\j<xs.length/\-(xs.length:Int)<=i/\i<xs.length:=by
 unfold atI at h
 cases e:ixN xs.length i with
 |none=>rw[e] at h;cases h
 |some j=>
  rw[e] at h
  obtain⟨h1,h2,h3,h4⟩:=ixN_seq e
  exact⟨j,h1,h,h2,h3,h4⟩
theorem an10{α:Type}{xs:List α}{j:Nat}{v:α}(h:xs[j]? = some v):atI xs (j:Int)=some v:=by
 have hj:j<xs.length:=(List.getElem?_eq_some_iff.mp h).1
 have e:ixN xs.length (j:Int)=some j:=by
  unfold ixN
  rw[if_pos (by omega),if_pos (by omega)];simp
 unfold atI;rw[e];exact h
def PlainIx(b:Expr):Prop:=∀o i,subscripted b false o i=operate [o,i] (getItem o i)
def IxR(X:Cx)(r:R2):Prop:=
 ∀(value slice:Expr) (pins:List (Addr×Obj)) (s:Shared) (σ:St) (H:Hp) (x y:V) (v u:Value) (Q:VK),Inv X pins σ H s->RelV x v->RelV y u->r x y H Q ->
  subscripted slice false v u=operate [v,u] (getItem v u)->wpAny (model X.prog X.w) X.A (subscriptTail value slice v u) (EP X pins σ Q) X.xe s
def MtR(X:Cx)(id:String)(r:V->List V->Hp->VK->Prop):Prop:=
 ∀(pins:List (Addr×Obj)) (s:Shared) (σ:St) (H:Hp) (x:V) (xs:List V) (v:Value) (us:List Value) (Q:VK),Inv X pins σ H s->RelV x v->Vals xs us->r x xs H Q ->
  wpAny (model X.prog X.w) X.A (call (.builtin id) (v::us)) (EP X pins σ Q) X.xe s
section
variable{X:Cx}{a b:Expr}{ta tb:TE}{pos:Pos}
theorem pi10{r:R2}(hr:IxR X r)(ha:PE X a ta)(hb:PE X b tb)(hs:PlainIx b):PE X (.Subscript a b pos) (tOp r ta tb):=by
 intro pins s σ H Q I h
 exact Subscript_ (binT ha hb I h fun v u s2 x y H2 I2 rx ry q=>hr a b pins s2 σ H2 x y v u Q I2 rx ry q (hs _ _))
def rIxL(K:PySem.W.Frag):R2:=fun x y H Q=>∃p xs i v,x=.ref p/\y=.int i/\SqL K H p xs/\atI xs i=some v/\Q v H
def rIxT(K:PySem.W.Frag):R2:=fun x y H Q=>∃p xs i v,x=.ref p/\y=.int i/\SqT K H p xs/\atI xs i=some v/\Q v H
theorem ix_list:IxR X (rIxL X.K):=by
 intro value slice pins s σ H x y v u Q I rx ry h hs
 obtain⟨p,xs,i,z,rfl,rfl,hq,he,q⟩:=h
 cases rx
 obtain⟨t,rfl⟩:=ry
 obtain⟨its,r,pl,hz⟩:=I.list hq
 obtain⟨j,h1,h2,h3,h4,h5⟩:=atI_get he
 obtain⟨w,ew,rw'⟩:=r.get h2
 have hl:=r.length
 have hn:=line63
 have fin:EP X pins σ Q w s:=⟨z,H,I,rw',q⟩
 by_cases h0:0<=i
 ·have hj:i.toNat=j:=by
   rw[seqIndex_of h0 h5] at h1
   exact Option.some.inj h1
  exact item_listR pl.isList h0 (by omega) (by rw[hj];simpa using ew) fin hs
 ·have hj:(i+(its.toArray.size:Int)).toNat=j:=by
   rw[seqIndex_neg (by omega) h4] at h1
   rw[List.size_toArray,<-hl]
   exact Option.some.inj h1
  exact subscriptTail_builtinR (x:=w) pl.isList.typeIs slot_list_getitem.lookup
   (wpAny_getItem_list_neg (Q:=fun r s'=>r=w/\EP X pins σ Q r s') pl.isList (by omega) (by rw[List.size_toArray]<;>omega) (by omega) (by rw[hj];simpa using ew) ⟨rfl,fin⟩) hs
theorem ix_tup:IxR X (rIxT X.K):=by
 intro value slice pins s σ H x y v u Q I rx ry h hs
 obtain⟨p,xs,i,z,rfl,rfl,hq,he,q⟩:=h
 cases rx
 obtain⟨t,rfl⟩:=ry
 obtain⟨its,r,pl,hz⟩:=I.tuple hq
 obtain⟨j,h1,h2,h3,h4,h5⟩:=atI_get he
 obtain⟨w,ew,rw'⟩:=r.get h2
 have hl:=r.length
 have hn:=line63
 have fin:EP X pins σ Q w s:=⟨z,H,I,rw',q⟩
 exact subscriptTail_builtinR (x:=w) pl.typeIs slot_tuple_getitem.lookup
  (getItem_tuple (j:=j) (Q:=fun r s'=>r=w/\EP X pins σ Q r s') pl (by omega) (by omega) (by rw[List.size_toArray,<-hl];exact h1) (by simpa using ew) ⟨rfl,fin⟩) hs
theorem mapSeq_set(its:List Value)(n j:Nat)(u:Value):Obj.mapSeq (·.setIfInBounds j u) { cls:=.type "list",data:=.seq its.toArray n } = { cls:=.type "list",data:=.seq (its.set j u).toArray n }:=by
 simp[Obj.mapSeq]
theorem Inv.lst{pins:List (Addr×Obj)}{σ:St}{H:Hp}{s:Shared}{p:Addr}{xs:List V}(I:Inv X pins σ H s)(h:H p=some (.lst xs)) :
  ∃(its:List Value) (n:Nat),Vals xs its/\s.heap.get? p=some { cls:=.type "list",data:=.seq its.toArray n }/\xs.length<=sizeLine:=by
 obtain⟨z,its,n,r,e⟩:=I.hok p _ h
 exact⟨its,n,r,e,z⟩
theorem Inv.lstUpd{pins:List (Addr×Obj)}{σ:St}{H:Hp}{s:Shared}{p:Addr}{xs ys:List V}{its its':List Value}{n n':Nat}{f:Obj->Obj}(I:Inv X pins σ H s)(h:H p=some (.lst xs))
  (ho:s.heap.get? p=some { cls:=.type "list",data:=.seq its.toArray n }) (hf:f { cls:=.type "list",data:=.seq its.toArray n } = { cls:=.type "list",data:=.seq its'.toArray n' }) (r:Vals ys its') (hz:ys.length<=sizeLine) (t:Nat) :
  Inv X pins σ (upd H p (.lst ys)) { s with heap:=s.heap.update p f,toks:=t }:=by
 have e:(s.heap.update p f).get? p=some { cls:=.type "list",data:=.seq its'.toArray n' }:=by
  rw[Heap.get?_update_self f ho (by rw[hf]<;>rfl),hf]
 refine I.write (x:=p) (e:=p) (by rw[h];trivial) (.inl rfl) (fun b u hb q=>(Heap.get?_update_other _ _ (Ne.symm hb)).trans q) ⟨_,e⟩ ?_
 exact⟨hz,its',n',r,e⟩
def rSetL:V->V->V->Hp->(Hp->Prop)->Prop:=fun o i v H Q=>∃p xs k j,o=.ref p/\i=.int k/\H p=some (.lst xs)/\ixN xs.length k=some j/\Q (upd H p (.lst (xs.set j v)))
theorem sl11:PSet X rSetL:=by
 intro pins s σ H o i v ov iv u Q I ro ri rv h
 obtain⟨p,xs,k,j,rfl,rfl,hp,hj,q⟩:=h
 cases ro
 obtain⟨t,rfl⟩:=ri
 obtain⟨its,n,r,ho,hz⟩:=I.lst hp
 obtain⟨h1,h2,h3,h4⟩:=ixN_seq hj
 have hl:=r.length
 have hn:=line63
 have I':Inv X pins σ (upd H p (.lst (xs.set j v))) { s with heap:=s.heap.update p (Obj.mapSeq (·.setIfInBounds j u)) }:=
  I.lstUpd hp ho (mapSeq_set its n j u) (r.set rv j) (by rw[List.length_set];exact hz) s.toks
 by_cases h0:0<=k
 ·have hk:k.toNat=j:=by
   rw[seqIndex_of h0 h4] at h1
   exact Option.some.inj h1
  exact PySem.W.ki_setAt ho h0 (by omega) (by rw[List.size_toArray,<-hl];exact h4) (by rw[hk];exact⟨_,I',q⟩)
 ·have hk:(k+(its.toArray.size:Int)).toNat=j:=by
   rw[seqIndex_neg (by omega) h3] at h1
   rw[List.size_toArray,<-hl]
   exact Option.some.inj h1
  exact PySem.W.ki_setBack ho (by omega) (by rw[List.size_toArray,<-hl];exact h3) (by omega) (by rw[hk];exact⟨_,I',q⟩)
theorem slice_bounds(lo hi:Option Int)(n:Nat):(sliceBounds lo hi none n).1=((HT.sIx n 0 lo:Nat):Int)/\(sliceBounds lo hi none n).2.1=((HT.sIx n n hi:Nat):Int)/\(sliceBounds lo hi none n).2.2=1:=by
 refine⟨?_,?_,rfl⟩
 ·cases lo with
  |none=>simp[sliceBounds,HT.sIx]
  |some i=>
   simp only[sliceBounds,HT.sIx,Option.getD_none,show (1:Int)>0 by decide,if_true]
   by_cases h:i<0
   ·simp only[h,if_true]<;>omega
   ·simp only[h,if_false]<;>omega
 ·cases hi with
  |none=>simp[sliceBounds,HT.sIx]
  |some i=>
   simp only[sliceBounds,HT.sIx,Option.getD_none,show (1:Int)>0 by decide,if_true]
   by_cases h:i<0
   ·simp only[h,if_true]<;>omega
   ·simp only[h,if_false]<;>omega
theorem slicePick_cut(its:List Value)(lo hi:Option Int):slicePick its.toArray lo hi none=((its.drop (HT.sIx its.length 0 lo)).take (HT.sIx its.length its.length hi-HT.sIx its.length 0 lo)).toArray:=by
 obtain⟨h1,h2,h3⟩:=slice_bounds lo hi its.toArray.size
 unfold slicePick
 rw[h1,h2,h3]
 simp only[sliceRange_one,pick_run,List.size_toArray]<;>rfl
def rSlL(K:PySem.W.Frag):V->Option Int->Option Int->Hp->VK->Prop:=fun x lo hi H Q=>∃a xs,x=.ref a/\SqL K H a xs/\∀p,H p=none->Q (.ref p) (upd H p (.lst (cutV xs lo hi)))
theorem sl_list:SlR X (rSlL X.K):=by
 intro pins s σ H x v vl vu lo hi sl Q I rx hs pl pu h
 obtain⟨a,xs,rfl,hx,q⟩:=h
 cases rx
 obtain⟨its,r,ht,hz⟩:=I.list hx
 have hlen:=r.length
 refine⟨"list",_,slot_list_getitem.lookup,ht.isList.typeIs,?_⟩
 refine wpAny_getItem_list_slice ht.isList hs pl pu .none (by simp) ?_ (by rw[List.size_toArray]<;>omega)
 rw[slicePick_cut,<-hlen]
 refine⟨.ref s.heap.objs.size,_,I.laid (t':=s.toks) (o:=.lst (cutV xs lo hi)) (fun b ob q=>Heap.get?_push_of_some _ q) (Nat.le_refl _) ?_,rfl,q _ (I.hok.fresh (Nat.le_refl _))⟩
 exact⟨Nat.le_trans (cutV_length xs lo hi) hz,_,0,(r.drop (HT.sIx xs.length 0 lo)).take (HT.sIx xs.length xs.length hi-HT.sIx xs.length 0 lo),Heap.get?_push_size _ rfl⟩
theorem cls10:CallR X (.builtin "len") (fun xs H Q=>∃p ys,xs=[.ref p]/\(SqL X.K H p ys\/SqT X.K H p ys)/\Q (.int ys.length) H):=by
 intro pins s σ H xs us Q I r h
 obtain⟨p,ys,rfl,hq,q⟩:=h
 obtain⟨u,rfl,rx⟩:=vals1 r
 cases rx
 have hn:=line63
 rcases hq with hq | hq
 ·obtain⟨its,r',pl,hz⟩:=I.list hq
  have hlen:=r'.length
  exact Calls.call_len_list pl.isList (by simp only[List.size_toArray]<;>omega) ⟨.int ys.length,H,I.tok _,⟨s.toks+1,by rw[List.size_toArray,hlen]⟩,q⟩
 ·obtain⟨its,r',pl,hz⟩:=I.tuple hq
  have hlen:=r'.length
  exact len_tuple pl (by simp only[List.size_toArray]<;>omega) ⟨.int ys.length,H,I.tok _,⟨s.toks+1,by rw[List.size_toArray,hlen]⟩,q⟩
theorem clo:CallR X (.type "list") (fun xs H Q=>∃p ys,xs=[.ref p]/\(SqL X.K H p ys\/SqT X.K H p ys)/\∀l,H l=none->Q (.ref l) (upd H l (.lst ys))):=by
 intro pins s σ H xs us Q I r h
 obtain⟨p,ys,rfl,hq,q⟩:=h
 obtain⟨u,rfl,rx⟩:=vals1 r
 cases rx
 have fin:∀(its:List Value),Vals ys its->ys.length<=sizeLine->∀(h':Heap) (c':Nat),(∀b o',s.heap.get? b=some o'->h'.get? b=some o') ->
   h'.get? s.heap.objs.size=some { cls:=.type "list",dict:=none,data:=.seq its.toArray c',slots:=#[] }->EP X pins σ Q (.ref s.heap.objs.size) { s with heap:=h' }:=fun its r' hz h' c' kp e=>
  ⟨.ref s.heap.objs.size,_,I.laid (t':=s.toks) kp (Nat.le_refl _) (show ObjOk X.prog X.w _ h' _ (.lst ys) from ⟨hz,its,c',r',e⟩),rfl,q _ (I.hok.fresh (Nat.le_refl _))⟩
 rcases hq with hq | hq
 ·obtain⟨its,r',pl,hz⟩:=I.list hq
  have hlen:=r'.length
  obtain⟨o,ho,hc,n,hd⟩:=pl.isList
  exact call_list_seq p (.inl rfl) ho hc hd (fun h' c' kp e=>fin its r' hz h' c' kp e) (by simp only[List.size_toArray]<;>omega)
 ·obtain⟨its,r',pl,hz⟩:=I.tuple hq
  have hlen:=r'.length
  obtain⟨o,ho,hc,n,hd⟩:=pl
  exact call_list_seq p (.inr rfl) ho hc hd (fun h' c' kp e=>fin its r' hz h' c' kp e) (by simp only[List.size_toArray]<;>omega)
theorem cto:CallR X (.type "tuple") (fun xs H Q=>∃p ys,xs=[.ref p]/\((SqL X.K H p ys/\∀l,H l=none->Q (.ref l) (upd H l (.tup ys)))\/(SqT X.K H p ys/\Q (.ref p) H))):=by
 intro pins s σ H xs us Q I r h
 obtain⟨p,ys,rfl,h⟩:=h
 obtain⟨u,rfl,rx⟩:=vals1 r
 cases rx
 rcases h with ⟨hq,q⟩ | ⟨hq,q⟩
 ·obtain⟨its,r',pl,hz⟩:=I.list hq
  have hlen:=r'.length
  refine call_tuple_list pl.isList (fun h' kp=>?_) (by simp only[List.size_toArray]<;>omega)
  have I1:Inv X pins σ H { s with heap:=h' }:=I.kept (t':=s.toks) kp
  have I2:Inv X pins σ (upd H h'.objs.size (.tup ys)) { s with heap:=h'.push { cls:=.type "tuple",data:=.seq its.toArray } }:=
   I1.laid (t':=s.toks) (fun b o e=>Heap.get?_push_of_some _ e) (Nat.le_refl _) (show ObjOk X.prog X.w _ _ _ (.tup ys) from ⟨hz,its,r',IsTup.new _ _⟩)
  exact⟨.ref h'.objs.size,_,I2,rfl,q _ (I1.hok.fresh (Nat.le_refl _))⟩
 ·obtain⟨its,r',pl,hz⟩:=I.tuple hq
  exact call_tuple_same pl ⟨.ref p,H,I,rfl,q⟩
def tyV(K:PySem.W.Frag)(T:String)(x:V)(H:Hp):Prop:=match x with
 |.str _=>T = "str"
 |.int _=>T = "int"
 |.ref p=>(T = "list"/\∃xs,SqL K H p xs)\/(T = "tuple"/\∃o,K.lookup p=some o/\o.cls=.type "tuple"/\o.dict=none) \/
   (T = "dict"/\((∃kvs,H p=some (.dK kvs))\/∃kvs,H p=some (.dT kvs)))\/(T = "set"/\∃S n,H p=some (.set S n))
 |_=>False
theorem tyV_is{pins:List (Addr×Obj)}{σ:St}{H:Hp}{s:Shared}{T:String}{x:V}{v:Value}(I:Inv X pins σ H s)(r:RelV x v)(ty:tyV X.K T x H) :
  s.TypeIs v T/\∀a,v=.ref a->∃ob,s.heap.get? a=some ob/\ob.dict=none:=by
 cases x with
 |str z=>
  obtain⟨t,rfl⟩:=r
  cases (show T = "str" from ty)
  exact⟨typeIs_str s z t,fun _ e=>nomatch e⟩
 |int i=>
  obtain⟨t,rfl⟩:=r
  cases (show T = "int" from ty)
  exact⟨typeIs_int s i t,fun _ e=>nomatch e⟩
 |ref p=>
  cases r
  rcases ty with ⟨rfl,xs,hq⟩ | ⟨rfl,o,hk,hc,hd⟩ | ⟨rfl,hk⟩ | ⟨rfl,S,n,hk⟩
  ·obtain⟨its,_,pl,_⟩:=I.list hq
   refine⟨pl.isList.typeIs,fun a e=>?_⟩
   cases e
   obtain⟨o,n,e,c,hd,_⟩:=pl
   exact⟨o,e,hd⟩
  ·refine⟨⟨o,I.kIn p o hk,hc⟩,fun a e=>?_⟩
   cases e
   exact⟨o,I.kIn _ o hk,hd⟩
  ·have z:∃o,s.heap.get? p=some o/\o.ExactDict:=by
    rcases hk with ⟨kvs,hk⟩ | ⟨kvs,hk⟩
    ·obtain⟨_,_,_,_,o,_,_,e,ex,_⟩:=I.hok p _ hk
     exact⟨o,e,ex⟩
    ·obtain⟨_,_,_,_,o,_,_,e,ex,_⟩:=I.hok p _ hk
     exact⟨o,e,ex⟩
   obtain⟨o,e,ex⟩:=z
   refine⟨⟨o,e,ex.1⟩,fun a e2=>?_⟩
   cases e2
   exact⟨o,e,ex.2.1⟩
  ·obtain⟨o,_,_,_,e,ex,_⟩:=I.hok p _ hk
   refine⟨⟨o,e,ex.1⟩,fun a e2=>?_⟩
   cases e2
   exact⟨o,e,ex.2.1⟩
 |_=>exact False.elim ty
def tBM(K:PySem.W.Frag)(T:String)(r:V->List V->Hp->VK->Prop)(to:TE)(t:TA):TE:=fun σ H Q=>to σ H fun x H1=>tyV K T x H1/\t σ H1 fun xs H2=>r x xs H2 Q
variable{o e:Expr}{es:List Expr}{to:TE}{t:TA}{name:Str}{apos cpos:Pos}{T id:String}{r:V->List V->Hp->VK->Prop}
theorem pb(pa:PlainAttrs T)(slot:Slot T name id)(hty:typeOf (.builtin id)=pure (.type "method_descriptor"))(hm:MtR X id r)(ho:PE X o to)(ha:PA X (e::es) t)
  (hbase:attributeBase o name X.env (eval o X.env)=eval o X.env:=by rfl)
  (hfew:((backTo cpos (starEach (e::es) X.env)).all (fun x=>!x.1)&&(backToKw cpos (keywordEach [] X.env)).all (fun x=>x.1.isSome)
   && decide ((e::es).length+([]:List Keyword).length+(if ([]:List Keyword).isEmpty then 0 else 1)<30))=true:=by rfl)
  (hline:(apos.endLine==cpos.line)=true:=by rfl) (hs:starEach (e::es) X.env=(false,eval e X.env)::starEach es X.env:=by rfl) (hplain:(backTo cpos (starEach es X.env)).any (·.1)=false:=by rfl) :
  PE X (.Call (.Attribute o name apos) (e::es) [] cpos) (tBM X.K T r to t):=by
 intro pins s σ H Q I h
 refine wpAny_Call_method_late hbase hfew hline rfl (thn (ho pins s σ H _ I h) fun v s1 ⟨x,H1,I1,r1,ty,q1⟩=>?_)
 obtain⟨h1,h2⟩:=tyV_is I1 r1 ty
 refine⟨T,id,pa,slot,hty,h1,h2,?_⟩
 have hA:=ha cpos pins s1 σ H1 _ I1 q1
 rw[hs] at hA ⊢
 refine Calls.callWith_builtin (by show (false||(backTo cpos (starEach es X.env)).any (·.1))=false;rw[hplain]<;>rfl) (Calls.evalArgs_plain ?_)
 exact thn hA fun us s2 ⟨vs,H2,I2,r2,q2⟩=>hm pins s2 σ H2 x vs v us Q I2 r1 r2 q2
end
end L2
namespace L2
open PySem PySem.Spec PyProof.Rows
def MtM(X:Cx)(id:String)(r:V->List V->Hp->VK->Prop):Prop:=
 ∀(pins:List (Addr×Obj)) (s:Shared) (σ:St) (H:Hp) (x:V) (xs:List V) (v:Value) (us:List Value) (Q:VK),Inv X pins σ H s->RelV x v->Vals xs us->r x xs H Q ->
  wpAny (model X.prog X.w) X.A (call (.builtin id) (v::us)) (EP X pins σ Q) X.xe s
theorem Vals.one:∀{x:V}{us:List Value},Vals [x] us->∃u,us=[u]/\RelV x u
 |_,_,.cons r .nil=>⟨_,rfl,r⟩
theorem Vals.reverse{xs:List V}{us:List Value}(h:Vals xs us):Vals xs.reverse us.reverse:=by
 induction h with
 |nil=>exact .nil
 |cons r t ih=>rw[List.reverse_cons,List.reverse_cons];exact Vals.append ih (.cons r .nil)
theorem Vals.rep{xs:List V}{us:List Value}(h:Vals xs us):∀k:Nat,Vals (List.replicate k xs).flatten (List.replicate k us).flatten
 |0=>.nil
 |k+1=>by
  rw[List.replicate_succ,List.replicate_succ,List.flatten_cons,List.flatten_cons]
  exact Vals.append h (Vals.rep h k)
theorem foldl_rep(its:List Value):∀(k:Nat) (acc:List Value),
  List.foldl (fun x1 x2=>x1++x2) acc.toArray (List.replicate k its.toArray)=(acc++(List.replicate k its).flatten).toArray
 |0,acc=>by simp
 |k+1,acc=>by
  have e:acc.toArray++its.toArray=(acc++its).toArray:=by simp
  have e2:(acc++its)++(List.replicate k its).flatten=acc++(List.replicate (k+1) its).flatten:=by
   rw[List.replicate_succ,List.flatten_cons,List.append_assoc]
  rw[<-e2,<-foldl_rep its k (acc++its),<-e,List.replicate_succ,List.foldl_cons]
section
variable{X:Cx}{pins:List (Addr×Obj)}{σ:St}{H:Hp}{s:Shared}{l b:Addr}{xs ys zs:List V}
theorem Inv.lset{its its':List Value}{n:Nat}{f:Array Value->Array Value}{t':Nat}(I:Inv X pins σ H s)(hH:H l=some (.lst xs))
  (e:s.heap.get? l=some { cls:=.type "list",data:=.seq its.toArray n }) (hf:f its.toArray=its'.toArray) (hv:Vals ys its') (hz:ys.length<=sizeLine) :
  Inv X pins σ (upd H l (.lst ys)) { s with heap:=s.heap.update l (Obj.mapSeq f),toks:=t' }:=by
 have q:=PySem.IsL.update e f
 rw[hf] at q
 refine I.write (x:=l) (e:=l) (by rw[hH];exact trivial) (.inl rfl) (fun b' u hb hu=>(Heap.get?_update_other s.heap (Obj.mapSeq f) (Ne.symm hb)).trans hu) ⟨_,q⟩ ?_
 exact⟨hz,its',_,hv,q⟩
theorem Inv.lnew{its:List Value}{t':Nat}(I:Inv X pins σ H s)(hv:Vals ys its)(hz:ys.length<=sizeLine) :
  Inv X pins σ (upd H s.heap.objs.size (.lst ys)) { s with heap:=s.heap.push { cls:=.type "list",data:=.seq its.toArray },toks:=t' }:=
 I.laid (fun _ _ q=>Heap.get?_push_of_some _ q) (Nat.le_refl _) ⟨hz,its,0,hv,Heap.get?_push_size _ rfl⟩
theorem Inv.fresh(I:Inv X pins σ H s):H s.heap.objs.size=none:=I.hok.fresh (Nat.le_refl _)
theorem Inv.lstM(I:Inv X pins σ H s)(hH:H l=some (.lst xs)):xs.length<=sizeLine/\∃(its:List Value) (n:Nat),Vals xs its/\xs.length=its.length/\s.heap.get? l=some { cls:=.type "list",data:=.seq its.toArray n }:=by
 obtain⟨z,its,n,r,e⟩:=I.hok l _ hH
 exact⟨z,its,n,r,r.length,e⟩
theorem notLongL{n:Nat}(h:n<=sizeLine):Builtin.List.listTooLong n=false:=by
 unfold Builtin.List.listTooLong
 exact decide_eq_false (by omega)
end
section
variable{X:Cx}
def rAppend:V->List V->Hp->VK->Prop:=fun x vs H Q=>∃l xs y,x=.ref l/\vs=[y]/\H l=some (.lst xs)/\xs.length<sizeLine/\Q .non (upd H l (.lst (xs++[y])))
theorem ma:MtM X "list.append" rAppend:=by
 intro pins s σ H x vs v us Q I rx rv h
 obtain⟨l,xs,y,rfl,rfl,hH,hz,q⟩:=h
 cases rx
 obtain⟨u,rfl,ru⟩:=rv.one
 obtain⟨z,its,n,r,hl,e⟩:=I.lstM hH
 refine call_meets F.slot_list_append ⟨_,e,rfl⟩ F.entry_list_append (F.args_list_append_2 _ _) (PySem.list_append l its.toArray n u (by rw[List.size_toArray];omega)) ⟨e,?_⟩
 refine⟨.non,_,I.lset (its':=its++[u]) hH e (by simp) (r.append (.cons ru .nil)) ?_,rfl,q⟩
 rw[List.length_append,List.length_singleton]
 omega
def rExtend:V->List V->Hp->VK->Prop:=fun x vs H Q=>∃l b xs zs,x=.ref l/\vs=[.ref b]/\H l=some (.lst xs)/\H b=some (.lst zs)/\xs.length+zs.length<=sizeLine/\Q .non (upd H l (.lst (xs++zs)))
theorem mt_extend:MtM X "list.extend" rExtend:=by
 intro pins s σ H x vs v us Q I rx rv h
 obtain⟨l,b,xs,zs,rfl,rfl,hH,hB,hz,q⟩:=h
 cases rx
 obtain⟨u,rfl,ru⟩:=rv.one
 cases ru
 obtain⟨z,its,n,r,hl,e⟩:=I.lstM hH
 obtain⟨z2,its2,n2,r2,hl2,e2⟩:=I.lstM hB
 have hsz:its.toArray.size+its2.toArray.size<=sizeLine:=by rw[List.size_toArray,List.size_toArray];omega
 have hlong:¬(!its.toArray.isEmpty&&Builtin.List.listTooLong (its.toArray.size+its2.toArray.size))=true:=by
  rw[notLongL hsz,Bool.and_false]
  exact Bool.false_ne_true
 refine call_meets F.slot_list_extend ⟨_,e,rfl⟩ F.entry_list_extend (F.args_list_extend_2 _ _)
  (AutoSeq1.list_extend_list_list_0 l its.toArray n b its2.toArray n2 hlong (by rw[List.size_toArray];omega) (by omega)) ⟨e,e2,?_⟩
 refine⟨.non,_,I.lset (its':=its++its2) hH e (by simp) (r.append r2) ?_,rfl,q⟩
 rw[List.length_append]
 omega
def rCat:R2:=fun x y H Q=>∃l b xs zs,x=.ref l/\y=.ref b/\H l=some (.lst xs)/\H b=some (.lst zs)/\xs.length+zs.length<=sizeLine/\∀p,H p=none->Q (.ref p) (upd H p (.lst (xs++zs)))
theorem op_cat:OpR X (binaryOp .Add) rCat:=by
 intro pins s σ H x y v u Q I rx ry h
 obtain⟨l,b,xs,zs,rfl,rfl,hH,hB,hz,q⟩:=h
 cases rx
 cases ry
 obtain⟨z,its,n,r,hl,e⟩:=I.lstM hH
 obtain⟨z2,its2,n2,r2,hl2,e2⟩:=I.lstM hB
 refine PySem.P.add_list e e2 ?_ (by rw[List.size_toArray,List.size_toArray];omega)
 have ea:its.toArray++its2.toArray=(its++its2).toArray:=by simp
 rw[ea]
 exact⟨.ref _,_,I.lnew (t':=s.toks) (r.append r2) (by rw[List.length_append];omega),rfl,q _ I.fresh⟩
def rRep:R2:=fun x y H Q=>∃l k xs,x=.ref l/\y=.int k/\H l=some (.lst xs)/\-(2^63)<=k/\k<2^63/\xs.length*k.toNat<=sizeLine /\
 ∀p,H p=none->Q (.ref p) (upd H p (.lst (List.replicate k.toNat xs).flatten))
theorem len_rep{α:Type}(xs:List α)(k:Nat):(List.replicate k xs).flatten.length=k*xs.length:=by
 induction k with
 |zero=>simp
 |succ k ih=>rw[List.replicate_succ,List.flatten_cons,List.length_append,ih,Nat.succ_mul,Nat.add_comm]
theorem op_rep:OpR X (binaryOp .Mult) rRep:=by
 intro pins s σ H x y v u Q I rx ry h
 obtain⟨l,k,xs,rfl,rfl,hH,h1,h2,hz,q⟩:=h
 cases rx
 obtain⟨t,rfl⟩:=ry
 obtain⟨z,its,n,r,hl,e⟩:=I.lstM hH
 have hlen:its.toArray.size*k.toNat<=sizeLine:=by rw[List.size_toArray,<-hl];exact hz
 have hcap:¬its.toArray.size*k.toNat>(2^63-1)/8:=by
  have:(sizeLine:Nat)<=(2^63-1)/8:=by decide
  omega
 have hfit:¬(!Builtin.List.listFitsIndex k)=true:=by
  rw[fitsIndex_both h1 h2]
  exact Bool.false_ne_true
 have hlong:¬Builtin.List.listTooLong (its.toArray.size*k.toNat)=true:=by
  rw[notLongL hlen]
  exact Bool.false_ne_true
 have hnew:List.foldl (fun x1 x2=>x1++x2) #[] (List.replicate (if its.toArray.isEmpty=true then 0 else k.toNat) its.toArray)=(List.replicate k.toNat its).flatten.toArray:=by
  have f0:∀m:Nat,List.foldl (fun x1 x2=>x1++x2) #[] (List.replicate m its.toArray)=(List.replicate m its).flatten.toArray:=fun m=>by
   have:=foldl_rep its m []
   rw[List.nil_append] at this
   exact this
  rw[f0]
  cases its with
  |nil=>simp
  |cons a r'=>rw[if_neg (by simp)]
 refine wpAny_binaryOp_repeat_ref (T:="list") (U:="int") (by decide) ⟨_,e,rfl⟩ (fun s'=>typeIs_int s' k t) noFill_list_mul F.fills_int_mul F.slot_int_rmul repeat_list F.slot_int_index.lookup
  (call_meets F.slot_int_rmul (typeIs_int s k t) F.entry_int_rmul (F.args_int_rmul_2 _ _) (int___rmul___int_list k t l its.toArray n)
   ⟨e,rfl,⟨_,e,rfl⟩,call_meets F.slot_list_mul ⟨_,e,rfl⟩ F.entry_list_mul (F.args_list_mul_2 _ _) (AutoListH.list___mul___list_int_3 l its.toArray n k t hfit hcap hlong) ⟨e,?_⟩⟩)
 rw[hnew]
 exact⟨.ref _,_,I.lnew (t':=s.toks) (r.rep k.toNat) (by rw[len_rep,Nat.mul_comm];exact hz),rfl,q _ I.fresh⟩
end
section
variable{prog:Program}{w:World}{A:Around}{E:Value->Shared->Prop}{s:Shared}
set_option maxRecDepth 100000 in
end
section
variable{X:Cx}
end
end L2
namespace L2
open PySem PySem.Spec PyProof.Rows
theorem Vals.ints:∀{ns:List Int}{us:List Value},Vals (ns.map V.int) us->IntsAre us ns
 |[],us,h=>by
  rw[List.map_nil] at h
  cases h
  exact IntsAre.nil
 |n::ns,us,h=>by
  rw[List.map_cons] at h
  cases h with
  |cons r t=>
   obtain⟨k,rfl⟩:=r
   exact IntsAre.cons n k (Vals.ints t)
theorem vals_of_ints:∀{us:List Value}{ns:List Int},IntsAre us ns->Vals (ns.map V.int) us
 |_,_,.nil=>by rw[List.map_nil];exact Paired.nil
 |_,_,.cons n t h=>by rw[List.map_cons];exact Paired.cons (show RelV (V.int n) (Value.int n t) from ⟨t,rfl⟩) (vals_of_ints h)
theorem Vals.bls:∀{bs:List Bool}{us:List Value},Vals (bs.map V.bl) us->us=bs.map Value.bool
 |[],us,h=>by
  rw[List.map_nil] at h
  cases h
  rfl
 |b::bs,us,h=>by
  rw[List.map_cons] at h
  cases h with
  |cons r t=>
   cases r
   rw[Vals.bls t,List.map_cons]
theorem Vals.ref1{a:Addr}{us:List Value}(r:Vals [V.ref a] us):us=[Value.ref a]:=by
 cases r with
 |cons r t=>
  cases t
  cases r
  rfl
section
variable{prog:Program}{w:World}{A:Around}{E:Value->Shared->Prop}{s:Shared}{l:Addr}{its:List Value}{ns:List Int}{Q:Value->Shared->Prop}
theorem sum_raw(hh:A.handled=none)(hl:s.heap.IsList l its.toArray)(hi:IntsAre its ns)
  (h:∀h' tk t',(∀b o,s.heap.get? b=some o->h'.get? b=some o)->Q (.int ns.sum t') { s with heap:=h',toks:=tk }):wpAny (model prog w) A (call (.builtin "sum") [.ref l]) Q E s:=by
 obtain⟨xs,e⟩:=hi.allInts.items
 have hn:numsOf (intItems xs).toList=ns:=by rw[<-e];exact hi.numsOf
 rw[nums_intItems] at hn
 rw[e] at hl
 refine PySem.sum_intListG hh hl fun h' tk t' hk=>?_
 have:=h h' tk t' hk
 rw[preSum_eq,List.take_of_length_le (by simp),hn];exact this
end
section
variable{X:Cx}
def rSum(K:PySem.W.Frag):List V->Hp->VK->Prop:=fun vs H Q=>∃(a:Addr) (ns:List Int),vs=[V.ref a]/\SqL K H a (ns.map V.int)/\Q (.int ns.sum) H
theorem cr_sum(hc:X.calm=true):CallR X (.builtin "sum") (rSum X.K):=by
 intro pins s σ H vs us Q I r h
 obtain⟨a,ns,rfl,hs,q⟩:=h
 obtain⟨its,rv,hl,_⟩:=I.list hs
 rw[Vals.ref1 r]
 exact sum_raw (I.ok.hd hc) hl.isList rv.ints fun h' tk t' hk=>⟨.int _,H,I.kept hk,⟨_,rfl⟩,q⟩
end
section
variable{X:Cx}
end
section
variable{X:Cx}
end
theorem iter_any{prog:Program}{w:World}{A:Around}{E:Value->Shared->Prop}{s:Shared}{l:Addr}{items:Array Value}{Q:Value->Shared->Prop}(hl:s.heap.IsList l items)
  (h:∀s₂:Shared,s₂ = { s with heap:=s.heap.push { cls:=.type "list_iterator",data:=.fields #[.ref l,.int 0 0] } } ->
   (s₂.heap.IsListIter s.heap.objs.size l 0/\s₂.heap.IsList l items)->l≠s.heap.objs.size->Q (.ref s.heap.objs.size) s₂):wpAny (model prog w) A (pyIter (.ref l)) Q E s:=by
 have hlt:l<s.heap.objs.size:=by obtain⟨_,e,_⟩:=hl;exact Heap.lt_size e
 exact wpAny_pyIter_list hl (h _ rfl ⟨⟨_,Heap.get?_push_size _ rfl,rfl,rfl⟩,hl.push _⟩ (Nat.ne_of_lt hlt))
theorem truth_bools{prog:Program}{w:World}{A:Around}{bs:List Bool}{its:List Value}(e:its=bs.map Value.bool) :
  TruthOf prog w A (fun i v=>its.toArray[i]? = some v) (fun i=>bs.getD i false):=fun i v s Q E hv hq=>by
 have hv':its[i]? = some v:=by simpa using hv
 rw[e,List.getElem?_map] at hv'
 obtain⟨b,hb,rfl⟩:=Option.map_eq_some_iff.mp hv'
 have hg:bs.getD i false=b:=by rw[List.getD_eq_getElem?_getD,hb]<;>rfl
 have hq':Q (bs.getD i false) s:=hq
 rw[hg] at hq'
 exact wpAny_truthy_bool hq'
theorem any_range:∀bs:List Bool,(List.range bs.length).any (fun i=>bs.getD i false)=bs.any id
 |[]=>rfl
 |b::bs=>by
  rw[List.length_cons,List.range_succ_eq_map,List.any_cons,List.any_map,List.any_cons,<-any_range bs]
  all_goals rfl
theorem ar:∀bs:List Bool,(List.range bs.length).all (fun i=>bs.getD i false)=bs.all id
 |[]=>rfl
 |b::bs=>by
  rw[List.length_cons,List.range_succ_eq_map,List.all_cons,List.all_map,List.all_cons,<-ar bs]
  all_goals rfl
section
variable{X:Cx}
def rAll(K:PySem.W.Frag):List V->Hp->VK->Prop:=fun vs H Q=>∃(a:Addr) (bs:List Bool),vs=[V.ref a]/\SqL K H a (bs.map V.bl)/\Q (.bl (bs.all id)) H
theorem cr_all(hc:X.calm=true):CallR X (.builtin "all") (rAll X.K):=by
 intro pins s σ H vs us Q I r h
 obtain⟨a,bs,rfl,hs,q⟩:=h
 obtain⟨its,rv,hl,_⟩:=I.list hs
 rw[Vals.ref1 r]
 have hb:=rv.bls
 refine call_all_walk (iter_any hl.isList fun s₂ e2 st hne=>?_)
 subst e2
 refine⟨_,_,_,_,_,_,_,rfl,Walks.list (A:=X.A.in1) (I.ok.hd hc) _ a hne its.toArray,st,truth_bools hb,fun h' tk hk=>?_⟩
 refine⟨.bl _,H,I.kept fun b o eo=>hk b o (fun hmem=>?_) (Heap.get?_push_of_some _ eo),?_,q⟩
 ·rcases List.mem_cons.mp hmem with e1 | hmem
  ·exact absurd (e1 ▸ Heap.lt_size eo) (Nat.lt_irrefl _)
  ·cases hmem
 ·show Value.bool _=Value.bool _
  rw[<-ar,hb,List.size_toArray,List.length_map]
end
mutual
inductive Dp(K:PySem.W.Frag)(H:Hp):V->PyData->Prop
 |non:Dp K H .non .none
 |bl (b:Bool):Dp K H (.bl b) (.bool b)
 |int (i:Int):Dp K H (.int i) (.int i)
 |str (x:Str):Dp K H (.str x) (.str x)
 |lst {a:Addr} {xs:List V} {ds:List PyData}:SqL K H a xs->DpAll K H xs ds->Dp K H (.ref a) (.list ds)
 |tup {a:Addr} {xs:List V} {ds:List PyData}:SqT K H a xs->DpAll K H xs ds->Dp K H (.ref a) (.tuple ds)
inductive DpAll(K:PySem.W.Frag)(H:Hp):List V->List PyData->Prop
 |nil:DpAll K H [] []
 |cons {v:V} {vs:List V} {d:PyData} {ds:List PyData}:Dp K H v d->DpAll K H vs ds->DpAll K H (v::vs) (d::ds)
end
section
variable{X:Cx}{pins:List (Addr×Obj)}{σ:St}{H:Hp}{s:Shared}
mutual
theorem Dp.reads(I:Inv X pins σ H s):∀(d:PyData) (v:V) (u:Value),Dp X.K H v d->RelV v u->∃as,Reads s.heap u d as
 |.none,_,_,h,r=>by
  cases h
  cases r
  exact⟨_,Reads.none⟩
 |.bool b,_,_,h,r=>by
  cases h
  cases r
  exact⟨_,Reads.bool b⟩
 |.int i,_,_,h,r=>by
  cases h
  obtain⟨t,rfl⟩:=r
  exact⟨_,Reads.int i t⟩
 |.str x,_,_,h,r=>by
  cases h
  obtain⟨t,rfl⟩:=r
  exact⟨_,Reads.str x t⟩
 |.list ds,_,_,h,r=>by
  cases h with
  |lst hs ha=>
   cases r
   obtain⟨its,rv,⟨o,n,ho,hc,_,hd⟩,_⟩:=I.list hs
   obtain⟨as,hr⟩:=Dp.readsAll I ds _ its ha rv
   exact⟨_,Reads.list ho hc hd hr⟩
 |.tuple ds,_,_,h,r=>by
  cases h with
  |tup hs ha=>
   cases r
   obtain⟨its,rv,⟨o,ho,hc,n,hd⟩,_⟩:=I.tuple hs
   obtain⟨as,hr⟩:=Dp.readsAll I ds _ its ha rv
   exact⟨_,Reads.tuple ho hc hd hr⟩
 |.dict _,_,_,h,_=>by cases h
theorem Dp.readsAll(I:Inv X pins σ H s):∀(ds:List PyData) (vs:List V) (us:List Value),DpAll X.K H vs ds->Vals vs us->∃as,ReadsAll s.heap us ds as
 |[],_,_,h,r=>by
  cases h
  cases r
  exact⟨_,ReadsAll.nil⟩
 |d::ds,_,_,h,r=>by
  cases h with
  |cons h1 h2=>
   cases r with
   |cons r1 r2=>
    obtain⟨as,q1⟩:=Dp.reads I d _ _ h1 r1
    obtain⟨bs,q2⟩:=Dp.readsAll I ds _ _ h2 r2
    exact⟨_,ReadsAll.cons q1 q2⟩
end
end
section
variable{X:Cx}
def rEqD(K:PySem.W.Frag):R2:=fun x y H Q=>∃d e,Dp K H x d/\Dp K H y e/\SeqAt.shaped d=true/\SeqAt.shaped e=true/\Q (.bl (PyData.eqv d e)) H
theorem op_eqD(hu:X.A.units+64<cLine):OpR X (compareOp .Eq) (rEqD X.K):=by
 intro pins s σ H x y v u Q I rx ry h
 obtain⟨d,e,hd,he,sd,se,q⟩:=h
 obtain⟨as,r1⟩:=Dp.reads I d x v hd rx
 obtain⟨bs,r2⟩:=Dp.reads I e y u he ry
 exact SeqAt.compareEq_shaped r1 r2 sd se hu ⟨.bl _,H,I,rfl,q⟩
end
end L2
namespace L2
open PySem PySem.Spec PyProof.Rows
abbrev CellAt(h:Heap)(c:Addr)(v:Option Value):Prop:=h.IsCell c v
def relS(scope sc:Scope):Scope:=
 { scope with names:=scope.names.map fun (n,k)=>if (k == .free&&sc.kind == .function&&sc.names.lookup n==some .cell) then (n,.cell) else (n,k) }
def cloFrom(cells:List (Str×Addr)):List (Str×NameKind)->List (Str×Addr)->List (Str×Addr)
 |[],acc=>acc
 |(n,k)::r,acc=>if k == .free then cloFrom cells r ((n,(cells.lookup n).getD 0)::acc) else cloFrom cells r acc
theorem cl11(env:Env)(f:Str×NameKind->List (Str×Addr)->Sem (ForInStep (List (Str×Addr))))
  (hf:∀n k c,f (n,k) c=if k == .free then (do let a <-cellOf env n;pure (.yield ((n,a)::c))) else pure (.yield c)) :
  ∀(names:List (Str×NameKind)) (acc:List (Str×Addr)),(∀y∈names,y.2=.free->∃c,env.cells.lookup y.1=some c)->forIn names acc f=pure (cloFrom env.cells names acc)
 |[],acc,_=>by rw[List.forIn_nil];rfl
 |(n,k)::r,acc,h=>by
  rw[List.forIn_cons,hf]
  have ih:=fun acc=>cl11 env f hf r acc fun y hy=>h y (List.mem_cons_of_mem _ hy)
  unfold cloFrom
  by_cases hk:(k==NameKind.free)=true
  ·rw[if_pos hk,if_pos hk]
   obtain⟨c,hc⟩:=h (n,k) List.mem_cons_self (by simpa using hk)
   have e:cellOf env n=pure c:=by unfold cellOf;rw[hc]
   rw[e]
   have e2:(env.cells.lookup n).getD 0=c:=by rw[hc];rfl
   rw[e2]
   exact ih _
  ·rw[if_neg hk,if_neg hk]
   exact ih _
theorem closure_ok{scope:Scope}{env:Env}(h:∀y∈scope.names,y.2=.free->∃c,env.cells.lookup y.1=some c):closureFor scope env=pure (cloFrom env.cells scope.names []):=by
 simp only[closureFor]
 rw[cl11 env _ (fun n k c=>rfl) scope.names [] h]
 rfl
theorem ml13{α:Type}:∀{l:List (Str×α)}{n:Str}{c:α},(n,c)∈l->∃c',l.lookup n=some c'
 |(k,v)::r,n,c,h=>by
  rw[List.lookup_cons]
  cases hb:n==k with
  |true=>exact⟨_,rfl⟩
  |false=>
   rcases List.mem_cons.mp h with e | h
   ·cases e;simp at hb
   ·exact ml13 h
theorem cm10{cells:List (Str×Addr)}:∀{names:List (Str×NameKind)}{acc:List (Str×Addr)}{n:Str}{c:Addr},(n,c)∈cloFrom cells names acc->(n,c)∈acc\/((n,.free)∈names/\c=(cells.lookup n).getD 0)
 |[],_,_,_,h=>.inl h
 |(m,k)::r,acc,n,c,h=>by
  unfold cloFrom at h
  split at h
  ·rename_i hk
   have hk:k=.free:=by simpa using hk
   rcases cm10 h with h | ⟨h1,h2⟩
   ·rcases List.mem_cons.mp h with e | h
    ·cases e;exact .inr ⟨hk ▸ List.mem_cons_self,rfl⟩
    ·exact .inl h
   ·exact .inr ⟨List.mem_cons_of_mem _ h1,h2⟩
  ·rcases cm10 h with h | ⟨h1,h2⟩
   ·exact .inl h
   ·exact .inr ⟨List.mem_cons_of_mem _ h1,h2⟩
theorem ca10{cells:List (Str×Addr)}:∀{names:List (Str×NameKind)}{acc:List (Str×Addr)}{p:Str×Addr},p∈acc->p∈cloFrom cells names acc
 |[],_,_,h=>h
 |(m,k)::r,acc,p,h=>by
  unfold cloFrom
  split
  ·exact ca10 (List.mem_cons_of_mem _ h)
  ·exact ca10 h
theorem ch10{cells:List (Str×Addr)}:∀{names:List (Str×NameKind)}{acc:List (Str×Addr)}{n:Str},(n,.free)∈names->(n,(cells.lookup n).getD 0)∈cloFrom cells names acc
 |(m,k)::r,acc,n,h=>by
  unfold cloFrom
  rcases List.mem_cons.mp h with e | h
  ·cases e
   exact ca10 List.mem_cons_self
  ·split
   ·exact ch10 h
   ·exact ch10 h
theorem cm12:∀{names:List (Str×NameKind)}{h:Heap}{acc:List (Str×Addr)}{x:Str}{c:Addr},(x,c)∈cellsFrom h.objs.size names acc ->
  (x,c)∈acc\/((x,.cell)∈names/\h.objs.size<=c/\CellAt (pushCells h names) c none)
 |[],_,_,_,_,h=>.inl h
 |(n,k)::r,h,acc,x,c,hm=>by
  unfold cellsFrom at hm
  unfold pushCells
  split at hm
  ·rename_i hk
   rw[if_pos hk]
   have hk:k=.cell:=by simpa using hk
   rw[<-Heap.size_push h { cls:=.type "cell",data:=.cell none }] at hm
   rcases cm12 hm with hm | ⟨h1,h2,h3⟩
   ·rcases List.mem_cons.mp hm with e | hm
    ·cases e
     exact .inr ⟨hk ▸ List.mem_cons_self,Nat.le_refl _,_,pushCells_keeps r _ _ _ (Heap.get?_push_size _ rfl),rfl⟩
    ·exact .inl hm
   ·rw[Heap.size_push] at h2
    exact .inr ⟨List.mem_cons_of_mem _ h1,Nat.le_of_succ_le h2,h3⟩
  ·rename_i hk
   rw[if_neg hk]
   rcases cm12 hm with hm | ⟨h1,h2,h3⟩
   ·exact .inl hm
   ·exact .inr ⟨List.mem_cons_of_mem _ h1,h2,h3⟩
theorem ca11:∀{names:List (Str×NameKind)}{n:Nat}{acc:List (Str×Addr)}{p:Str×Addr},p∈acc->p∈cellsFrom n names acc
 |[],_,_,_,h=>h
 |(m,k)::r,n,acc,p,h=>by
  unfold cellsFrom
  split
  ·exact ca11 (List.mem_cons_of_mem _ h)
  ·exact ca11 h
theorem ch11:∀{names:List (Str×NameKind)}{n:Nat}{acc:List (Str×Addr)}{x:Str},(x,.cell)∈names->∃c,(x,c)∈cellsFrom n names acc
 |(m,k)::r,n,acc,x,h=>by
  unfold cellsFrom
  rcases List.mem_cons.mp h with e | h
  ·cases e
   exact⟨n,ca11 List.mem_cons_self⟩
  ·split
   ·exact ch11 h
   ·exact ch11 h
theorem ci:∀{names:List (Str×NameKind)}{h:Heap}{acc:List (Str×Addr)}{x y:Str}{c:Addr},(∀p∈acc,p.2<h.objs.size)->(∀x y c,(x,c)∈acc->(y,c)∈acc->x=y) ->
  (x,c)∈cellsFrom h.objs.size names acc->(y,c)∈cellsFrom h.objs.size names acc->x=y
 |[],_,_,_,_,_,_,hi,h1,h2=>hi _ _ _ h1 h2
 |(n,k)::r,h,acc,x,y,c,hl,hi,h1,h2=>by
  unfold cellsFrom at h1 h2
  split at h1
  ·rename_i hk
   rw[if_pos hk] at h2
   rw[<-Heap.size_push h { cls:=.type "cell",data:=.cell none }] at h1 h2
   refine ci (h:=h.push _) (fun p hp=>?_) (fun x y c a b=>?_) h1 h2
   ·rw[Heap.size_push]
    rcases List.mem_cons.mp hp with rfl | hp
    ·exact Nat.lt_succ_self _
    ·exact Nat.lt_succ_of_lt (hl p hp)
   ·rcases List.mem_cons.mp a with e | a<;>rcases List.mem_cons.mp b with e' | b
    ·cases e;cases e';rfl
    ·cases e;exact absurd (hl _ b) (Nat.lt_irrefl _)
    ·cases e';exact absurd (hl _ a) (Nat.lt_irrefl _)
    ·exact hi _ _ _ a b
  ·rename_i hk
   rw[if_neg hk] at h2
   exact ci hl hi h1 h2
theorem newEnv_comp{M:Model}{A:Around}{E:Value->Shared->Prop}{s:Shared}{scope:Scope}{globals:Addr}{closure:List (Str×Addr)}{qual:Str}{func:Option Addr}{code:Value}{around:Env}{builtins:Addr}{Q:Env->Shared->Prop}
  (h:Q (newEnv scope s.heap.objs.size globals (cellsFrom (s.heap.objs.size+1) scope.names closure) qual func code (some around) builtins)
   { s with heap:=pushCells (s.heap.push { cls:=.type "dict",data:=.dict #[] }) scope.names }) :
  wpAny M A (newFunctionEnv scope globals closure [] qual func code (some around) builtins) Q E s:=by
 simp only[newFunctionEnv,Option.isSome_some,if_true]
 refine wpAny_bind (wpAny_alloc ?_)
 refine wpAny_bind (wpAny_layCells _ (fun n k c=>rfl) scope.names closure _ _ ?_)
 rw[show ({ s with heap:=s.heap.push { cls:=.type "dict",data:=.dict #[] } }:Shared).heap.objs.size=s.heap.objs.size+1 from Heap.size_push ..]
 rw[List.forIn_nil]
 exact wpAny_bind (wpAny_pure (wpAny_pure h))
theorem lr10{sc:Scope}:∀{names:List (Str×NameKind)}{x:Str}{k:NameKind},
  (names.map fun (n,k)=>if (k==NameKind.free&&sc.kind == .function&&sc.names.lookup n==some .cell) then (n,NameKind.cell) else (n,k)).lookup x=some k ->
  ∃k',names.lookup x=some k'/\(k=k'\/(k'=.free/\k=.cell))
 |[],_,_,h=>by simp at h
 |(n,k₀)::r,x,k,h=>by
  have ih:=@lr10 sc r x k
  have h':List.lookup x ((if (k₀==NameKind.free&&sc.kind == .function&&sc.names.lookup n==some .cell)=true then (n,NameKind.cell) else (n,k₀))::(r.map _))=some k:=h
  cases hx:x==n with
  |true=>
   simp only[List.lookup_cons,hx]
   by_cases hc:(k₀==NameKind.free&&sc.kind == .function&&sc.names.lookup n==some .cell)=true
   ·rw[if_pos hc] at h'
    simp only[List.lookup_cons,hx] at h'
    cases h'
    simp only[Bool.and_eq_true,beq_iff_eq] at hc
    exact⟨k₀,rfl,.inr ⟨hc.1.1,rfl⟩⟩
   ·rw[if_neg hc] at h'
    simp only[List.lookup_cons,hx] at h'
    cases h'
    exact⟨_,rfl,.inl rfl⟩
  |false=>
   simp only[List.lookup_cons,hx]
   by_cases hc:(k₀==NameKind.free&&sc.kind == .function&&sc.names.lookup n==some .cell)=true
   ·rw[if_pos hc] at h'
    simp only[List.lookup_cons,hx] at h'
    exact ih h'
   ·rw[if_neg hc] at h'
    simp only[List.lookup_cons,hx] at h'
    exact ih h'
structure BlkOk(N:List Str)(sc scope:Scope)(own:List (Str×Nat)):Prop where
 kind:scope.kind=.function
 uniq:∀y∈scope.names,scope.names.lookup y.1=some y.2
 ix:∀p∈own,N[p.2]? = some p.1
 free:∀y∈scope.names,y.2=.free->sc.names.lookup y.1=some .cell\/sc.names.lookup y.1=some .free
 own:∀y∈scope.names,y.2=.local\/y.2=.cell->y.1∈own.map (·.1)\/y.1 ∉ N
def wipe(σ:St):List Nat->St
 |[]=>σ
 |v::vs=>(wipe σ vs).set v none
theorem wl10(σ:St):∀vs:List Nat,(wipe σ vs).length = σ.length
 |[]=>rfl
 |v::vs=>by unfold wipe;rw[List.length_set,wl10 σ vs]
theorem ws10{σ:St}{i:Nat}{x:V}:∀{vs:List Nat},(wipe σ vs)[i]? = some (some x)->σ[i]? = some (some x)/\i ∉ vs
 |[],h=>⟨h,by simp⟩
 |v::vs,h=>by
  unfold wipe at h
  by_cases hi:v=i
  ·subst hi
   by_cases hv:v<(wipe σ vs).length
   ·rw[List.getElem?_set_self hv] at h;cases h
   ·rw[List.getElem?_eq_none (by simpa using hv)] at h;cases h
  ·rw[List.getElem?_set_ne hi] at h
   obtain⟨h1,h2⟩:=ws10 h
   exact⟨h1,by simp only[List.mem_cons,not_or];exact⟨fun e=>hi e.symm,h2⟩⟩
abbrev Cx.blk(X:Cx)(s:Shared)(H:Hp)(scope:Scope)(cenv:Env)(fp:List Addr):Cx:={ X with s_0:=s,H_0:=H,env:=cenv,outer:=X.stack,ex:=fp,fn:=fun x=>scope.names.lookup x==some .cell,pn:=[],xe:=fun _ _=>False }
section
variable{X:Cx}{pins:List (Addr×Obj)}{σ:St}{H:Hp}{s:Shared}
theorem block_start{scope:Scope}{own:List (Str×Nat)}{fp:List Addr}(I:Inv X pins σ H s)(ok:BlkOk X.N X.env.scope scope own)(hN:X.N.Nodup)(hfp:∀b∈fp,FpOk X pins H b/\b<s.heap.objs.size) :
  Inv (X.blk s H scope (compEnvC scope (cellsFrom (s.heap.objs.size+1) scope.names (cloFrom X.env.cells scope.names [])) s.heap.objs.size X.env) fp) [] (wipe σ (own.map (·.2))) H { s with heap:=pushCells (s.heap.push { cls:=.type "dict",data:=.dict #[] }) scope.names }:=by
 have hfree:∀y∈scope.names,y.2=.free->∃c,X.env.cells.lookup y.1=some c:=fun y hy e=>by
  rcases ok.free y hy e with k | k
  ·exact I.ok.has _ (.inl k)
  ·exact I.ok.has _ (.inr k)
 generalize hcenv:compEnvC scope (cellsFrom (s.heap.objs.size+1) scope.names (cloFrom X.env.cells scope.names [])) s.heap.objs.size X.env=cenv
 have kp:∀b o,s.heap.get? b=some o->(pushCells (s.heap.push { cls:=.type "dict",data:=.dict #[] }) scope.names).get? b=some o:=fun b o e=>pushCells_keeps _ _ _ _ (Heap.get?_push_of_some _ e)
 have hL:cenv.locals=s.heap.objs.size:=by rw[<-hcenv];rfl
 have hcl:cenv.cells=cellsFrom (s.heap.objs.size+1) scope.names (cloFrom X.env.cells scope.names []):=by rw[<-hcenv];rfl
 have hsc:cenv.scope=relS scope X.env.scope:=by rw[<-hcenv];rfl
 rw[<-Heap.size_push s.heap { cls:=.type "dict",data:=.dict #[] }] at hcl
 have cm:∀{y c},(y,c)∈cloFrom X.env.cells scope.names []->X.env.cells.lookup y=some c/\c<s.heap.objs.size:=fun {y c} hm=>by
  rcases cm10 hm with hm | ⟨h1,rfl⟩
  ·cases hm
  ·obtain⟨c,hc⟩:=hfree _ h1 rfl
   rw[hc]
   obtain⟨w,z⟩:=I.cell _ _ hc
   exact⟨rfl,z.lt⟩
 have mem:∀{y c},cenv.cells.lookup y=some c->(X.env.cells.lookup y=some c/\c<s.heap.objs.size)\/(s.heap.objs.size+1<=c/\CellAt (pushCells (s.heap.push { cls:=.type "dict",data:=.dict #[] }) scope.names) c none):=fun {y c} e=>by
  rw[hcl] at e
  rcases cm12 (PySem.mem_of_lookup e) with hm | ⟨_,h2,h3⟩
  ·exact .inl (cm hm)
  ·rw[Heap.size_push] at h2;exact .inr ⟨h2,h3⟩
 have look:∀{y},scope.names.lookup y=some .free->∃c,cenv.cells.lookup y=some c/\X.env.cells.lookup y=some c:=fun {y} hl=>by
  have hy:(y,NameKind.free)∈scope.names:=PySem.mem_of_lookup hl
  obtain⟨c',e'⟩:=ml13 (ca11 (names:=scope.names) (n:=(s.heap.push { cls:=.type "dict",data:=.dict #[] }).objs.size) (ch10 (cells:=X.env.cells) (acc:=[]) hy))
  rw[<-hcl] at e'
  refine⟨c',e',?_⟩
  rw[hcl] at e'
  rcases cm12 (PySem.mem_of_lookup e') with hm | ⟨h1,_,_⟩
  ·exact (cm hm).1
  ·have:=ok.uniq _ h1
   rw[hl] at this;cases this
 have okB:(X.blk s H scope cenv fp).Ok:=by
  refine⟨I.ok.mod,by show cenv.scope.kind=_;rw[hsc];exact ok.kind,by show cenv.globals=_;rw[<-hcenv];exact I.ok.glob,by show cenv.builtins=_;rw[<-hcenv];exact I.ok.blt,by show s.heap.objs.size<=cenv.locals;rw[hL];exact Nat.le_refl _,
   fun y z c e1 e2=>?_,fun y hy=>?_,fun y c z e=>?_,I.ok.hd,I.ok.frames,.inl rfl,fun b hb=>⟨?_,fun y c e z=>?_⟩,I.bs,Nat.le_trans I.ok.bsz I.sz,fun b o e hb=>?_,fun b hb z=>?_,I.stack,I.stkFree⟩
  ·have e1:cenv.cells.lookup y=some c:=e1
   have e2:cenv.cells.lookup z=some c:=e2
   rw[hcl] at e1 e2
   refine ci (fun p hp=>?_) (fun y z c a b=>I.ok.inj y z c (cm a).1 (cm b).1) (PySem.mem_of_lookup e1) (PySem.mem_of_lookup e2)
   rw[Heap.size_push]
   exact Nat.lt_succ_of_lt (cm (y:=p.1) (c:=p.2) hp).2
  ·show ∃c,cenv.cells.lookup y=some c
   have key:∀k,cenv.kindOf y=some k->(k=.cell\/k=.free)->∃c,cenv.cells.lookup y=some c:=fun k hk hk'=>by
    unfold Env.kindOf at hk
    rw[hsc] at hk
    obtain⟨k',e,r⟩:=lr10 hk
    have:k'=.cell\/k'=.free:=by
     rcases r with rfl | ⟨rfl,_⟩
     ·exact hk'
     ·exact .inr rfl
    rcases this with rfl | rfl
    ·obtain⟨c,hm⟩:=ch11 (n:=(s.heap.push { cls:=.type "dict",data:=.dict #[] }).objs.size) (acc:=cloFrom X.env.cells scope.names []) (PySem.mem_of_lookup e)
     obtain⟨c',e'⟩:=ml13 hm
     exact⟨c',by rw[hcl];exact e'⟩
    ·obtain⟨c,h1,_⟩:=look e
     exact⟨c,h1⟩
   rcases hy with hy | hy
   ·exact key _ hy (.inl rfl)
   ·exact key _ hy (.inr rfl)
  ·have z:(scope.names.lookup y==some NameKind.cell)=true:=z
   have z:scope.names.lookup y=some .cell:=by simpa using z
   have e:cenv.cells.lookup y=some c:=e
   rw[hcl] at e
   rcases cm12 (PySem.mem_of_lookup e) with hm | ⟨_,h2,_⟩
   ·rcases cm10 hm with hm | ⟨h1,_⟩
    ·cases hm
    ·have q:=ok.uniq _ h1
     rw[z] at q;cases q
   ·rw[Heap.size_push] at h2
    exact Nat.le_of_succ_le h2
  ·show b≠cenv.locals
   rw[hL];exact Nat.ne_of_lt (hfp b hb).2
  ·have e:cenv.cells.lookup y=some c:=e
   rcases mem e with ⟨h1,_⟩ | ⟨h1,_⟩
   ·exact (hfp b hb).1.2.2.2.2.1 y c h1 z
   ·have h2:s.heap.objs.size+1<=b:=by rw[<-z];exact h1
    exact absurd (Nat.lt_of_lt_of_le (hfp b hb).2 (Nat.le_of_succ_le h2)) (Nat.lt_irrefl _)
  ·rcases (hfp b hb).1.2.2.2.1 with z | z
   ·exact I.ok.noex b o e z
   ·exact absurd (Nat.lt_of_lt_of_le (Heap.lt_size e) (Nat.le_trans I.ok.bsz z)) (Nat.lt_irrefl _)
  ·rcases List.mem_cons.mp (I.stkSub b z) with z | z
   ·exact (hfp b hb).1.2.1 z
   ·exact (hfp b hb).1.2.2.1 z
 refine⟨okB,rfl,I.bare,Un.kept kp,⟨fun _=>none,?_,fun i y av e1 e2 e3=>?_⟩,fun y c e=>?_,?_,fun y c e=>?_,fun p hp=>?_,I.hok.kept kp,by rw[wl10];exact I.len⟩
 ·show Heap.Ns _ cenv.locals _
  rw[hL]
  exact Heap.Ns.keeps (Heap.Ns.new ..) fun b o e=>pushCells_keeps _ _ _ _ e
 ·obtain⟨e2,hne⟩:=ws10 e2
  have hfr:scope.names.lookup y=some .free/\(cenv.kindOf y=some .cell\/cenv.kindOf y=some .free):=by
   have key:∀k,cenv.scope.names.lookup y=some k->k=.local\/k=.cell\/k=.free->scope.names.lookup y=some .free/\(cenv.kindOf y=some .cell\/cenv.kindOf y=some .free):=fun k hk hk'=>by
    have hk0:=hk
    rw[hsc] at hk
    obtain⟨k',e,r⟩:=lr10 hk
    have no:¬(k'=.local\/k'=.cell):=fun hh=>by
     rcases ok.own _ (PySem.mem_of_lookup e) hh with e' | e'
     ·obtain⟨p,hp,hpy⟩:=List.mem_map.mp e'
      have e3:=ok.ix p hp
      have:p.1=y:=hpy
      rw[this] at e3
      exact hne (List.mem_map.mpr ⟨p,hp,nodup_ix hN e3 e1⟩)
     ·exact e' (List.mem_of_getElem? e1)
    rcases r with rfl | ⟨rfl,rfl⟩
    ·rcases hk' with rfl | rfl | rfl
     ·exact absurd (.inl rfl) no
     ·exact absurd (.inr rfl) no
     ·exact⟨e,.inr hk0⟩
    ·exact⟨e,.inl hk0⟩
   have e3:Vis cenv.scope y:=e3
   rcases e3 with e3 | e3 | e3
   ·exact key _ e3 (.inl rfl)
   ·exact key _ e3 (.inr (.inl rfl))
   ·exact key _ e3 (.inr (.inr rfl))
  obtain⟨m,hn,hl⟩:=I.loc
  have hvis:Vis X.env.scope y:=(ok.free _ (PySem.mem_of_lookup hfr.1) rfl).elim (fun k=>.inr (.inl k)) (fun k=>.inr (.inr k))
  obtain⟨w,r,q⟩:=hl i y av e1 e2 hvis
  refine⟨w,r,.inr ⟨hfr.2,?_⟩⟩
  obtain⟨c,h1,h2⟩:=look hfr.1
  rcases q with ⟨k,_⟩ | ⟨_,c',e',z⟩
  ·have k:X.env.scope.names.lookup y=some .local:=k
   rcases ok.free _ (PySem.mem_of_lookup hfr.1) rfl with k' | k'<;>rw[show X.env.scope.names.lookup y=_ from k'] at k<;>cases k
  ·rw[h2] at e';cases e'
   exact⟨c,h1,z.keeps kp⟩
 ·have e:cenv.cells.lookup y=some c:=e
  rcases mem e with ⟨h1,_⟩ | ⟨_,z⟩
  ·obtain⟨w,z⟩:=I.cell y c h1
   exact⟨w,z.keeps kp⟩
  ·exact⟨_,z⟩
 ·show H cenv.locals=none
  rw[hL];exact I.hok.fresh (Nat.le_refl _)
 ·have e:cenv.cells.lookup y=some c:=e
  rcases mem e with ⟨h1,_⟩ | ⟨h1,_⟩
  ·exact I.freeC y c h1
  ·exact I.hok.fresh (Nat.le_of_succ_le h1)
 ·exact absurd (show p∈([]:List (Addr×Obj))++[] from hp) (by simp)
theorem app_ok{E:Value->Shared->Prop}{D:Addr}{xs:List V}{y:V}{v:Value}{Q:Value->Shared->Prop}(I:Inv X pins σ H s)(hD:H D=some (.lst xs))(hz:xs.length<sizeLine)(r:RelV y v)
  (h:∀s',Inv X pins σ (upd H D (.lst (xs++[y]))) s'->Q .none s'):wpAny (model X.prog X.w) X.A (call (.builtin "list.append") [.ref D,v]) Q E s:=by
 obtain⟨hz',its,n,ri,e⟩:=I.hok D _ hD
 have hl:=ri.length
 refine append_at (hsz:=by rw[List.size_toArray];omega) e fun h' sb ho'=>?_
 refine h { s with heap:=h' } (I.write (t':=s.toks) (by rw[hD];trivial) (.inl rfl) (fun b u hb q=>(sb.2 b hb).trans q) ⟨_,ho'⟩ ⟨by rw[List.length_append];exact hz,its++[v],n+1,ri.append (.cons r .nil),?_⟩)
 rw[ho']
 simp
def PTs(X:Cx)(ifs:List Expr)(t:TT):Prop:=
 ∀(pins:List (Addr×Obj)) (s:Shared) (σ:St) (H:Hp) (Q:Bool->Hp->Prop),Inv X pins σ H s->t σ H Q ->
  wpAny (model X.prog X.w) X.A (forIn ifs true fun c r=>if r=true then do let ok <-isTrue c X.env (eval c X.env);pure (ForInStep.yield ok) else pure (ForInStep.yield r)) (TP X pins σ Q) X.xe s
def tYes:TT:=fun _ H Q=>Q true H
theorem pn12:PTs X [] tYes:=fun _ _ _ H _ I h=>wpAny_tests_nil ⟨H,I,h⟩
end
theorem thnF{α:Type}{t:Sem α}{Q Q':α->Shared->Prop}{M:Model}{A:Around}{E:Value->Shared->Prop}{s:Shared}(h:wpAny M A t Q (fun _ _=>False) s)(hQ:∀a s,Q a s->Q' a s):wpAny M A t Q' E s:=wpAny_mono h hQ fun _ _ z=>False.elim z
theorem compLoop_any{prog:Program}{w:World}{A:Around}{R:Result->Shared->Prop}{s:Shared}{elt target iter:Expr}{ifs:List Expr}{scope:Scope}{pos:Pos}{it acc:Value}{env:Env}(I:Nat->Shared->Prop)
  (turn:∀n s,I n s->wpAny (model prog w) A (pyNext it) (fun r s₁=>match r with
   |none=>R (.ok .next) s₁
   |some v=>wpAny (model prog w) A (letOwnedTupleGo target it v) (fun _ s₁'=>wpAny (model prog w) A (assign target env v) (fun _ s₂=>
     wpAny (model prog w) A (forIn ifs true fun c r=>if r=true then do let ok <-isTrue c env (eval c env);pure (ForInStep.yield ok) else pure (ForInStep.yield r)) (fun ok s₃=>
      if ok=true then wpAny (model prog w) A (eval elt env) (fun x s₄=>
       wpAny (model prog w) A (call (.builtin "list.append") [acc,x]) (fun _ s₅=>∃m,m<n/\I m s₅) (notedBy (model prog w) A env fun e s'=>R (.error e) s') s₄) (notedBy (model prog w) A env fun e s'=>R (.error e) s') s₃
      else ∃m,m<n/\I m s₃) (notedBy (model prog w) A env fun e s'=>R (.error e) s') s₂) (notedBy (model prog w) A env fun e s'=>R (.error e) s') s₁') (notedBy (model prog w) A env fun e s'=>R (.error e) s') s₁) (notedBy (model prog w) A env fun e s'=>R (.error e) s') s)
  (n:Nat) (h:I n s) :
  codeAny (model prog w) A (.compLoop (.ListComp elt [⟨target,iter,ifs,0⟩] scope pos) 0 it acc env) R s:=by
 refine codeAny_loop rfl I (fun n s hI=>?_) n h
 show wpAny _ A ((compTurn (.ListComp elt [⟨target,iter,ifs,0⟩] scope pos) 0 it acc env).onRaise (fun x=>do noteFrame x env;theTreesLotGoes x)) _ _ s
 refine wpAny_noted ?_
 rw[compTurn_list]
 refine wpAny_bind (wpAny_standAt (wpAny_bind (wpAny_mono (turn n s hI) (fun r s₁ h₁=>?_) fun _ _ h'=>h')))
 cases r with
 |none=>exact wpAny_pure h₁
 |some v=>
  refine wpAny_bind (wpAny_mono h₁ (fun _ s₁' h₁'=>?_) fun _ _ h'=>h')
  refine wpAny_bind (wpAny_mono h₁' (fun _ s₂ h₂=>wpAny_bind (wpAny_mono h₂ (fun ok s₃ h₃=>?_) fun _ _ h'=>h')) fun _ _ h'=>h')
  cases ok with
  |false=>exact wpAny_pure ⟨rfl,h₃⟩
  |true=>
   exact wpAny_bind (wpAny_bind (wpAny_mono h₃ (fun x s₄ h₄=>wpAny_bind (wpAny_mono h₄ (fun _ s₅ h₅=>wpAny_pure (wpAny_pure ⟨rfl,h₅⟩)) fun _ _ h'=>h')) fun _ _ h'=>h'))
section
variable{X:Cx}
def tLc(wi:TI)(g:TG)(tt:TT)(te:TE)(vs:List Nat):TE:=fun σ H Q=>wi σ H fun J H1=>∀D,H1 D=none->∃W:Nat->Nat->Hp->Prop,(∃m,W 0 m (upd H1 D (.lst [])))/\∀i m H,W i m H ->
 (J.stop i H/\Q (.ref D) H)\/(J.go i H/\∃Nx:Hp->Prop,(∀H',Nx H'->∃m',m'<m/\W (i+1) m' H')/\∀x H',J.yld i H x H'->g x (wipe σ vs) H' fun σ2 H2=>wipe σ2 vs=wipe σ vs/\tt σ2 H2 fun b H3=>
  if b=true then te σ2 H3 fun y H4=>∃acc,H4 D=some (.lst acc)/\acc.length<sizeLine/\Nx (upd H4 D (.lst (acc++[y]))) else Nx H3)
theorem lc_core{pins:List (Addr×Obj)}{s:Shared}{σ:St}{H:Hp}{Q:VK}{elt tg iter:Expr}{ifs:List Expr}{scope:Scope}{own:List (Str×Nat)}{pos pos':Pos}{wi:TI}{g:TG}{tt:TT}{te:TE}{use:Option (Value->Sem Unit)}{Qf:Value->Shared->Prop}
  (hc:X.calm=true) (hN:X.N.Nodup) (I:Inv X pins σ H s) (hi:PI X tg iter wi) (ok:BlkOk X.N X.env.scope scope own)
  (hg:∀(s:Shared) (H:Hp) (C:Addr) (cl:List (Str×Addr)) (fp:List Addr),PG (X.blk s H scope (compEnvC scope cl C X.env) fp) tg g) (ht:∀(s:Shared) (H:Hp) (C:Addr) (cl:List (Str×Addr)) (fp:List Addr),PTs (X.blk s H scope (compEnvC scope cl C X.env) fp) ifs tt)
  (he:∀(s:Shared) (H:Hp) (C:Addr) (cl:List (Str×Addr)) (fp:List Addr),PE (X.blk s H scope (compEnvC scope cl C X.env) fp) elt te) (hs:∀x,foldedSetIterable iter X.env x=pure x)
  (h:tLc wi g tt te (own.map (·.2)) σ H Q)
  (hRR:∀D C s' m H',Inv X pins σ H' s'->Q (.ref D) H'->s'.heap.Ns C m->FpOk X pins H' C->compPost (model X.prog X.w) X.A X.xe use Qf (.ref D) C (.ok .next) s') :
  wpAny (model X.prog X.w) X.A (comprehension (.ListComp elt [⟨tg,iter,ifs,0⟩] scope pos) scope X.env pos' (newList []) false (eval iter X.env) use) Qf X.xe s:=by
 have hfree:∀y∈scope.names,y.2=.free->∃c,X.env.cells.lookup y.1=some c:=fun y hy e=>by
  rcases ok.free y hy e with k | k
  ·exact I.ok.has _ (.inl k)
  ·exact I.ok.has _ (.inr k)
 refine wpAny_comprehension_free (use:=use) rfl hs (closure_ok hfree) ok.kind (fun y hy e=>by rw[ok.uniq y hy,e])
  (thn (hi pins s σ H _ I h) fun xv s1 hx=>thn hx fun itv s2 h2=>?_)
 obtain⟨it,fp,tn,J,H2,e,I2,T,st2,f2,q⟩:=h2
 subst e
 refine wpAny_newObj_type (newEnv_comp ?_) (by show 0<=sizeLine;decide)
 generalize hD:s2.heap.objs.size=D
 have hDn:H2 D=none:=I2.hok.fresh (Nat.le_of_eq hD)
 obtain⟨W,⟨m0,w0⟩,turn⟩:=q D hDn
 generalize hs3:({ s2 with heap:=s2.heap.push { cls:=.type "list",data:=.seq ([]:List Value).toArray } }:Shared)=s3
 have I3:Inv X pins σ (upd H2 D (.lst [])) s3:=by
  rw[<-hs3]
  refine I2.laid (t':=s2.toks) (fun b o e=>Heap.get?_push_of_some _ e) (Nat.le_of_eq hD) ⟨Nat.zero_le _,[],0,.nil,?_⟩
  rw[<-hD]
  exact Heap.get?_push_size _ rfl
 have h3:s3.heap=s2.heap.push { cls:=.type "list",data:=.seq ([]:List Value).toArray }:=by rw[<-hs3]
 have sz:∀b∈fp,b<s2.heap.objs.size:=fun b hb=>by
  obtain⟨o,e,_⟩:=T.obj _ _ st2 b hb
  exact Heap.lt_size e
 have f3:∀b∈fp,FpOk X pins (upd H2 D (.lst [])) b/\b<s3.heap.objs.size:=fun b hb=>by
  have hlt:=sz b hb
  refine⟨⟨?_,(f2 b hb).2⟩,by rw[h3,Heap.size_push];exact Nat.lt_succ_of_lt hlt⟩
  rw[un10 (by rw[<-hD];exact Nat.ne_of_lt hlt)]
  exact (f2 b hb).1
 have st3:tn 0 s3.heap:=T.keep _ _ _ st2 fun b _ o e=>by rw[h3];exact Heap.get?_push_of_some _ e
 have I4:=block_start I3 ok hN f3
 have pg:=hg s3 (upd H2 D (.lst [])) s3.heap.objs.size (cellsFrom (s3.heap.objs.size+1) scope.names (cloFrom X.env.cells scope.names [])) fp
 have pt:=ht s3 (upd H2 D (.lst [])) s3.heap.objs.size (cellsFrom (s3.heap.objs.size+1) scope.names (cloFrom X.env.cells scope.names [])) fp
 have pe:=he s3 (upd H2 D (.lst [])) s3.heap.objs.size (cellsFrom (s3.heap.objs.size+1) scope.names (cloFrom X.env.cells scope.names [])) fp
 show codeAny _ _ (.compStart (.ListComp elt [⟨tg,iter,ifs,0⟩] scope pos) 0 (.ref it) (.ref D) (compEnvC scope (cellsFrom (s3.heap.objs.size+1) scope.names (cloFrom X.env.cells scope.names [])) s3.heap.objs.size X.env)) (compPost (model X.prog X.w) X.A X.xe use Qf (.ref D) s3.heap.objs.size) { s3 with heap:=pushCells (s3.heap.push { cls:=.type "dict",data:=.dict #[] }) scope.names }
 have nfp:∀b∈fp,(upd H2 D (.lst [])) b=none:=fun b hb=>(f3 b hb).1.1
 generalize hce:compEnvC scope (cellsFrom (s3.heap.objs.size+1) scope.names (cloFrom X.env.cells scope.names [])) s3.heap.objs.size X.env=ce at I4 pg pt pe ⊢
 have cL:ce.locals=s3.heap.objs.size:=by subst hce;rfl
 generalize hH3:upd H2 D (.lst [])=H3 at I3 I4 pg pt pe w0 nfp f3
 generalize hs4:({ s3 with heap:=pushCells (s3.heap.push { cls:=.type "dict",data:=.dict #[] }) scope.names }:Shared)=s4 at I4 ⊢
 have st4:tn 0 s4.heap:=T.keep _ _ _ st3 fun b _ o e=>by rw[<-hs4];exact pushCells_keeps _ _ _ _ (Heap.get?_push_of_some _ e)
 have stat:∀{σ':St} {H':Hp} {s':Shared},Inv (X.blk s3 H3 scope ce fp) [] σ' H' s'->(∀b∈fp,H' b=none)->∀b∈fp,FpOk (X.blk s3 H3 scope ce fp) [] H' b:=fun {σ' H' s'} I' hn b hb=>
  ⟨hn b hb,(I'.ok.exf b hb).1,I'.ok.exfs b hb,.inl hb,fun x c e=>(I'.ok.exf b hb).2 x c e,fun p hp=>absurd (show p∈([]:List (Addr×Obj))++[] from hp) (by simp)⟩
 have loop:codeAny (model X.prog X.w) X.A (.compLoop (.ListComp elt [⟨tg,iter,ifs,0⟩] scope pos) 0 (.ref it) (.ref D) ce) (compPost (model X.prog X.w) X.A X.xe use Qf (.ref D) s3.heap.objs.size) s4:=by
  refine compLoop_any (fun n s'=>∃i H',Inv (X.blk s3 H3 scope ce fp) [] (wipe σ (own.map (·.2))) H' s'/\tn i s'.heap/\(∀b∈fp,H' b=none)/\W i n H') ?_ m0 ⟨0,H3,I4,st4,nfp,w0⟩
  rintro n s5 ⟨i,H5,I5,st5,n5,w5⟩
  rcases turn i n H5 w5 with ⟨stop,qq⟩ | ⟨go,Nx,hNx,step⟩
  ·have td:=T.done (X.blk s3 H3 scope ce fp) rfl rfl rfl hc i [] s5 _ H5 (fun _ _=>False) I5 (stat I5 n5) st5 stop
   refine thnF td fun r s6 ⟨hr,I6⟩=>?_
   subst hr
   have I7:Inv X pins σ H5 s6:=I3.call' (ch:=fp) I6.os I6.base I6.hok I6.bare fun b hb=>⟨(f3 b hb).1.2.2.2.1,(f3 b hb).1.2.1,(f3 b hb).1.2.2.2.2.1,(f3 b hb).1.2.2.2.2.2⟩
   have nC:H5 s3.heap.objs.size=none:=by
    have z:H5 ce.locals=none:=I6.free
    rw[cL] at z
    exact z
   obtain⟨m,hn,_⟩:=I6.loc
   have hn:s6.heap.Ns ce.locals m:=hn
   rw[cL] at hn
   exact hRR D s3.heap.objs.size s6 m H5 I7 qq hn (I3.fpOk (Nat.le_refl _) nC)
  ·have ti:=T.item (X.blk s3 H3 scope ce fp) rfl rfl rfl hc i [] s5 _ H5 (fun _ _=>False) I5 (stat I5 n5) st5 go
   refine thnF ti fun r s6 ⟨u,hr,h6⟩=>?_
   subst hr
   refine thnF h6 fun _ s7 ⟨x,H7,I7,r7,y7,st7,n7⟩=>?_
   have I7':=I7.pinned (stat I7 n7) (T.obj _ _ st7)
   refine thnF (pg _ s7 _ H7 x u _ I7' r7 (step x H7 y7)) fun _ s8 ⟨σ8,H8,I8,hw8,q8⟩=>?_
   refine thnF (pt _ s8 σ8 H8 _ I8 q8) fun b s9 ⟨H9,I9,q9⟩=>?_
   have fin:∀{s':Shared} {H':Hp},Inv (X.blk s3 H3 scope ce fp) ([]++pinsAt fp s7.heap) σ8 H' s'->Nx H'->∃m,m<n/\∃i H',Inv (X.blk s3 H3 scope ce fp) [] (wipe σ (own.map (·.2))) H' s'/\tn i s'.heap/\(∀b∈fp,H' b=none)/\W i m H':=fun {s' H'} I' nx=>by
    obtain⟨m',hm,w'⟩:=hNx H' nx
    have pin':∀b∈fp,∀o,s7.heap.get? b=some o->s'.heap.get? b=some o/\H' b=none:=fun b hb o e=>
     let z:=I'.pin (b,o) (List.mem_append_right _ (List.mem_append_right _ (mp10 hb e)))
     ⟨z.1,z.2.1⟩
    have hl:(wipe σ (own.map (·.2))).length = σ8.length:=by rw[<-hw8,wl10]
    refine⟨m',hm,i+1,H',(I'.unpinned (pins:=[])).weak hl (fun j v e=>?_),T.keep _ _ _ st7 fun b hb o e=>(pin' b hb o e).1,fun b hb=>?_,w'⟩
    ·rw[<-hw8] at e
     exact (ws10 e).1
    ·obtain⟨o,e,_⟩:=T.obj _ _ st7 b hb
     exact (pin' b hb o e).2
   cases b with
   |false=>
    simp only[Bool.false_eq_true,if_false] at q9 ⊢
    exact fin I9 q9
   |true=>
    simp only[if_true] at q9 ⊢
    refine thnF (pe _ s9 σ8 H9 _ I9 q9) fun z s10 ⟨yv,H10,I10,r10,acc,hD10,hz10,nx⟩=>?_
    exact app_ok (X:=X.blk s3 H3 scope ce fp) I10 hD10 hz10 r10 fun s11 I11=>fin I11 nx
 exact codeAny_compStart_list loop (T.self X.A 0 _ _ _ st4 loop)
theorem pl14{elt tg iter:Expr}{ifs:List Expr}{scope:Scope}{own:List (Str×Nat)}{pos:Pos}{wi:TI}{g:TG}{tt:TT}{te:TE}(hc:X.calm=true)(hN:X.N.Nodup)(hi:PI X tg iter wi)(ok:BlkOk X.N X.env.scope scope own)
  (hg:∀(s:Shared) (H:Hp) (C:Addr) (cl:List (Str×Addr)) (fp:List Addr),PG (X.blk s H scope (compEnvC scope cl C X.env) fp) tg g) (ht:∀(s:Shared) (H:Hp) (C:Addr) (cl:List (Str×Addr)) (fp:List Addr),PTs (X.blk s H scope (compEnvC scope cl C X.env) fp) ifs tt)
  (he:∀(s:Shared) (H:Hp) (C:Addr) (cl:List (Str×Addr)) (fp:List Addr),PE (X.blk s H scope (compEnvC scope cl C X.env) fp) elt te) (hs:∀x,foldedSetIterable iter X.env x=pure x:=by intro _;rfl) :
  PE X (.ListComp elt [⟨tg,iter,ifs,0⟩] scope pos) (tLc wi g tt te (own.map (·.2))):=by
 intro pins s σ H Q I h
 rw[eval_ListComp]
 refine lc_core hc hN I hi ok hg ht he hs h fun D C s' m H' I' q hn f=>⟨m,hn,fun h'' sb=>?_⟩
 obtain⟨f0,f1,f2,f3,f4,f5⟩:=f
 exact⟨.ref D,H',I'.turned (t':=s'.toks) (fun b o hb e=>(sb.2 b hb).trans e) f0 f1 f3 f4 f5,rfl,q⟩
theorem ps_setLc{i:Nat}{y:Str}{py:Pos}{elt tg iter:Expr}{ifs:List Expr}{scope:Scope}{own:List (Str×Nat)}{pos spos:Pos}{wi:TI}{g:TG}{tt:TT}{te:TE}(hc:X.calm=true)(hN:X.N.Nodup)(hy:X.N[i]? = some y)(hyl:X.env.scope.names.lookup y=some .local)
  (hsw:swapsWith (.ListComp elt [⟨tg,iter,ifs,0⟩] scope pos) (some (.Name y py)) spos.line X.env=pure true) (hi:PI X tg iter wi) (ok:BlkOk X.N X.env.scope scope own)
  (hg:∀(s:Shared) (H:Hp) (C:Addr) (cl:List (Str×Addr)) (fp:List Addr),PG (X.blk s H scope (compEnvC scope cl C X.env) fp) tg g) (ht:∀(s:Shared) (H:Hp) (C:Addr) (cl:List (Str×Addr)) (fp:List Addr),PTs (X.blk s H scope (compEnvC scope cl C X.env) fp) ifs tt)
  (he:∀(s:Shared) (H:Hp) (C:Addr) (cl:List (Str×Addr)) (fp:List Addr),PE (X.blk s H scope (compEnvC scope cl C X.env) fp) elt te) (hs:∀x,foldedSetIterable iter X.env x=pure x:=by intro _;rfl) :
  PS X (.Assign [.Name y py] (.ListComp elt [⟨tg,iter,ifs,0⟩] scope pos) spos) (tAsg (tLc wi g tt te (own.map (·.2))) (gName i)):=by
 intro pins s σ H D I h
 rw[exec_Assign_Name_used _ _ _ _ hsw]
 refine wpAny_bind (wpAny_standAt (wpAny_bind ?_))
 show wpAny _ X.A (do let _ <-comprehension (.ListComp elt [⟨tg,iter,ifs,0⟩] scope pos) scope X.env (firstIterPos [⟨tg,iter,ifs,0⟩] pos) (newList []) false (eval iter X.env) (some (assign (.Name y py) X.env))) _ _ s
 have h:tLc wi g tt te (own.map (·.2)) σ H (fun x H1=>gName i x σ H1 D.nx):=h
 refine wpAny_bind (thn (lc_core (Qf:=fun _ s'=>SP X pins D .next s') hc hN I hi ok hg ht he hs h fun L C s' m H' I' q hn f=>?_) fun _ s' hq=>wpAny_pure (wpAny_pure hq))
 show wpAny _ _ (assign (.Name y py) X.env (.ref L)) _ _ _
 refine wpAny_assign_Name (store_ok2 (v:=V.ref L) I' hN hy (.inl hyl) rfl (fun s2 I2 ⟨a,sb,ha⟩=>?_) (.inr hyl))
 obtain⟨f0,f1,f2,f3,f4,f5⟩:=f
 have haC:C≠a:=by
  rcases ha with z | z
  ·rw[z];exact f1
  ·exact fun e=>f4 y a z e.symm
 refine⟨m,hn.sameBut sb haC,fun h3 sb3=>?_⟩
 exact⟨_,H',I2.turned (t':=s2.toks) (fun b o hb e=>(sb3.2 b hb).trans e) f0 f1 f3 f4 f5,q⟩
theorem sw_true{elt:Expr}{gs:List Comprehension}{scope:Scope}{pos py:Pos}{y:Str}{l:Nat}{env:Env}(hk:env.scope.kind=.function)(hy:env.scope.names.lookup y=some .local)(hl:(py.line==pos.line)=true)
  (ha:(scope.names.any fun (n,k)=>n==y&&(k == .local||k == .cell))=false):swapsWith (.ListComp elt gs scope pos) (some (.Name y py)) l env=pure true:=by
 have ky:env.kindOf y=some .local:=hy
 have hb:env.blockKind=.function:=by unfold Env.blockKind;rw[hk];rfl
 unfold swapsWith
 simp only[hb,ky,ha,Expr.pos,hl]
 rfl
end
theorem lc_range{lo:Int}{n:Nat}{g:TG}{tt:TT}{te:TE}{vs:List Nat}{σ:St}{H1:Hp}{D:Addr}{Qd:Hp->Prop}(Pv:Nat->Hp->Prop)(h0:Pv 0 (upd H1 D (.lst [])))
  (hs:∀i H,i<n->Pv i H->g (.int (lo+i)) (wipe σ vs) H fun σ2 H2=>wipe σ2 vs=wipe σ vs/\tt σ2 H2 fun b H3=>
   if b=true then te σ2 H3 fun y H4=>∃acc,H4 D=some (.lst acc)/\acc.length<sizeLine/\Pv (i+1) (upd H4 D (.lst (acc++[y]))) else Pv (i+1) H3) (hd:∀H,Pv n H->Qd H) :
  ∃W:Nat->Nat->Hp->Prop,(∃m,W 0 m (upd H1 D (.lst [])))/\∀i m H,W i m H ->
   ((Itr lo n).stop i H/\Qd H)\/((Itr lo n).go i H/\∃Nx:Hp->Prop,(∀H',Nx H'->∃m',m'<m/\W (i+1) m' H')/\∀x H',(Itr lo n).yld i H x H'->g x (wipe σ vs) H' fun σ2 H2=>wipe σ2 vs=wipe σ vs/\tt σ2 H2 fun b H3=>
    if b=true then te σ2 H3 fun y H4=>∃acc,H4 D=some (.lst acc)/\acc.length<sizeLine/\Nx (upd H4 D (.lst (acc++[y]))) else Nx H3):=by
 refine⟨fun i m H=>m=n-i/\i<=n/\Pv i H,⟨n,by simp,Nat.zero_le _,h0⟩,?_⟩
 rintro i m H ⟨rfl,hi,p⟩
 by_cases hlt:i<n
 ·refine .inr ⟨hlt,Pv (i+1),fun H' p'=>⟨n-(i+1),by omega,rfl,hlt,p'⟩,fun x H' y=>?_⟩
  obtain⟨e,y⟩:=y
  subst e y
  exact hs i _ hlt p
 ·have e:i=n:=by omega
  subst e
  exact .inl ⟨Nat.le_refl _,hd H p⟩
theorem ll10{K:PySem.W.Frag}{a:Addr}{xs:List V}{g:TG}{tt:TT}{te:TE}{vs:List Nat}{σ:St}{H1:Hp}{D:Addr}{Qd:Hp->Prop}(Pv:Nat->Hp->Prop)(h0:Pv 0 (upd H1 D (.lst [])))(hl:∀i H,i<=xs.length->Pv i H->SqL K H a xs)
  (hs:∀i x H,xs[i]? = some x->Pv i H->g x (wipe σ vs) H fun σ2 H2=>wipe σ2 vs=wipe σ vs/\tt σ2 H2 fun b H3=>
   if b=true then te σ2 H3 fun y H4=>∃acc,H4 D=some (.lst acc)/\acc.length<sizeLine/\Pv (i+1) (upd H4 D (.lst (acc++[y]))) else Pv (i+1) H3) (hd:∀H,Pv xs.length H->Qd H) :
  ∃W:Nat->Nat->Hp->Prop,(∃m,W 0 m (upd H1 D (.lst [])))/\∀i m H,W i m H ->
   ((Itl K a).stop i H/\Qd H)\/((Itl K a).go i H/\∃Nx:Hp->Prop,(∀H',Nx H'->∃m',m'<m/\W (i+1) m' H')/\∀x H',(Itl K a).yld i H x H'->g x (wipe σ vs) H' fun σ2 H2=>wipe σ2 vs=wipe σ vs/\tt σ2 H2 fun b H3=>
    if b=true then te σ2 H3 fun y H4=>∃acc,H4 D=some (.lst acc)/\acc.length<sizeLine/\Nx (upd H4 D (.lst (acc++[y]))) else Nx H3):=by
 refine⟨fun i m H=>m=xs.length-i/\i<=xs.length/\Pv i H,⟨xs.length,by simp,Nat.zero_le _,h0⟩,?_⟩
 rintro i m H ⟨rfl,hi,p⟩
 have q:=hl i H hi p
 by_cases hlt:i<xs.length
 ·refine .inr ⟨⟨xs,xs[i],q,by simp[hlt]⟩,Pv (i+1),fun H' p'=>⟨xs.length-(i+1),by omega,rfl,hlt,p'⟩,fun x H' y=>?_⟩
  obtain⟨e,y⟩:=y
  subst e
  exact hs i x _ (y xs q) p
 ·have e:i=xs.length:=by omega
  subst e
  exact .inl ⟨⟨xs,q,Nat.le_refl _⟩,hd H p⟩
def blkC(N:List Str)(sc scope:Scope)(own:List (Str×Nat)):Bool:=
 (match scope.kind with | .function=>true | _=>false)&&(scope.names.all fun y=>decide (scope.names.lookup y.1=some y.2))&&(own.all fun p=>decide (N[p.2]? = some p.1)) &&
  (scope.names.all fun y=>match y.2 with
   |.free=>(match sc.names.lookup y.1 with | some .cell=>true | some .free=>true | _=>false)
   |.local=>decide (y.1∈own.map (·.1))||decide (y.1 ∉ N)
   |.cell=>decide (y.1∈own.map (·.1))||decide (y.1 ∉ N)
   |_=>true)
theorem bb10{N:List Str}{sc scope:Scope}{own:List (Str×Nat)}(h:blkC N sc scope own=true):BlkOk N sc scope own:=by
 unfold blkC at h
 simp only[Bool.and_eq_true,List.all_eq_true,decide_eq_true_eq] at h
 obtain⟨⟨⟨h1,h2⟩,h3⟩,h4⟩:=h
 refine⟨?_,h2,h3,fun y hy e=>?_,fun y hy e=>?_⟩
 ·split at h1
  ·assumption
  ·cases h1
 ·have q:=h4 y hy
  simp only[e] at q
  split at q<;>first | exact .inl (by assumption) | exact .inr (by assumption) | cases q
 ·have q:=h4 y hy
  rcases e with e | e<;>(simp only[e,Bool.or_eq_true,decide_eq_true_eq] at q;exact q)
end L2
namespace L2
open PySem PySem.Spec PyProof.Rows
section
variable{prog:Program}{w:World}{A:Around}{R:Result->Shared->Prop}{s:Shared}{elt t0 i0 t1 i1:Expr}{ifs0 ifs1:List Expr}{scope:Scope}{pos:Pos}{it acc:Value}{env:Env}
end
section
variable{X:Cx}
end
end L2
namespace L2
open PySem PySem.Spec PyProof.Rows
section
variable{κ:Type}[DecidableEq κ]
end
theorem kV_is{P:Program}{w:World}{k:Key}{u:Value}(r:RelV (kV k) u):(mixKind P w).is k u=true:=by
 cases k with
 |inl i=>obtain⟨t,e⟩:=(show ∃t,u=Value.int i t from r);subst e;exact mixKind_int P w i t
 |inr x=>obtain⟨t,e⟩:=(show ∃t,u=Value.str x t from r);subst e;exact mixKind_str P w x t
theorem ia{P:Program}{w:World}:∀{ks:List Key}{us:List Value},Vals (ks.map kV) us->ItemsAre (mixKind P w) ks us
 |[],_,r=>by rw[List.map_nil] at r;cases r;exact .nil
 |k::ks,_,r=>by
  rw[List.map_cons] at r
  cases r with
  |cons h t=>exact .cons (kV_is h) (ia t)
section
variable{P:Program}{w:World}{H:Hp}{h:Heap}{a:Addr}
end
section
variable{X:Cx}{pins:List (Addr×Obj)}{σ:St}{H:Hp}{s:Shared}{a:Addr}{y v:V}{u r:Value}{o:Option V}{A:Around}{E:Value->Shared->Prop}
end
section
variable{X:Cx}{pins:List (Addr×Obj)}{σ:St}{H:Hp}{s:Shared}{a:Addr}{kvs:List (Key×V)}{k:Key}{u:Value}{A:Around}{E:Value->Shared->Prop}
end
section
variable{X:Cx}{o i e value:Expr}{pos pos' tpos:Pos}{td ty tv:TE}
end
section
variable{X:Cx}{pos:Pos}
end
section
variable{X:Cx}{pins:List (Addr×Obj)}{σ:St}{H:Hp}{s:Shared}{a:Addr}{y d:V}{u r:Value}{o:Option V}{A:Around}{E:Value->Shared->Prop}
end
section
variable{X:Cx}{o e f:Expr}{apos cpos:Pos}{td ty tx:TE}
end
section
variable{X:Cx}{pins:List (Addr×Obj)}{σ:St}{H:Hp}{s:Shared}{a:Addr}{kvs:List (Key×V)}{A:Around}{E:Value->Shared->Prop}
end
section
variable{X:Cx}{pins:List (Addr×Obj)}{σ:St}{H:Hp}{s:Shared}{a:Addr}{y:V}{u:Value}{A:Around}{E:Value->Shared->Prop}
end
end L2
namespace L2
open PySem PySem.Spec PyProof.Rows
section
variable{prog:Program}{w:World}{A:Around}{E:Value->Shared->Prop}
end
section
variable{X:Cx}
end
end L2
namespace L2
open PySem PySem.Spec PyProof.Rows
theorem br:bootBuiltins "reversed" = some (.type "reversed"):=by decide +kernel
section
variable{X:Cx}{pins:List (Addr×Obj)}{σ:St}{H:Hp}{s:Shared}{h':Heap}
theorem Inv.turnedL{t':Nat}{ch:List Addr}(I:Inv X pins σ H s)(k:∀b o,b ∉ ch->s.heap.get? b=some o->h'.get? b=some o)(hf:∀b∈ch,FpOk X pins H b):Inv X pins σ H { s with heap:=h',toks:=t' }:=by
 have nit:∀b u,H b=some u->b ∉ ch:=fun b u e z=>by
  have q:=(hf b z).1
  rw[q] at e;cases e
 refine I.step (g':=s.gens) (d':=s.drawn) (ch:=ch) (fun b hb=>⟨(hf b hb).2.2.2.1,(hf b hb).2.1,(hf b hb).2.2.2.2.1,(hf b hb).2.2.2.2.2⟩) (fun b o _ _ hc e _=>k b o hc e) (fun b o _ _ hc e _=>⟨o.slots,k b o hc e⟩)
  (fun _ _ _ _ n=>n) (fun b o hc e=>⟨o,k b o hc e⟩) (fun _ _ e=>e) (fun _ _ _ e=>e) (fun b ps e=>⟨#[],by rw[e];simp⟩) (fun m hm=>?_) (fun b u e=>?_) I.bare
 ·obtain⟨o,es,ep,ho,r⟩:=hm
  exact⟨o,es,ep,k _ o (fun z=>(hf _ z).2.1 rfl) ho,r⟩
 ·refine (I.hok b u e).stay (fun c v hc q=>k c v ?_ q) (fun _ q=>q) fun _ _ q=>q
  rcases hc with z | z
  ·rw[z];exact nit b u e
  ·exact nit c _ z
theorem Inv.turnedNew{t':Nat}{ch:List Addr}{T:Addr}{ob:HO}(I:Inv X pins σ H s)(k:∀b o,b ∉ ch->s.heap.get? b=some o->h'.get? b=some o)(hf:∀b∈ch,FpOk X pins H b)(hT:s.heap.objs.size<=T)
  (new:ObjOk X.prog X.w (upd H T ob) h' T ob):Inv X pins σ (upd H T ob) { s with heap:=h',toks:=t' }:=by
 have hn:H T=none:=I.hok.fresh hT
 have nit:∀b u,H b=some u->b ∉ ch:=fun b u e z=>by
  have q:=(hf b z).1
  rw[q] at e;cases e
 refine I.step (g':=s.gens) (d':=s.drawn) (ch:=ch) (fun b hb=>⟨(hf b hb).2.2.2.1,(hf b hb).2.1,(hf b hb).2.2.2.2.1,(hf b hb).2.2.2.2.2⟩) (fun b o _ _ hc e _=>k b o hc e) (fun b o _ _ hc e _=>⟨o.slots,k b o hc e⟩)
  (fun b o _ e n=>?_) (fun b o hc e=>⟨o,k b o hc e⟩) (fun b xs e=>?_) (fun b o u e=>?_) (fun b ps e=>⟨#[],?_⟩) (fun m hm=>?_) (fun b u e=>?_) I.bare
 ·rw[un10 (Nat.ne_of_lt (Nat.lt_of_lt_of_le (Heap.lt_size e) hT))];exact n
 ·rw[un10 (non10 e hn)];exact e
 ·rw[un10 (non10 e hn)];exact e
 ·rw[un10 (non10 e hn),e];simp
 ·obtain⟨o,es,ep,ho,r⟩:=hm
  exact⟨o,es,ep,k _ o (fun z=>(hf _ z).2.1 rfl) ho,r⟩
 ·by_cases hb:b=T
  ·subst hb
   rw[us10] at e
   cases e
   exact new
  ·rw[un10 hb] at e
   refine (I.hok b u e).stay (fun c v hc q=>k c v ?_ q) (fun c q=>by rw[un10 (non10 q hn)];exact q) fun c xs q=>by rw[un10 (non10 q hn)];exact q
   rcases hc with z | z
   ·rw[z];exact nit b u e
   ·exact nit c _ z
end
section
variable{X:Cx}
end
section
variable{X:Cx}{tg:Expr}
end
section
variable{X:Cx}{tg:Expr}
end
section
variable{prog:Program}{w:World}{A:Around}{E:Value->Shared->Prop}{s:Shared}
end
section
variable{X:Cx}{pins:List (Addr×Obj)}{σ:St}{H:Hp}{s:Shared}{d:Addr}{o:Obj}
end
section
variable{P:Program}{w:World}{K:PySem.W.Frag}{tg:Expr}{d:Addr}{o:Obj}{es:Array DictEntry}{ep:Nat}
end
section
variable{X:Cx}{tg e:Expr}{td:TE}{apos cpos:Pos}
end
def Ite(K:PySem.W.Frag)(a:Addr):It:=
 ⟨fun i H=>∃(xs:List V) (x:V),SqL K H a xs/\xs[i]? = some x,fun i H v H'=>∃T x,v=.ref T/\H T=none/\H'=upd H T (.tup [.int (i:Nat),x])/\∀xs,SqL K H a xs->xs[i]? = some x,fun i H=>∃xs:List V,SqL K H a xs/\xs.length<=i⟩
theorem turn_enum{P:Program}{w:World}{K:PySem.W.Frag}{elts:List Expr}{kk:Nat}{tpos:Pos}(a e it:Addr) :
  Turn P w K (.Tuple elts kk tpos) (Ite K a) [e,it] e (fun i h=>(∃old,IsEnum h e it ((i:Nat):Int) old)/\h.IsListIter it a i/\e≠it) where
 mem:=by simp
 obj:=fun i h st b hb=>by
  obtain⟨⟨old,he⟩,⟨o,ho,hc,hd⟩,_⟩:=st
  have e':b=e\/b=it:=by simpa using hb
  rcases e' with z | z
  ·rw[z];exact⟨_,he,fun v q=>nomatch q⟩
  ·rw[z];exact⟨o,ho,fun v q=>by rw[hd] at q;cases q⟩
 keep:=fun i h h' st k=>let ⟨⟨old,he⟩,hi,hne⟩:=st;⟨⟨old,k e (by simp) _ he⟩,hi.at fun o q=>k it (by simp) o q,hne⟩
 item:=by
  intro X hP hw hK hc i pins s σ H E I hf st hg
  subst hP hw hK
  obtain⟨⟨old,he⟩,hit,hne⟩:=st
  obtain⟨xs,x,hq,hx⟩:=hg
  obtain⟨its,rv,p,hz⟩:=I.list hq
  obtain⟨u,hu,ru⟩:=rv.get hx
  have hel:e<s.heap.objs.size:=Heap.lt_size he
  have hil:it<s.heap.objs.size:=by obtain⟨_,q,_⟩:=hit;exact Heap.lt_size q
  refine wpAny_pyNext_enum_item he hit p.isList (x:=u) (by simpa using hu) hne fun h' ho hit' hT hsz hk=>?_
  refine⟨_,rfl,wpAny_letOwnedTupleGo_enum (s:={ s with heap:=h',toks:=s.toks+1 }) ho fun h'' he' sb=>?_⟩
  have hT2:h''.get? s.heap.objs.size=some { cls:=.type "tuple",data:=.seq #[.int i s.toks,u] }:=(sb.2 _ (Nat.ne_of_gt hel)).trans hT
  have new:ObjOk X.prog X.w (upd H s.heap.objs.size (.tup [.int (i:Nat),x])) h'' s.heap.objs.size (.tup [.int (i:Nat),x]):=
   ⟨by show 2<=sizeLine;decide,[.int i s.toks,u],.cons ⟨_,rfl⟩ (.cons ru .nil),⟨_,hT2,rfl,_,rfl⟩⟩
  have I1:Inv X pins σ (upd H s.heap.objs.size (.tup [.int (i:Nat),x])) { s with heap:=h'',toks:=s.toks+1 }:=
   I.turnedNew (ch:=[e,it]) (fun b ob hb q=>(sb.2 b (fun z=>hb (by simp[z]))).trans (hk b ob (fun z=>hb (by simp[z])) (fun z=>hb (by simp[z])) q)) hf (Nat.le_refl _) new
  refine⟨.ref s.heap.objs.size,_,I1,rfl,⟨_,x,rfl,I.hok.fresh (Nat.le_refl _),rfl,fun ys hy=>by rw[I.list_inj hy hq];exact hx⟩,⟨⟨u,?_⟩,hit'.at fun o q=>(sb.2 it (Ne.symm hne)).trans q,hne⟩,fun b hb=>?_⟩
  ·have e1:((i+1:Nat):Int)=(i:Int)+1:=by omega
   rw[e1];exact he'
  ·have hb':b<s.heap.objs.size:=by
    have e':b=e\/b=it:=by simpa using hb
    rcases e' with z | z
    ·rw[z];exact hel
    ·rw[z];exact hil
   rw[un10 (Nat.ne_of_lt hb')]
   exact (hf b hb).1
 done:=by
  intro X hP hw hK hc i pins s σ H E I hf st hg
  subst hP hw hK
  obtain⟨⟨old,he⟩,hit,hne⟩:=st
  obtain⟨xs,hq,hx⟩:=hg
  obtain⟨its,rv,p,hz⟩:=I.list hq
  obtain⟨f0,f1,f2,f3,f4,f5⟩:=hf it (by simp)
  have hl:=rv.length
  exact wpAny_pyNext_enum_end (I.ok.hd hc) he hit p.isList (by simp;omega) fun h' eb=>⟨rfl,I.turned (t':=s.toks) (fun b o hb q=>eb b o hb q) f0 f1 f3 f4 f5⟩
 self:=fun A i s Q E st h=>let ⟨⟨_,he⟩,_⟩:=st;wpAny_pyIter_enum he h
def iEnum(K:PySem.W.Frag)(ta:TA):TI:=fun σ H R=>ta σ H fun vs H1=>∃a xs,vs=[.ref a]/\SqL K H1 a xs/\R (Ite K a) H1
theorem pi_enum{X:Cx}{e:Expr}{ta:TA}{p pos tpos:Pos}{elts:List Expr}{kk:Nat}(hg:Gl X "enumerate")(hm:X.mg "enumerate" = none)(ha:PA X [e] ta)(hs:starEach [e] X.env=[(false,eval e X.env)]:=by rfl) :
  PI X (.Tuple elts kk tpos) (.Call (.Name "enumerate" p) [e] [] pos) (iEnum X.K ta):=by
 intro pins s σ H R I h
 refine Call_ (ld_blt I hg hm boot_enumerate (PyProof.Rows.callWith_type1 (thn (ha pos pins s σ H _ I h) fun us s1 ⟨vs,H1,I1,r1,q1⟩=>?_) hs rfl))
 obtain⟨a,xs,ex,hq,q⟩:=q1
 subst ex
 cases r1 with
 |cons r rr=>
  cases rr
  cases r
  obtain⟨its,rv,p',hz⟩:=I1.list hq
  refine call_enumerate_list p'.isList fun h' he hit hsz hk=>wpAny_pyIter_enum he ?_
  have I2:Inv X pins σ H1 { s1 with heap:=h' }:=I1.kept (t':=s1.toks) hk
  refine⟨s1.heap.objs.size+1,[s1.heap.objs.size+1,s1.heap.objs.size],_,_,H1,rfl,I2,turn_enum a (s1.heap.objs.size+1) s1.heap.objs.size,⟨⟨.none,he⟩,hit,Nat.succ_ne_self _⟩,fun b hb=>?_,q⟩
  have e':b=s1.heap.objs.size+1\/b=s1.heap.objs.size:=by simpa using hb
  have hle:s1.heap.objs.size<=b:=by
   rcases e' with z | z
   ·rw[z];exact Nat.le_add_right _ _
   ·rw[z];exact Nat.le_refl _
  exact I1.fpOk hle (I1.hok.fresh hle)
theorem boot_zip5:bootBuiltins "zip" = some (.type "zip"):=by decide +kernel
def Itz(K:PySem.W.Frag)(a b:Addr):It:=
 ⟨fun i H=>∃(xs ys:List V) (x y:V),SqL K H a xs/\SqL K H b ys/\xs[i]? = some x/\ys[i]? = some y,
  fun i H v H'=>∃T x y,v=.ref T/\H T=none/\H'=upd H T (.tup [x,y])/\(∀xs,SqL K H a xs->xs[i]? = some x)/\∀ys,SqL K H b ys->ys[i]? = some y,
  fun i H=>∃xs ys:List V,SqL K H a xs/\SqL K H b ys/\(xs.length<=i\/ys.length<=i)⟩
theorem turn_zip{P:Program}{w:World}{K:PySem.W.Frag}{elts:List Expr}{kk:Nat}{tpos:Pos}{a b z TI TO i1 i2:Addr}(D:ZipApart z TI TO i1 i2 a b) :
  Turn P w K (.Tuple elts kk tpos) (Itz K a b) [z,TI,TO,i1,i2] z (fun i h=>IsZip h z TI TO .none/\IsPair h TI (.ref i1) (.ref i2)/\(∃x y,IsPair h TO x y)/\h.IsListIter i1 a i/\h.IsListIter i2 b i) where
 mem:=by simp
 obj:=fun i h st c hc=>by
  obtain⟨hz,hTI,⟨x,y,hTO⟩,⟨o1,e1,_,d1⟩,⟨o2,e2,_,d2⟩⟩:=st
  have e':c=z\/c=TI\/c=TO\/c=i1\/c=i2:=by simpa using hc
  rcases e' with q | q | q | q | q
  ·rw[q];exact⟨_,hz,fun v q=>nomatch q⟩
  ·rw[q];exact⟨_,hTI,fun v q=>nomatch q⟩
  ·rw[q];exact⟨_,hTO,fun v q=>nomatch q⟩
  ·rw[q];exact⟨o1,e1,fun v q=>by rw[d1] at q;cases q⟩
  ·rw[q];exact⟨o2,e2,fun v q=>by rw[d2] at q;cases q⟩
 keep:=fun i h h' st k=>by
  obtain⟨hz,hTI,⟨x,y,hTO⟩,h1,h2⟩:=st
  exact⟨k z (by simp) _ hz,k TI (by simp) _ hTI,⟨x,y,k TO (by simp) _ hTO⟩,h1.at fun o q=>k i1 (by simp) o q,h2.at fun o q=>k i2 (by simp) o q⟩
 item:=by
  intro X hP hw hK hc i pins s σ H E I hf st hg
  subst hP hw hK
  obtain⟨hz,hTI,⟨x0,y0,hTO⟩,h1,h2⟩:=st
  obtain⟨xs,ys,x,y,hqx,hqy,hx,hy⟩:=hg
  obtain⟨its,rv,p,_⟩:=I.list hqx
  obtain⟨its2,rv2,p2,_⟩:=I.list hqy
  obtain⟨u,hu,ru⟩:=rv.get hx
  obtain⟨u2,hu2,ru2⟩:=rv2.get hy
  have hzl:z<s.heap.objs.size:=Heap.lt_size hz
  refine wpAny_pyNext_zip_item D hz hTI hTO h1 h2 p.isList p2.isList (x:=u) (y:=u2) (by simpa using hu) (by simpa using hu2) fun h' z' TO' h1' h2' hT hsz hk=>?_
  refine⟨_,rfl,wpAny_letOwnedTupleGo_zip (s:={ s with heap:=h' }) z' fun h'' z'' sb=>?_⟩
  have hT2:h''.get? s.heap.objs.size=some { cls:=.type "tuple",data:=.seq #[u,u2] }:=(sb.2 _ (Nat.ne_of_gt hzl)).trans hT
  have new:ObjOk X.prog X.w (upd H s.heap.objs.size (.tup [x,y])) h'' s.heap.objs.size (.tup [x,y]):=
   ⟨by show 2<=sizeLine;decide,[u,u2],.cons ru (.cons ru2 .nil),⟨_,hT2,rfl,_,rfl⟩⟩
  have I1:Inv X pins σ (upd H s.heap.objs.size (.tup [x,y])) { s with heap:=h'' }:=
   I.turnedNew (t':=s.toks) (ch:=[z,TI,TO,i1,i2]) (fun c o hb q=>(sb.2 c (fun q'=>hb (by simp[q']))).trans (hk c o (fun q'=>hb (by simp[q'])) (fun q'=>hb (by simp[q'])) (fun q'=>hb (by simp[q'])) (fun q'=>hb (by simp[q'])) q)) hf (Nat.le_refl _) new
  refine⟨.ref s.heap.objs.size,_,I1,rfl,⟨_,x,y,rfl,I.hok.fresh (Nat.le_refl _),rfl,fun l hl=>by rw[I.list_inj hl hqx];exact hx,fun l hl=>by rw[I.list_inj hl hqy];exact hy⟩,⟨z'',?_,⟨u,u2,?_⟩,?_,?_⟩,fun c hcm=>?_⟩
  ·exact (sb.2 _ D.TIz).trans (hk _ _ D.TIz D.TITO D.TIi1 D.TIi2 hTI)
  ·exact (sb.2 _ D.TOz).trans TO'
  ·exact h1'.at fun o q=>(sb.2 _ D.i1z).trans q
  ·exact h2'.at fun o q=>(sb.2 _ D.i2z).trans q
  ·have hlt:c<s.heap.objs.size:=by
    have e':c=z\/c=TI\/c=TO\/c=i1\/c=i2:=by simpa using hcm
    rcases e' with q | q | q | q | q
    ·rw[q];exact hzl
    ·rw[q];exact Heap.lt_size hTI
    ·rw[q];exact Heap.lt_size hTO
    ·rw[q];obtain⟨_,e1,_⟩:=h1;exact Heap.lt_size e1
    ·rw[q];obtain⟨_,e2,_⟩:=h2;exact Heap.lt_size e2
   rw[un10 (Nat.ne_of_lt hlt)]
   exact (hf c hcm).1
 done:=by
  intro X hP hw hK hc i pins s σ H E I hf st hg
  subst hP hw hK
  obtain⟨hz,hTI,⟨x0,y0,hTO⟩,h1,h2⟩:=st
  obtain⟨xs,ys,hqx,hqy,hend⟩:=hg
  obtain⟨its,rv,p,_⟩:=I.list hqx
  obtain⟨its2,rv2,p2,_⟩:=I.list hqy
  have l1:=rv.length
  have l2:=rv2.length
  have he:its.toArray[i]? = none\/its2.toArray[i]? = none:=by
   rcases hend with q | q
   ·exact .inl (by simp;omega)
   ·exact .inr (by simp;omega)
  exact wpAny_pyNext_zip_end (I.ok.hd hc) D hz hTI hTO h1 h2 p.isList p2.isList he fun h' hk=>⟨rfl,I.turnedL (t':=s.toks) (ch:=[z,TI,TO,i1,i2]) (fun c o hb q=>
   hk c o (fun q'=>hb (by simp[q'])) (fun q'=>hb (by simp[q'])) (fun q'=>hb (by simp[q'])) (fun q'=>hb (by simp[q'])) q) hf⟩
 self:=fun A i s Q E st h=>wpAny_pyIter_zip st.1 h
def iZip(K:PySem.W.Frag)(ta:TA):TI:=fun σ H R=>ta σ H fun vs H1=>∃a b xs ys,vs=[.ref a,.ref b]/\SqL K H1 a xs/\SqL K H1 b ys/\R (Itz K a b) H1
theorem pz{X:Cx}{e e2:Expr}{ta:TA}{p pos tpos:Pos}{elts:List Expr}{kk:Nat}(hg:Gl X "zip")(hm:X.mg "zip" = none)(ha:PA X [e,e2] ta)
  (hs:starEach [e,e2] X.env=(false,eval e X.env)::starEach [e2] X.env:=by rfl) (hpl:(backTo pos (starEach [e2] X.env)).any (·.1)=false:=by rfl) :
  PI X (.Tuple elts kk tpos) (.Call (.Name "zip" p) [e,e2] [] pos) (iZip X.K ta):=by
 intro pins s σ H R I h
 refine Call_ (ld_blt I hg hm boot_zip5 (PyProof.Rows.callWith_type1 (thn (ha pos pins s σ H _ I h) fun us s1 ⟨vs,H1,I1,r1,q1⟩=>?_) hs hpl))
 obtain⟨a,b,xs,ys,ex,hqx,hqy,q⟩:=q1
 subst ex
 cases r1 with
 |cons r rr=>
  cases rr with
  |cons r' rr=>
   cases rr
   cases r
   cases r'
   obtain⟨its,rv,p1,_⟩:=I1.list hqx
   obtain⟨its2,rv2,p2,_⟩:=I1.list hqy
   have la:a<s1.heap.objs.size:=p1.lt
   have lb:b<s1.heap.objs.size:=p2.lt
   refine call_zip_2 p1.isList p2.isList fun h' hz hTI hTO h1 h2 hsz hk=>wpAny_pyIter_zip hz ?_
   have I2:Inv X pins σ H1 { s1 with heap:=h' }:=I1.kept (t':=s1.toks) hk
   refine⟨s1.heap.objs.size+4,[s1.heap.objs.size+4,s1.heap.objs.size+2,s1.heap.objs.size+3,s1.heap.objs.size,s1.heap.objs.size+1],_,_,H1,rfl,I2,turn_zip (PySem.W.ktu_apart s1.heap.objs.size a b la lb),⟨hz,hTI,⟨_,_,hTO⟩,h1,h2⟩,fun c hcm=>?_,q⟩
   have e':c=s1.heap.objs.size+4\/c=s1.heap.objs.size+2\/c=s1.heap.objs.size+3\/c=s1.heap.objs.size\/c=s1.heap.objs.size+1:=by simpa using hcm
   have hle:s1.heap.objs.size<=c:=by
    rcases e' with z | z | z | z | z
    ·rw[z];exact Nat.le_add_right _ _
    ·rw[z];exact Nat.le_add_right _ _
    ·rw[z];exact Nat.le_add_right _ _
    ·rw[z];exact Nat.le_refl _
    ·rw[z];exact Nat.le_add_right _ _
   exact I1.fpOk hle (I1.hok.fresh hle)
end L2
section 
namespace Bits
open PySem PyProof.Rows
end Bits
end 
section 
namespace TL
open PySem PySem.Builtin PySem.Builtin.Str PySem.StrLaws
end TL
end 
namespace L2
open PySem PySem.Spec PyProof.Rows
section
variable{X:Cx}{pins:List (Addr×Obj)}{σ:St}{H:Hp}{s:Shared}{Q:VK}
end
section
variable{X:Cx}
end
section
variable{X:Cx}{o e:Expr}{to te:TE}
end
end L2
namespace L2
open PySem PySem.Spec PyProof.Rows
section
variable{X:Cx}
end
end L2
namespace Att
open PySem PySem.W PySem.Calls PyProof.Rows
theorem ints_of_wellAll{P:Params}{h:Heap}:∀(ns:List Int) (vs:List Value),WellAll P h vs (ns.map WData.int)->IntsAre vs ns:=by
 intro ns
 induction ns with
 |nil=>
  intro vs w
  rw[List.map_nil] at w
  cases w
  exact .nil
 |cons n ns ih=>
  intro vs w
  rw[List.map_cons] at w
  cases w with
  |cons a b=>
   cases a
   exact .cons _ _ (ih _ b)
section
variable{prog:Program}{w:World}{A:Around}{E:Value->Shared->Prop}{s:Shared}{K:Frag}
end
end Att
namespace L2
open PySem PySem.Spec PyProof.Rows
theorem vi:∀{vs:List Value}{ns:List Int},IntsAre vs ns->Vals (ns.map V.int) vs
 |_,_,.nil=>.nil
 |_,_,.cons n t h=>.cons ⟨t,rfl⟩ (vi h)
end L2
namespace L2
open PySem PySem.Spec PyProof.Rows
end L2
namespace L2
open PySem PySem.Spec PyProof.Rows
def inClass(s:Stmt)(j:Nat):Stmt:=match s with
 |.ClassDef _ _ _ body _ _ _ _ _ _ _=>body.getD j (.Pass ⟨0,0,0,0⟩)
 |_=>.Pass ⟨0,0,0,0⟩
def defArgs(s:Stmt):Arguments:=match s with
 |.FunctionDef _ a _ _ _ _ _ _ _ _=>a
 |_=>{ posonlyargs:=[],args:=[],vararg:=none,kwonlyargs:=[],kw_defaults:=[],kwarg:=none,defaults:=[] }
def defBody(s:Stmt):List Stmt:=match s with
 |.FunctionDef _ _ b _ _ _ _ _ _ _=>b
 |_=>[]
def defScope(s:Stmt):Scope:=match s with
 |.FunctionDef _ _ _ _ _ _ sc _ _ _=>sc
 |_=>{ kind:=.function,names:=[],isGenerator:=false,isCoroutine:=false }
abbrev E0:XK:=fun _ _ _=>False
structure Fun(K:PySem.W.Frag)(x qual:Str)(st:Stmt)(f:Addr)(fd:FuncData):Prop where
 ex:∃(oc:Value) (od:Option Addr) (kV doc pm:Value) (an:Option Addr) (cdv ct:Value) (osl:Array (Option Value)),
  fd=PySem.W.fnOf x qual (defArgs st) (defBody st) (defScope st) .none kV doc pm an cdv ct/\K.lookup f=some ⟨oc,od,.func fd,osl⟩/\PySem.W.codeIn K cdv qual=true
 kp:PySem.W.keepIn K (.ref f)=true
section
variable{P:Program}{w:World}{K:PySem.W.Frag}{mg:Str->Option Value}{base:Heap}
theorem Fun.binds{x qual:Str}{st:Stmt}{f:Addr}{fd:FuncData}{ps:List Str}(F:Fun K x qual st f fd)
  (h:∀(kV doc pm:Value) (an:Option Addr) (cdv ct:Value) (us:List Value),us.length=ps.length->bindArgs (PySem.W.fnOf x qual (defArgs st) (defBody st) (defScope st) .none kV doc pm an cdv ct) ⟨us,[]⟩=pure (ps.zip us)):Binds K fd ps []:=by
 obtain⟨oc,od,kV,doc,pm,an,cdv,ct,osl,rfl,lk,hcd⟩:=F.ex
 exact .all (h kV doc pm an cdv ct)
theorem fun_mk{x qual:Str}{st:Stmt}{f:Addr}{oc:Value}{od an:Option Addr}{osl:Array (Option Value)}{kV doc pm cdv ct:Value}(l:K.lookup f=some ⟨oc,od,.func (PySem.W.fnOf x qual (defArgs st) (defBody st) (defScope st) .none kV doc pm an cdv ct),osl⟩)
  (c:PySem.W.codeIn K cdv qual=true) (k:PySem.W.keepIn K (.ref f)=true):Fun K x qual st f (PySem.W.fnOf x qual (defArgs st) (defBody st) (defScope st) .none kV doc pm an cdv ct):=⟨⟨oc,od,kV,doc,pm,an,cdv,ct,osl,rfl,l,c⟩,k⟩
end
section
variable{X:Cx}
theorem pv(i:Nat){x:Str}{pos:Pos}(hN:X.N[i]? = some x:=by rfl)(hv:Vis X.env.scope x:=by first | exact Or.inl rfl | exact Or.inr (Or.inl rfl) | exact Or.inr (Or.inr rfl))(hd:(x==("__debug__":Str))=false:=by decide)
  (hcd:(x==("__classdict__":Str))=false:=by decide):PE X (.Name x pos) (tVar i):=pe_var hN hv hd hcd
end
theorem iteF{A B:Prop}(h:B):if false=true then A else B:=by
 rw[if_neg Bool.false_ne_true]
 exact h
theorem iteT{A B:Prop}(h:A):if true=true then A else B:=by
 rw[if_pos rfl]
 exact h
def Same(H H':Hp):Prop:=∀b o,H b=some o->H' b=some o
theorem Same.refl(H:Hp):Same H H:=fun _ _ h=>h
theorem Same.trans{H H1 H2:Hp}(a:Same H H1)(b:Same H1 H2):Same H H2:=fun c o h=>b c o (a c o h)
theorem Same.free{H H':Hp}(e:Same H H'){l:Addr}(h:H' l=Option.none):H l=Option.none:=by
 cases q:H l with
 |none=>rfl
 |some o=>
  rw[e l o q] at h
  cases h
theorem Same.seq{K:PySem.W.Frag}{H H':Hp}{a:Addr}{xs:List V}(e:Same H H')(h:SqL K H a xs):SqL K H' a xs:=by
 rcases h with (h | ⟨o,h⟩) | h
 ·exact .inl (.inl (e _ _ h))
 ·exact .inl (.inr ⟨o,e _ _ h⟩)
 ·exact .inr h
section
variable{κ:Type}[DecidableEq κ]
end
end L2
end
noncomputable section
namespace St
open PySem
def lcg(M:Nat):Nat->Nat->Nat
 |0,x=>x
 |m+1,x=>lcg M m ((x*5+1)%M)
theorem lcg_lt{M:Nat}(hM:0<M):∀(m x:Nat),x<M->lcg M m x<M
 |0,_,h=>h
 |m+1,x,_=>lcg_lt hM m _ (Nat.mod_lt _ hM)
theorem lcg_add(M:Nat):∀(a b x:Nat),lcg M (a+b) x=lcg M b (lcg M a x)
 |0,b,x=>by rw[Nat.zero_add];rfl
 |a+1,b,x=>by
  rw[Nat.succ_add]
  exact lcg_add M a b _
theorem lcg_pow{M:Nat}:∀(m x:Nat),(4*lcg M m x+1)%M=(5^m*(4*x+1))%M
 |0,x=>by simp[lcg]
 |m+1,x=>by
  show (4*lcg M m ((x*5+1)%M)+1)%M=_
  rw[lcg_pow m]
  have:(4*((x*5+1)%M)+1)%M=(5*(4*x+1))%M:=by
   rw[Nat.add_mod,Nat.mul_mod,Nat.mod_mod,<-Nat.mul_mod,<-Nat.add_mod]
   congr 1;omega
  rw[Nat.mul_mod,this,<-Nat.mul_mod,Nat.pow_succ,Nat.mul_assoc]
theorem odd_five:∀k:Nat,∃e,5^(2^k)=1+2^(k+2)*(2*e+1)
 |0=>⟨0,rfl⟩
 |k+1=>by
  obtain⟨e,h⟩:=odd_five k
  refine⟨e+2^k*(2*e+1)*(2*e+1),?_⟩
  rw[Nat.pow_succ 2 k,Nat.pow_mul,h,show k+1+2=(k+2)+1 from rfl,Nat.pow_succ 2 (k+2)]
  have e2:2^(k+2)=4*2^k:=by rw[Nat.pow_add];omega
  rw[e2]
  generalize 2^k=y
  grind
def stepN:Nat->Nat->Nat
 |0,x=>x
 |m+1,x=>stepN m (x*5+1)
theorem stepN_mod{M:Nat}:∀(m x:Nat),lcg M m (x%M)%M=stepN m x%M
 |0,x=>by simp[lcg,stepN]
 |m+1,x=>by
  show lcg M m ((x%M*5+1)%M)%M=stepN m (x*5+1)%M
  rw[<-stepN_mod m (x*5+1)]
  congr 2
  rw[Nat.add_mod,Nat.mul_mod,Nat.mod_mod,<-Nat.mul_mod,<-Nat.add_mod]
theorem stepN_eq:∀(m x:Nat),4*stepN m x+1=5^m*(4*x+1)
 |0,x=>by simp[stepN]
 |m+1,x=>by
  show 4*stepN m (x*5+1)+1=_
  rw[stepN_eq m,Nat.pow_succ,Nat.mul_assoc]
  congr 1;omega
theorem stepN_add:∀(a b x:Nat),stepN (a+b) x=stepN b (stepN a x)
 |0,b,x=>by rw[Nat.zero_add];rfl
 |a+1,b,x=>by rw[Nat.succ_add];exact stepN_add a b _
theorem stepN_half(k x:Nat):stepN (2^k) x%2^(k+1)=(x+2^k)%2^(k+1):=by
 obtain⟨e,h⟩:=odd_five k
 have q:=stepN_eq (2^k) x
 rw[h] at q
 have e2:2^(k+2)=4*2^k:=by rw[Nat.pow_add];omega
 have e1:2^(k+1)=2*2^k:=by rw[Nat.pow_succ];omega
 rw[e2] at q
 rw[e1]
 have:stepN (2^k) x=(x+2^k)+2*2^k*(e+2*x*(2*e+1)):=by
  generalize 2^k=y at q ⊢
  have:4*stepN y x=4*((x+y)+2*y*(e+2*x*(2*e+1))):=by grind
  omega
 rw[this,Nat.add_mul_mod_self_left]
theorem meets:∀(k x t:Nat),t<2^k->∃m,m<2^k/\stepN m x%2^k=t
 |0,x,t,h=>⟨0,by simp,by rw[Nat.pow_zero] at h ⊢;omega⟩
 |k+1,x,t,h=>by
  have hp:0<2^k:=Nat.pow_pos (by decide)
  have e1:2^(k+1)=2*2^k:=by rw[Nat.pow_succ];omega
  obtain⟨m,hm,q⟩:=meets k x (t%2^k) (Nat.mod_lt _ hp)
  by_cases hs:stepN m x%2^(k+1)=t
  ·exact⟨m,by omega,hs⟩
  ·refine⟨m+2^k,by omega,?_⟩
   rw[stepN_add,stepN_half]
   rw[e1] at hs h ⊢
   generalize hy:stepN m x=y at *
   generalize hz:2^k=z at *
   have a1:y%(2*z)=y%z\/y%(2*z)=y%z+z:=by
    have:=Nat.mod_mul_left_div_self y z 2
    have h1:=Nat.div_add_mod (y%(2*z)) z
    have h2:y%(2*z)%z=y%z:=Nat.mod_mul_left_mod y 2 z
    have h3:y%(2*z)<2*z:=Nat.mod_lt _ (by omega)
    have h4:y%(2*z)/z<2:=(Nat.div_lt_iff_lt_mul hp).mpr h3
    rw[h2] at h1
    have h5:y%(2*z)/z=0\/y%(2*z)/z=1:=by omega
    rcases h5 with h5 | h5<;>rw[h5] at h1<;>omega
   have a2:t=t%z\/t=t%z+z:=by
    have h1:=Nat.div_add_mod t z
    have h4:t/z<2:=(Nat.div_lt_iff_lt_mul hp).mpr h
    have h5:t/z=0\/t/z=1:=by generalize t/z=v at h4;omega
    rcases h5 with h5 | h5<;>rw[h5] at h1<;>omega
   have a3:(y+z)%(2*z)=(y%(2*z)+z)%(2*z):=by rw[Nat.mod_add_mod]
   have lt:=Nat.mod_lt t hp
   rw[a3]
   rcases a1 with a1 | a1
   ·rw[a1,q]
    rcases a2 with a2 | a2
    ·exfalso;apply hs;omega
    ·rw[Nat.mod_eq_of_lt (by omega)];omega
   ·rw[a1,q]
    rcases a2 with a2 | a2
    ·rw[show t%z+z+z=t%z+2*z by omega,Nat.add_mod_right,Nat.mod_eq_of_lt (by omega)];omega
    ·exfalso;apply hs;omega
theorem lm{k x t:Nat}(hx:x<2^k)(h:t<2^k):∃m,m<2^k/\lcg (2^k) m x=t:=by
 obtain⟨m,hm,q⟩:=meets k x t h
 refine⟨m,hm,?_⟩
 have:=stepN_mod (M:=2^k) m x
 rw[Nat.mod_eq_of_lt hx,q,Nat.mod_eq_of_lt (lcg_lt (Nat.pow_pos (by decide)) m x hx)] at this
 exact this
end St
end
noncomputable section
namespace St
open PySem PySem.SetTable
def Up(xs:Array Nat):Prop:=∀(i j a b:Nat),xs[i]? = some a->xs[j]? = some b->i<j->a<b
theorem Up.inj{xs:Array Nat}(u:Up xs){i j a:Nat}(h1:xs[i]? = some a)(h2:xs[j]? = some a):i=j:=by
 rcases Nat.lt_trichotomy i j with h | h | h
 ·exact absurd (u i j a a h1 h2 h) (Nat.lt_irrefl _)
 ·exact h
 ·exact absurd (u j i a a h2 h1 h) (Nat.lt_irrefl _)
theorem bg{xs:Array Nat}(u:Up xs)(j:Nat):∀(fuel lo hi:Nat),lo<=hi->hi<=xs.size->hi-lo<=fuel ->
  (∀i a,xs[i]? = some a->i<lo->a<j)->(∀i a,xs[i]? = some a->hi<=i->j<=a) ->
  below.go xs j fuel lo hi<=xs.size/\∀i a,xs[i]? = some a->(i<below.go xs j fuel lo hi↔a<j)
 |0,lo,hi,h1,h2,h3,l,r=>by
  have e:lo=hi:=by omega
  subst e
  refine⟨h2,fun i a e=>⟨fun q=>l i a e q,fun q=>?_⟩⟩
  show i<lo
  by_cases z:i<lo
  ·exact z
  ·have:=r i a e (by omega);omega
 |fuel+1,lo,hi,h1,h2,h3,l,r=>by
  unfold below.go
  by_cases hlt:lo<hi
  ·rw[if_pos hlt]
   have hm:(lo+hi)/2<xs.size:=by omega
   have em:xs[(lo+hi)/2]? = some xs[(lo+hi)/2]:=Array.getElem?_eq_getElem hm
   have ed:xs.getD ((lo+hi)/2) j=xs[(lo+hi)/2]:=by simp[Array.getD,hm]
   simp only[ed]
   by_cases hc:xs[(lo+hi)/2]<j
   ·rw[if_pos hc]
    refine bg u j fuel _ _ (by omega) h2 (by omega) (fun i a e q=>?_) r
    rcases Nat.lt_or_ge i ((lo+hi)/2) with z | z
    ·exact Nat.lt_trans (u i _ a _ e em z) hc
    ·have:i=(lo+hi)/2:=by omega
     subst this
     rw[em] at e;cases e;exact hc
   ·rw[if_neg hc]
    refine bg u j fuel _ _ (by omega) (by omega) (by omega) l (fun i a e q=>?_)
    rcases Nat.lt_or_ge ((lo+hi)/2) i with z | z
    ·have:=u _ i _ a em e z;omega
    ·have:i=(lo+hi)/2:=by omega
     subst this
     rw[em] at e;cases e;omega
  ·rw[if_neg hlt]
   have e:lo=hi:=by omega
   subst e
   refine⟨h2,fun i a e=>⟨fun q=>l i a e q,fun q=>?_⟩⟩
   by_cases z:i<lo
   ·exact z
   ·have:=r i a e (by omega);omega
theorem bs10{xs:Array Nat}(u:Up xs)(j:Nat):below xs j<=xs.size/\∀i a,xs[i]? = some a->(i<below xs j↔a<j):=by
 unfold below
 refine bg u j _ 0 _ (Nat.zero_le _) (Nat.le_refl _) (by omega) (fun i a _ q=>absurd q (by omega)) (fun i a e q=>?_)
 obtain⟨h,_⟩:=Array.getElem?_eq_some_iff.mp e
 omega
theorem below_at{xs:Array Nat}(u:Up xs){i j:Nat}(h:xs[i]? = some j):below xs j=i:=by
 obtain⟨h1,h2⟩:=bs10 u j
 have a1:=h2 i j h
 obtain⟨hi,_⟩:=Array.getElem?_eq_some_iff.mp h
 rcases Nat.lt_trichotomy (below xs j) i with z | z | z
 ·have eb:xs[below xs j]? = some xs[below xs j]:=Array.getElem?_eq_getElem (by omega)
  have:=(h2 _ _ eb)
  have lt:=u _ i _ j eb h z
  omega
 ·exact z
 ·omega
theorem not_at{xs:Array Nat}(u:Up xs){j:Nat}(h:∀i:Nat,xs[i]?≠some j):(xs[below xs j]? == some j)=false:=by
 cases e:xs[below xs j]? with
 |none=>rfl
 |some a=>
  have:a≠j:=fun z=>h _ (by rw[e,z])
  simpa using this
structure TOk(t:SetTable)(n:Nat):Prop where
 size:t.place.size=n
 up:Up t.place
 le:∀(i j:Nat),t.place[i]? = some j->j<=t.mask
 dum:t.dummies = #[]
 pow:∃k,3<=k/\t.mask+1=2^k
theorem TOk.live{t:SetTable}{n:Nat}(o:TOk t n){i j:Nat}(h:t.place[i]? = some j):t.slot j=.live i:=by
 unfold SetTable.slot
 simp only[below_at o.up h,h,beq_self_eq_true,if_true]
theorem TOk.empty{t:SetTable}{n:Nat}(o:TOk t n){j:Nat}(h:∀i:Nat,t.place[i]?≠some j):t.slot j=.empty:=by
 unfold SetTable.slot
 simp only[not_at o.up h,has,o.dum]
 rfl
theorem TOk.slot_cases{t:SetTable}{n:Nat}(o:TOk t n)(j:Nat):(∃i,t.place[i]? = some j/\t.slot j=.live i)\/((∀i:Nat,t.place[i]?≠some j)/\t.slot j=.empty):=by
 by_cases h:∃i:Nat,t.place[i]? = some j
 ·obtain⟨i,h⟩:=h
  exact .inl ⟨i,h,o.live h⟩
 ·have h':∀i:Nat,t.place[i]?≠some j:=fun i e=>h ⟨i,e⟩
  exact .inr ⟨h',o.empty h'⟩
theorem TOk.fits{t:SetTable}{n:Nat}(o:TOk t n):t.fill=n:=by
 unfold SetTable.fill;rw[o.size,o.dum];rfl
theorem ig{α:Type}(xs:Array α)(p:Nat)(x:α)(hp:p<=xs.size)(i:Nat) :
  (insertAt xs p x)[i]? = if i<p then xs[i]? else if i=p then some x else xs[i-1]?:=by
 unfold insertAt
 have s1:((xs.extract 0 p).push x).size=p+1:=by simp;omega
 by_cases h1:i<p
 ·rw[if_pos h1,Array.getElem?_append_left (by omega),Array.getElem?_push_lt (by simp;omega)]
  simp[Array.getElem?_eq_getElem (show i<xs.size by omega)]
 ·rw[if_neg h1]
  by_cases h2:i=p
  ·subst h2
   rw[if_pos rfl,Array.getElem?_append_left (by omega)]
   have:(xs.extract 0 i).size=i:=by simp;omega
   rw[Array.getElem?_push,if_pos this.symm]
  ·rw[if_neg h2,Array.getElem?_append_right (by omega),s1]
   rw[Array.getElem?_extract]
   by_cases h3:i-(p+1)<xs.size-p
   ·rw[if_pos (by simp;omega)]
    congr 1;omega
   ·rw[if_neg (by simp;omega)]
    exact (Array.getElem?_eq_none (by omega)).symm
theorem is12{α:Type}(xs:Array α)(p:Nat)(x:α)(hp:p<=xs.size):(insertAt xs p x).size=xs.size+1:=by
 unfold insertAt;simp;omega
theorem up_insert{xs:Array Nat}(u:Up xs){j:Nat}(h:∀i:Nat,xs[i]?≠some j):Up (insertAt xs (below xs j) j):=by
 obtain⟨hp,hs⟩:=bs10 u j
 intro a b x y ea eb hab
 rw[ig _ _ _ hp] at ea eb
 have ge:∀i c,xs[i]? = some c->¬i<below xs j->j<c:=fun i c e q=>by
  have h1:¬c<j:=fun z=>q ((hs i c e).mpr z)
  have h2:c≠j:=fun z=>h i (by rw[e,z])
  omega
 split at ea
 ·split at eb
  ·exact u a b x y ea eb hab
  ·split at eb
   ·cases eb
    exact (hs a x ea).mp (by assumption)
   ·have h1:=(hs a x ea).mp (by assumption)
    have h2:=ge (b-1) y eb (by omega)
    omega
 ·split at ea
  ·cases ea
   rw[if_neg (by omega),if_neg (by omega)] at eb
   exact ge (b-1) y eb (by omega)
  ·rw[if_neg (by omega),if_neg (by omega)] at eb
   exact u (a-1) (b-1) x y ea eb (by omega)
theorem mem_insert{xs:Array Nat}{p j c:Nat}(hp:p<=xs.size):(∃i:Nat,(insertAt xs p j)[i]? = some c)↔c=j\/∃i:Nat,xs[i]? = some c:=by
 constructor
 ·rintro⟨i,e⟩
  rw[ig _ _ _ hp] at e
  split at e
  ·exact .inr ⟨_,e⟩
  ·split at e
   ·cases e;exact .inl rfl
   ·exact .inr ⟨_,e⟩
 ·rintro (rfl | ⟨i,e⟩)
  ·exact⟨p,by rw[ig _ _ _ hp,if_neg (by omega),if_pos rfl]⟩
  ·by_cases h:i<p
   ·exact⟨i,by rw[ig _ _ _ hp,if_pos h];exact e⟩
   ·exact⟨i+1,by rw[ig _ _ _ hp,if_neg (by omega),if_neg (by omega)];exact e⟩
theorem TOk.put{t:SetTable}{n j:Nat}(o:TOk t n)(h:∀i:Nat,t.place[i]?≠some j)(hj:j<=t.mask) :
  (t.put j).2=below t.place j/\TOk (t.put j).1 (n+1)/\(t.put j).1.place=insertAt t.place (below t.place j) j/\(t.put j).1.mask=t.mask/\(t.put j).1.plain=t.plain/\(t.put j).1.led=t.led/\(t.put j).1.moves=t.moves:=by
 obtain⟨hp,_⟩:=bs10 o.up j
 have hd:has t.dummies j=false:=by rw[o.dum];rfl
 have ep:t.put j=({ t with place:=insertAt t.place (below t.place j) j },below t.place j):=by
  unfold SetTable.put
  rw[hd]
  rfl
 rw[ep]
 refine⟨rfl,⟨?_,up_insert o.up h,fun i c e=>?_,o.dum,o.pow⟩,rfl,rfl,rfl,rfl,rfl⟩
 ·show (insertAt t.place (below t.place j) j).size=n+1
  rw[is12 _ _ _ hp,o.size]
 ·rcases (mem_insert hp).mp ⟨i,e⟩ with rfl | ⟨i',e'⟩
  ·exact hj
  ·exact o.le i' c e'
end St
end
noncomputable section
namespace St
open PySem PySem.SetTable
def pr(t:SetTable)(h:Int):Nat->Probe
 |0=>t.probeStart h
 |m+1=>t.advance (pr t h m)
def lp(mask:Nat)(h:Int):Nat->Nat×Nat
 |0=>(bits h%(mask+1),bits h)
 |l+1=>leap mask (lp mask h l).1 (lp mask h l).2
def runLen(mask i:Nat):Nat:=runEnd mask i-i
theorem runLen_le(mask i:Nat):runLen mask i<=9:=by unfold runLen runEnd;split<;>omega
theorem run_le{mask i d:Nat}(hi:i<=mask)(hd:d<=runLen mask i):i+d<=mask:=by unfold runLen runEnd at hd;split at hd<;>omega
def idx(mask:Nat)(h:Int):Nat->Nat
 |0=>0
 |l+1=>idx mask h l+runLen mask (lp mask h l).1+1
theorem idx_le(mask:Nat)(h:Int):∀l,idx mask h l<=10*l
 |0=>Nat.le_refl _
 |l+1=>by
  have:=idx_le mask h l
  have:=runLen_le mask (lp mask h l).1
  unfold idx;omega
theorem pr_run(t:SetTable)(h:Int):∀l d,d<=runLen t.mask (lp t.mask h l).1 ->
  pr t h (idx t.mask h l+d) = { j:=(lp t.mask h l).1+d,more:=runLen t.mask (lp t.mask h l).1-d,i:=(lp t.mask h l).1,perturb:=(lp t.mask h l).2,dummy:=none }:=by
 intro l
 induction l with
 |zero=>
  intro d
  induction d with
  |zero=>intro _;rfl
  |succ d ih=>
   intro hd
   have q:=ih (by omega)
   rw[<-Nat.add_assoc]
   show t.advance (pr t h (idx t.mask h 0+d))=_
   rw[q]
   unfold SetTable.advance
   simp only
   rw[if_pos (by omega)]
   simp only[Probe.mk.injEq,true_and,and_true]
   omega
 |succ l il=>
  intro d
  induction d with
  |zero=>
   intro _
   have q:=il (runLen t.mask (lp t.mask h l).1) (Nat.le_refl _)
   show pr t h (idx t.mask h l+runLen t.mask (lp t.mask h l).1+1)=_
   show t.advance (pr t h (idx t.mask h l+runLen t.mask (lp t.mask h l).1))=_
   rw[q]
   unfold SetTable.advance
   simp only
   rw[if_neg (by omega)]
   rfl
  |succ d ih=>
   intro hd
   have q:=ih (by omega)
   rw[<-Nat.add_assoc]
   show t.advance (pr t h (idx t.mask h (l+1)+d))=_
   rw[q]
   unfold SetTable.advance
   simp only
   rw[if_pos (by omega)]
   simp only[Probe.mk.injEq,true_and,and_true]
   omega
theorem in_run(mask:Nat)(h:Int):∀m,∃l d,d<=runLen mask (lp mask h l).1/\m=idx mask h l+d
 |0=>⟨0,0,Nat.zero_le _,rfl⟩
 |m+1=>by
  obtain⟨l,d,hd,e⟩:=in_run mask h m
  by_cases q:d<runLen mask (lp mask h l).1
  ·exact⟨l,d+1,q,by omega⟩
  ·refine⟨l+1,0,Nat.zero_le _,?_⟩
   show m+1=idx mask h l+runLen mask (lp mask h l).1+1+0
   omega
theorem lp_lt{mask:Nat}(h:Int):∀l,(lp mask h l).1<=mask
 |0=>Nat.le_of_lt_succ (Nat.mod_lt _ (Nat.succ_pos _))
 |l+1=>Nat.le_of_lt_succ (Nat.mod_lt _ (Nat.succ_pos _))
theorem pr_le(t:SetTable)(h:Int)(m:Nat):(pr t h m).j<=t.mask/\(pr t h m).dummy=none:=by
 obtain⟨l,d,hd,rfl⟩:=in_run t.mask h m
 rw[pr_run t h l d hd]
 exact⟨run_le (lp_lt h l) hd,rfl⟩
theorem bits_lt(h:Int):bits h<2^64:=by
 unfold bits
 have h1:(0:Int)<=h%2^64:=Int.emod_nonneg _ (by decide)
 have h2:h%2^64<2^64:=Int.emod_lt_of_pos _ (by decide)
 omega
theorem lp_pert{mask:Nat}{h:Int}:∀l,(lp mask h l).2=bits h/32^l
 |0=>by show bits h=_;simp
 |l+1=>by
  show (lp mask h l).2/32=_
  rw[lp_pert l,Nat.div_div_eq_div_mul,Nat.pow_succ]
theorem lp_lcg(mask:Nat)(h:Int):∀m,(lp mask h (12+m)).1=lcg (mask+1) m (lp mask h 12).1
 |0=>rfl
 |m+1=>by
  have z:(lp mask h (12+m)).2/32=0:=by
   rw[lp_pert,Nat.div_div_eq_div_mul,<-Nat.pow_succ]
   refine Nat.div_eq_of_lt (Nat.lt_of_lt_of_le (bits_lt h) ?_)
   exact Nat.le_trans (show 2^64<=32^13 by decide) (Nat.pow_le_pow_right (by decide) (by omega))
  show ((lp mask h (12+m)).1*5+1+(lp mask h (12+m)).2/32)%(mask+1)=_
  rw[z,Nat.add_zero,lp_lcg mask h m,lcg_add (mask+1) m 1,lcg,lcg]
theorem some_free{t:SetTable}{n:Nat}(o:TOk t n)(hn:n<=t.mask):∃j,j<=t.mask/\∀i:Nat,t.place[i]?≠some j:=by
 refine Classical.byContradiction fun z=>?_
 have all:∀j,j<=t.mask->∃i,t.place[i]? = some j:=fun j hj=>Classical.byContradiction fun q=>z ⟨j,hj,fun i e=>q ⟨i,e⟩⟩
 have key:∀j,j<=t.mask->∀i,t.place[i]? = some j->j<=i:=by
  intro j
  induction j with
  |zero=>intro _ i _;exact Nat.zero_le _
  |succ j ih=>
   intro hj i e
   obtain⟨i',e'⟩:=all j (by omega)
   have h1:=ih (by omega) i' e'
   rcases Nat.lt_trichotomy i' i with q | q | q
   ·omega
   ·subst q;rw[e] at e';cases e'
   ·have:=o.up _ _ _ _ e e' q;omega
 obtain⟨i,e⟩:=all t.mask (Nat.le_refl _)
 have h1:=key _ (Nat.le_refl _) i e
 obtain⟨h2,_⟩:=Array.getElem?_eq_some_iff.mp e
 have:=o.size
 omega
def Free(t:SetTable)(j:Nat):Prop:=∀i:Nat,t.place[i]?≠some j
theorem ef{p:Nat->Prop}:∀m,p m->∃f,f<=m/\p f/\∀i,i<f->¬p i:=by
 intro m
 induction m using Nat.strongRecOn with
 |ind m ih=>
  intro h
  by_cases q:∃i,i<m/\p i
  ·obtain⟨i,hi,hp⟩:=q
   obtain⟨f,h1,h2,h3⟩:=ih i hi hp
   exact⟨f,by omega,h2,h3⟩
  ·exact⟨m,Nat.le_refl _,h,fun i hi hp=>q ⟨i,hi,hp⟩⟩
theorem first_free{t:SetTable}{n:Nat}(o:TOk t n)(hn:n<=t.mask)(h:Int):∃T,T<=10*(12+t.mask)/\Free t (pr t h T).j/\∀m,m<T->¬Free t (pr t h m).j:=by
 obtain⟨j,hj,fj⟩:=some_free o hn
 obtain⟨k,hk,ek⟩:=o.pow
 have hx:(lp t.mask h 12).1<2^k:=by rw[<-ek];exact Nat.lt_succ_of_le (lp_lt h 12)
 obtain⟨m,hm,e⟩:=lm hx (show j<2^k by omega)
 rw[<-ek,<-lp_lcg] at e
 have hpr:=pr_run t h (12+m) 0 (Nat.zero_le _)
 have hfree:Free t (pr t h (idx t.mask h (12+m)+0)).j:=by
  rw[hpr];show Free t ((lp t.mask h (12+m)).1+0)
  rw[e];exact fj
 obtain⟨T,h1,h2,h3⟩:=ef (p:=fun m=>Free t (pr t h m).j) _ hfree
 have:=idx_le t.mask h (12+m)
 exact⟨T,by omega,h2,h3⟩
theorem probe_spec{t:SetTable}{n:Nat}(o:TOk t n)(hashAt:Nat->Int)(h:Int){T:Nat}(hT:Free t (pr t h T).j)(hl:∀m,m<T->¬Free t (pr t h m).j):∀(fuel m:Nat),m<=T->T-m<fuel ->
  ((∀c,m<=c->c<T->∀i,t.place[i]? = some (pr t h c).j->hashAt i≠h)/\probe.go t hashAt h fuel (pr t h m)=some (.empty (pr t h T).j none)) \/
  (∃c i,m<=c/\c<T/\t.place[i]? = some (pr t h c).j/\hashAt i=h/\(∀c',m<=c'->c'<c->∀i,t.place[i]? = some (pr t h c').j->hashAt i≠h) /\
   probe.go t hashAt h fuel (pr t h m)=some (.candidate (pr t h c).j i (pr t h (c+1))))
 |0,m,_,h2=>by omega
 |fuel+1,m,h1,h2=>by
  rcases o.slot_cases (pr t h m).j with ⟨i,e,es⟩ | ⟨e,es⟩
  ·have hm:m<T:=by
    rcases Nat.lt_or_ge m T with q | q
    ·exact q
    ·have:m=T:=by omega
     subst this;exact absurd e (hT i)
   by_cases hh:hashAt i=h
   ·right
    refine⟨m,i,Nat.le_refl _,hm,e,hh,fun c' a b=>by omega,?_⟩
    unfold probe.go
    simp only[es,hh,beq_self_eq_true,if_true]
    rfl
   ·have hs:probe.go t hashAt h (fuel+1) (pr t h m)=probe.go t hashAt h fuel (pr t h (m+1)):=by
     conv=>lhs;unfold probe.go
     have:(hashAt i==h)=false:=by simpa using hh
     simp only[es,this,Bool.false_eq_true,if_false]
     rfl
    have uniq:∀i',t.place[i']? = some (pr t h m).j->hashAt i'≠h:=fun i' e'=>by rw[o.up.inj e' e];exact hh
    rw[hs]
    rcases probe_spec o hashAt h hT hl fuel (m+1) hm (by omega) with ⟨a,b⟩ | ⟨c,i2,a1,a2,a3,a4,a5,a6⟩
    ·left
     refine⟨fun c h3 h4 i' e'=>?_,b⟩
     rcases Nat.eq_or_lt_of_le h3 with q | q
     ·subst q;exact uniq i' e'
     ·exact a c q h4 i' e'
    ·right
     refine⟨c,i2,by omega,a2,a3,a4,fun c' h3 h4 i' e'=>?_,a6⟩
     rcases Nat.eq_or_lt_of_le h3 with q | q
     ·subst q;exact uniq i' e'
     ·exact a5 c' q h4 i' e'
  ·have hm:m=T:=by
    rcases Nat.lt_or_ge m T with q | q
    ·exact absurd e (hl m q)
    ·omega
   subst hm
   left
   refine⟨fun c a b=>by omega,?_⟩
   unfold probe.go
   simp only[es,(pr_le t h m).2]
theorem probe_at{t:SetTable}{n:Nat}(o:TOk t n)(hashAt:Nat->Int)(h:Int){T:Nat}(hT:Free t (pr t h T).j)(hl:∀m,m<T->¬Free t (pr t h m).j)(hb:T<=10*(12+t.mask)){m:Nat}(hm:m<=T) :
  ((∀c,m<=c->c<T->∀i,t.place[i]? = some (pr t h c).j->hashAt i≠h)/\t.probe hashAt h (pr t h m)=some (.empty (pr t h T).j none)) \/
  (∃c i,m<=c/\c<T/\t.place[i]? = some (pr t h c).j/\hashAt i=h/\(∀c',m<=c'->c'<c->∀i,t.place[i]? = some (pr t h c').j->hashAt i≠h) /\
   t.probe hashAt h (pr t h m)=some (.candidate (pr t h c).j i (pr t h (c+1)))):=by
 unfold SetTable.probe
 exact probe_spec o hashAt h hT hl _ m hm (by unfold turns;omega)
end St
end
noncomputable section
namespace St
open PySem PySem.SetTable
def tb(mask:Nat):SetTable:={ mask,place:=#[],dummies:=#[],finger:=0,led:=false,moves:=0,plain:=false }
def pj(mask:Nat)(h:Int)(m:Nat):Nat:=(pr (tb mask) h m).j
theorem pr_tb(t:SetTable)(h:Int):∀m,pr t h m=pr (tb t.mask) h m
 |0=>rfl
 |m+1=>by
  show t.advance (pr t h m)=(tb t.mask).advance (pr (tb t.mask) h m)
  rw[pr_tb t h m]
  rfl
theorem pj_of(t:SetTable)(h:Int)(m:Nat):(pr t h m).j=pj t.mask h m:=by rw[pr_tb];rfl
theorem pj_run(mask:Nat)(h:Int)(l d:Nat)(hd:d<=runLen mask (lp mask h l).1):pj mask h (idx mask h l+d)=(lp mask h l).1+d:=by
 exact congrArg Probe.j (pr_run (tb mask) h l d hd)
theorem pj_le(mask:Nat)(h:Int)(m:Nat):pj mask h m<=mask:=(pr_le (tb mask) h m).1
def Rch(mask:Nat)(occ:Nat->Prop)(h:Int)(j:Nat):Prop:=∃c,pj mask h c=j/\∀m,m<c->occ (pj mask h m)
theorem Rch.mono{mask:Nat}{occ occ':Nat->Prop}{h:Int}{j:Nat}(r:Rch mask occ h j)(i:∀x,occ x->occ' x):Rch mask occ' h j:=
 let ⟨c,e,a⟩:=r;⟨c,e,fun m hm=>i _ (a m hm)⟩
theorem idx_mono(mask:Nat)(h:Int):∀{a b:Nat},a<=b->idx mask h a<=idx mask h b:=by
 intro a b hab
 induction hab with
 |refl=>exact Nat.le_refl _
 |step _ ih=>exact Nat.le_trans ih (by show _<=idx mask h _+_+1;omega)
theorem idx_lt(mask:Nat)(h:Int){a b:Nat}(hab:a<b):idx mask h a<idx mask h b:=
 Nat.lt_of_lt_of_le (show idx mask h a<idx mask h (a+1) by show _<idx mask h a+_+1;omega) (idx_mono mask h hab)
theorem first_free'{mask k:Nat}(hk:mask+1=2^k)(occ:Nat->Prop)(hf:∃j,j<=mask/\¬occ j)(h:Int):∃T,T<=idx mask h (12+mask)/\¬occ (pj mask h T)/\∀m,m<T->occ (pj mask h m):=by
 obtain⟨j,hj,fj⟩:=hf
 have hx:(lp mask h 12).1<2^k:=by rw[<-hk];exact Nat.lt_succ_of_le (lp_lt h 12)
 obtain⟨m,hm,e⟩:=lm hx (show j<2^k by omega)
 rw[<-hk,<-lp_lcg] at e
 have hfree:¬occ (pj mask h (idx mask h (12+m)+0)):=by
  rw[pj_run mask h _ 0 (Nat.zero_le _),Nat.add_zero,e];exact fj
 obtain⟨T,h1,h2,h3⟩:=ef (p:=fun m=>¬occ (pj mask h m)) _ hfree
 have:=idx_mono mask h (show 12+m<=12+mask by omega)
 exact⟨T,by omega,h2,fun m hm=>Classical.byContradiction (h3 m hm)⟩
def oc(owner:Array (Option Nat))(j:Nat):Prop:=∃k,owner[j]? = some (some k)
theorem free_spec{mask:Nat}{owner:Array (Option Nat)}(hs:owner.size=mask+1)(h:Int){T:Nat}(hT:¬oc owner (pj mask h T)):∀(fuel l:Nat),idx mask h l<=T->T<idx mask h (l+fuel) ->
  (∀m,idx mask h l<=m->m<T->oc owner (pj mask h m))->layClean.free mask owner fuel (lp mask h l).1 (lp mask h l).2=some (pj mask h T)
 |0,l,h1,h2,_=>by rw[Nat.add_zero] at h2;omega
 |fuel+1,l,h1,h2,h3=>by
  have none_iff:∀j,j<=mask->((owner.getD j (some 0)).isNone=true↔¬oc owner j):=fun j hj=>by
   have hj':j<owner.size:=by omega
   have e1:owner.getD j (some 0)=owner[j]:=by simp[Array.getD,hj']
   have e2:owner[j]? = some owner[j]:=Array.getElem?_eq_getElem hj'
   rw[e1];unfold oc;rw[e2]
   generalize owner[j]=q
   cases q<;>simp
  have hle:=lp_lt (mask:=mask) h l
  unfold layClean.free
  have er:runEnd mask (lp mask h l).1+1-(lp mask h l).1=runLen mask (lp mask h l).1+1:=by
   unfold runLen runEnd;split<;>omega
  simp only[er]
  by_cases q:T<=idx mask h l+runLen mask (lp mask h l).1
  ·obtain⟨d,hd⟩:∃d,T=idx mask h l+d:=⟨T-idx mask h l,by omega⟩
   have hdl:d<=runLen mask (lp mask h l).1:=by omega
   have e:(List.range (runLen mask (lp mask h l).1+1)).find? (fun k=>(owner.getD ((lp mask h l).1+k) (some 0)).isNone)=some d:=by
    rw[List.find?_range_eq_some]
    refine⟨(none_iff _ (run_le hle hdl)).mpr ?_,List.mem_range.mpr (by omega),fun k hk=>?_⟩
    ·rw[<-pj_run mask h l d hdl,<-hd];exact hT
    ·have:=h3 (idx mask h l+k) (by omega) (by omega)
     rw[pj_run mask h l k (by omega)] at this
     have nn:¬(owner.getD ((lp mask h l).1+k) (some 0)).isNone=true:=fun z=>(none_iff _ (run_le hle (by omega))).mp z this
     rw[Bool.not_eq_true] at nn
     rw[nn];rfl
   rw[e]
   show some ((lp mask h l).1+d)=_
   rw[<-pj_run mask h l d hdl,<-hd]
  ·have e:(List.range (runLen mask (lp mask h l).1+1)).find? (fun k=>(owner.getD ((lp mask h l).1+k) (some 0)).isNone)=none:=by
    rw[List.find?_eq_none]
    intro k hk z
    have hk:=List.mem_range.mp hk
    have:=h3 (idx mask h l+k) (by omega) (by omega)
    rw[pj_run mask h l k (by omega)] at this
    exact (none_iff _ (run_le hle (by omega))).mp z this
   rw[e]
   show layClean.free mask owner fuel (lp mask h (l+1)).1 (lp mask h (l+1)).2=_
   have ei:idx mask h (l+1)=idx mask h l+runLen mask (lp mask h l).1+1:=rfl
   refine free_spec hs h hT fuel (l+1) (by omega) (by rw[show l+1+fuel=l+(fuel+1) by omega];exact h2) fun m a b=>h3 m (by omega) b
structure Own(mask:Nat)(hs:Array Int)(owner:Array (Option Nat))(k:Nat):Prop where
 size:owner.size=mask+1
 lt:∀(j i:Nat),owner[j]? = some (some i)->i<k
 has:∀i,i<k->∃j:Nat,owner[j]? = some (some i)
 inj:∀(j j' i:Nat),owner[j]? = some (some i)->owner[j']? = some (some i)->j=j'
 rch:∀(j i:Nat) (h:Int),owner[j]? = some (some i)->hs[i]? = some h->Rch mask (oc owner) h j
theorem nl12:∀(l m:List Nat),l.Nodup->(∀x,x∈l->x∈m)->l.length<=m.length
 |[],_,_,_=>Nat.zero_le _
 |x::l,m,hn,hs=>by
  have hx:=hs x List.mem_cons_self
  have h1:=nl12 l (m.erase x) (List.nodup_cons.mp hn).2 fun y hy=>by
   have ne:y≠x:=fun e=>(List.nodup_cons.mp hn).1 (e ▸ hy)
   exact (List.mem_erase_of_ne ne).mpr (hs y (List.mem_cons_of_mem _ hy))
  rw[List.length_erase_of_mem hx] at h1
  have:=List.length_pos_of_mem hx
  simp only[List.length_cons];omega
theorem Own.free{mask k:Nat}{hs:Array Int}{owner:Array (Option Nat)}(o:Own mask hs owner k)(hk:k<=mask):∃j,j<=mask/\¬oc owner j:=by
 refine Classical.byContradiction fun z=>?_
 have all:∀j,j<=mask->oc owner j:=fun j hj=>Classical.byContradiction fun q=>z ⟨j,hj,q⟩
 have:=nl12 ((List.range (mask+1)).map fun j=>((owner[j]?).bind id).getD 0) (List.range k) (by
  rw[List.Nodup,List.pairwise_map]
  refine List.Pairwise.imp_of_mem (fun {a b} ha hb (hab:a≠b) e=>?_) List.nodup_range
  obtain⟨i,ei⟩:=all a (Nat.le_of_lt_succ (List.mem_range.mp ha))
  obtain⟨i',ei'⟩:=all b (Nat.le_of_lt_succ (List.mem_range.mp hb))
  rw[ei,ei'] at e
  have e:i=i':=e
  subst e
  exact hab (o.inj a b i ei ei')) (fun x hx=>by
  obtain⟨j,hj,rfl⟩:=List.mem_map.mp hx
  obtain⟨i,ei⟩:=all j (Nat.le_of_lt_succ (List.mem_range.mp hj))
  rw[ei]
  exact List.mem_range.mpr (o.lt j i ei))
 simp at this
 omega
theorem Own.step{mask k:Nat}{hs:Array Int}{owner:Array (Option Nat)}{h:Int}(hp:∃r,mask+1=2^r)(o:Own mask hs owner k)(hk:k<=mask)(hh:hs[k]? = some h) :
  ∃j,layClean.free mask owner (turns mask) (bits h%(mask+1)) (bits h)=some j/\Own mask hs (owner.setIfInBounds j (some k)) (k+1):=by
 obtain⟨r,er⟩:=hp
 obtain⟨T,h1,h2,h3⟩:=first_free' er (oc owner) (o.free hk) h
 have hjm:=pj_le mask h T
 have hjs:pj mask h T<owner.size:=by rw[o.size];omega
 have get:∀j':Nat,(owner.setIfInBounds (pj mask h T) (some k))[j']? = if pj mask h T=j' then some (some k) else owner[j']?:=fun j'=>by
  rw[Array.getElem?_setIfInBounds]
  split
  ·rename_i e;subst e;first | rfl | rw[if_pos hjs]
  ·rfl
 have newocc:∀x,oc owner x->oc (owner.setIfInBounds (pj mask h T) (some k)) x:=fun x ⟨i,e⟩=>by
  by_cases q:pj mask h T=x
  ·exact⟨k,by rw[get,if_pos q]⟩
  ·exact⟨i,by rw[get,if_neg q];exact e⟩
 refine⟨pj mask h T,free_spec o.size h h2 (turns mask) 0 (Nat.zero_le _) ?_ fun m _ hm=>h3 m hm,?_⟩
 ·rw[Nat.zero_add]
  exact Nat.lt_of_le_of_lt h1 (idx_lt mask h (by unfold turns;omega))
 ·refine⟨by rw[Array.size_setIfInBounds];exact o.size,fun j i e=>?_,fun i hi=>?_,fun j j' i e e'=>?_,fun j i h' e eh=>?_⟩
  ·rw[get] at e
   split at e
   ·cases e;omega
   ·have:=o.lt j i e;omega
  ·by_cases q:i=k
   ·exact⟨pj mask h T,by rw[get,if_pos rfl,q]⟩
   ·obtain⟨j,e⟩:=o.has i (by omega)
    refine⟨j,?_⟩
    rw[get,if_neg]
    ·exact e
    ·rintro rfl;exact h2 ⟨i,e⟩
  ·rw[get] at e e'
   split at e
   ·cases e
    split at e'
    ·omega
    ·have:=o.lt j' _ e';omega
   ·split at e'
    ·cases e'
     have:=o.lt j _ e;omega
    ·exact o.inj j j' i e e'
  ·rw[get] at e
   split at e
   ·rename_i ej
    cases e
    rw[hh] at eh;cases eh
    exact⟨T,ej,fun m hm=>newocc _ (h3 m hm)⟩
   ·exact (o.rch j i h' e eh).mono newocc
end St
end
noncomputable section
namespace St
open PySem PySem.SetTable
theorem lay_fold{mask:Nat}(hp:∃r,mask+1=2^r)(hs:Array Int)(hn:hs.size<=mask)(F:Option (Array (Option Nat)×Nat)->Int->Option (Array (Option Nat)×Nat))
  (hF:∀(owner:Array (Option Nat)) (k:Nat) (h:Int),F (some (owner,k)) h=(layClean.free mask owner (turns mask) (bits h%(mask+1)) (bits h)).bind fun j=>some (owner.setIfInBounds j (some k),k+1)) :
  ∀(l:List Int) (k:Nat) (owner:Array (Option Nat)),Own mask hs owner k->k+l.length=hs.size->hs.toList.drop k=l->∃owner',l.foldl F (some (owner,k))=some (owner',hs.size)/\Own mask hs owner' hs.size
 |[],k,owner,o,hl,e=>by
  have:k=hs.size:=by simpa using hl
  subst this
  exact⟨owner,rfl,o⟩
 |h::l,k,owner,o,hl,e=>by
  have hk:k<hs.size:=by simp at hl;omega
  have hh:hs[k]? = some h:=by
   have:hs.toList[k]? = some h:=by
    have q:=congrArg (fun m=>m[0]?) e
    simpa using q
   simpa using this
  obtain⟨j,e1,o'⟩:=o.step hp (by omega) hh
  obtain⟨ow,e2,o2⟩:=lay_fold hp hs hn F hF l (k+1) _ o' (by simp at hl;omega) (by
   have q:=congrArg List.tail e
   rw[List.tail_drop] at q
   exact q)
  refine⟨ow,?_,o2⟩
  rw[List.foldl_cons,hF,e1]
  exact e2
theorem lay_clean{mask:Nat}(hp:∃r,mask+1=2^r)(hs:Array Int)(hn:hs.size<=mask):∃owner,layClean mask hs=some owner/\Own mask hs owner hs.size:=by
 have o0:Own mask hs (Array.replicate (mask+1) none) 0:=by
  have no:∀(j i:Nat),(Array.replicate (mask+1) (none:Option Nat))[j]?≠some (some i):=fun j i e=>by
   rw[Array.getElem?_replicate] at e
   split at e<;>cases e
  exact⟨by simp,fun j i e=>absurd e (no j i),fun i h=>by omega,fun j _ i e=>absurd e (no j i),fun j i _ e=>absurd e (no j i)⟩
 unfold layClean
 rw[<-Array.foldl_toList]
 obtain⟨ow,e,o⟩:=lay_fold hp hs hn (fun acc h=>do
  let (owner,k) <-acc
  let j <-layClean.free mask owner (turns mask) (bits h%(mask+1)) (bits h)
  pure (owner.setIfInBounds j (some k),k+1)) (fun owner k h=>rfl) hs.toList 0 _ o0 (by simp) rfl
 exact⟨ow,congrArg (Option.map (·.1)) e,o⟩
def liveOf(mask:Nat)(owner:Array (Option Nat)):List (Nat×Nat):=(List.range (mask+1)).filterMap fun j=>(owner.getD j none).map (j,·)
theorem ml10{mask:Nat}{owner:Array (Option Nat)}(hs:owner.size=mask+1){j i:Nat}:(j,i)∈liveOf mask owner↔owner[j]? = some (some i):=by
 have gd:∀j,owner.getD j none=(owner[j]?).getD none:=fun j=>by
  rw[Array.getD_eq_getD_getElem?]
 unfold liveOf
 rw[List.mem_filterMap]
 constructor
 ·rintro⟨j',h1,h2⟩
  rw[gd] at h2
  cases e:owner[j']? with
  |none=>rw[e] at h2;cases h2
  |some v=>
   rw[e] at h2
   cases v with
   |none=>cases h2
   |some i'=>
    have h2:some (j',i')=some (j,i):=h2
    cases h2;exact e
 ·intro e
  obtain⟨h,_⟩:=Array.getElem?_eq_some_iff.mp e
  exact⟨j,List.mem_range.mpr (by omega),by rw[gd,e];rfl⟩
theorem live_rise(mask:Nat)(owner:Array (Option Nat)):(liveOf mask owner).Pairwise fun a b=>a.1<b.1:=by
 unfold liveOf
 rw[List.pairwise_filterMap]
 refine List.Pairwise.imp (fun {a b} hab=>?_) List.pairwise_lt_range
 intro x hx y hy
 cases e:owner.getD a none with
 |none=>rw[e] at hx;cases hx
 |some v=>
  cases e':owner.getD b none with
  |none=>rw[e'] at hy;cases hy
  |some v'=>
   rw[e] at hx;rw[e'] at hy
   cases hx;cases hy
   exact hab
theorem live_len{mask n:Nat}{hs:Array Int}{owner:Array (Option Nat)}(o:Own mask hs owner n):(liveOf mask owner).length=n:=by
 have nd:((liveOf mask owner).map (·.2)).Nodup:=by
  rw[List.Nodup,List.pairwise_map]
  refine List.Pairwise.imp_of_mem (fun {a b} ha hb hab e=>?_) (live_rise mask owner)
  obtain⟨a1,a2⟩:=a
  obtain⟨b1,b2⟩:=b
  have e:a2=b2:=e
  subst e
  have:=o.inj a1 b1 a2 ((ml10 o.size).mp ha) ((ml10 o.size).mp hb)
  have hab:a1<b1:=hab
  omega
 have h1:=nl12 _ (List.range n) nd (fun x hx=>by
  obtain⟨⟨j,i⟩,hm,rfl⟩:=List.mem_map.mp hx
  exact List.mem_range.mpr (o.lt j i ((ml10 o.size).mp hm)))
 have h2:=nl12 (List.range n) ((liveOf mask owner).map (·.2)) List.nodup_range (fun x hx=>by
  obtain⟨j,e⟩:=o.has x (List.mem_range.mp hx)
  exact List.mem_map.mpr ⟨(j,x),(ml10 o.size).mpr e,rfl⟩)
 simp only[List.length_map,List.length_range] at h1 h2
 omega
theorem laid_ok{mask:Nat}(hp:∃r,3<=r/\mask+1=2^r)(finger moves:Nat)(led plain:Bool)(hs:Array Int)(hn:hs.size<=mask) :
  ∃t order,laid mask finger moves led plain hs=some (t,order)/\TOk t hs.size/\t.mask=mask/\t.led=led/\t.plain=plain/\t.moves=moves/\order.size=hs.size /\
   (∀(r o:Nat),order[r]? = some o->o<hs.size)/\(∀(r r' o:Nat),order[r]? = some o->order[r']? = some o->r=r')/\(∀o,o<hs.size->∃r:Nat,order[r]? = some o) /\
   (∀(r o j:Nat) (h:Int),order[r]? = some o->t.place[r]? = some j->hs[o]? = some h->Rch mask (fun x=>∃i:Nat,t.place[i]? = some x) h j):=by
 obtain⟨r,hr,er⟩:=hp
 obtain⟨owner,e,o⟩:=lay_clean ⟨r,er⟩ hs hn
 have len:=live_len o
 have pl:∀i:Nat,(((liveOf mask owner).map (·.1)).toArray)[i]? = ((liveOf mask owner)[i]?).map (·.1):=fun i=>by simp
 have od:∀i:Nat,(((liveOf mask owner).map (·.2)).toArray)[i]? = ((liveOf mask owner)[i]?).map (·.2):=fun i=>by simp
 have rise:∀(i i':Nat) (a b:Nat×Nat),(liveOf mask owner)[i]? = some a->(liveOf mask owner)[i']? = some b->i<i'->a.1<b.1:=fun i i' a b ea eb hlt=>by
  obtain⟨h1,e1⟩:=List.getElem?_eq_some_iff.mp ea
  obtain⟨h2,e2⟩:=List.getElem?_eq_some_iff.mp eb
  have:=List.pairwise_iff_getElem.mp (live_rise mask owner) i i' h1 h2 hlt
  rw[e1,e2] at this
  exact this
 have occ:∀x,oc owner x->∃i:Nat,(((liveOf mask owner).map (·.1)).toArray)[i]? = some x:=fun x ⟨k,ek⟩=>by
  obtain⟨i,hi,ei⟩:=List.getElem_of_mem ((ml10 o.size).mpr ek)
  exact⟨i,by rw[pl,List.getElem?_eq_getElem hi,ei];rfl⟩
 have at_:∀(i:Nat) (a:Nat×Nat),(liveOf mask owner)[i]? = some a->owner[a.1]? = some (some a.2):=fun i a ea=>(ml10 o.size).mp (List.mem_of_getElem? ea)
 refine⟨{ mask,place:=((liveOf mask owner).map (·.1)).toArray,dummies:=#[],finger,led,moves,plain },((liveOf mask owner).map (·.2)).toArray,?_,⟨by simpa using len,fun i i' a b ea eb hlt=>?_,fun i j ej=>?_,rfl,⟨r,hr,er⟩⟩,rfl,rfl,rfl,rfl,by simpa using len,fun i v ev=>?_,fun i i' v ev ev'=>?_,fun v hv=>?_,fun i v j h ev ej eh=>?_⟩
 ·unfold laid
  rw[e]
  rfl
 ·simp only[pl] at ea eb
  cases q:(liveOf mask owner)[i]? with
  |none=>rw[q] at ea;cases ea
  |some x=>
   cases q':(liveOf mask owner)[i']? with
   |none=>rw[q'] at eb;cases eb
   |some y=>
    rw[q] at ea;rw[q'] at eb
    cases ea;cases eb
    exact rise i i' x y q q' hlt
 ·simp only[pl] at ej
  cases q:(liveOf mask owner)[i]? with
  |none=>rw[q] at ej;cases ej
  |some x=>
   rw[q] at ej;cases ej
   obtain⟨h,_⟩:=Array.getElem?_eq_some_iff.mp (at_ i x q)
   have:=o.size
   show x.1<=mask
   omega
 ·rw[od] at ev
  cases q:(liveOf mask owner)[i]? with
  |none=>rw[q] at ev;cases ev
  |some x=>
   rw[q] at ev;cases ev
   exact o.lt _ _ (at_ i x q)
 ·rw[od] at ev ev'
  cases q:(liveOf mask owner)[i]? with
  |none=>rw[q] at ev;cases ev
  |some x=>
   cases q':(liveOf mask owner)[i']? with
   |none=>rw[q'] at ev';cases ev'
   |some y=>
    rw[q] at ev;rw[q'] at ev'
    have ev:some x.2=some v:=ev
    have ev':some y.2=some v:=ev'
    cases ev
    have e2:y.2=x.2:=Option.some.inj ev'
    have h1:=at_ i x q
    have h2:=at_ i' y q'
    rw[e2] at h2
    have:=o.inj _ _ _ h1 h2
    rcases Nat.lt_trichotomy i i' with z | z | z
    ·have:=rise i i' x y q q' z;omega
    ·exact z
    ·have:=rise i' i y x q' q z;omega
 ·obtain⟨j,ej⟩:=o.has v hv
  obtain⟨i,hi,ei⟩:=List.getElem_of_mem ((ml10 o.size).mpr ej)
  exact⟨i,by rw[od,List.getElem?_eq_getElem hi,ei];rfl⟩
 ·rw[od] at ev
  simp only[pl] at ej
  cases q:(liveOf mask owner)[i]? with
  |none=>rw[q] at ev;cases ev
  |some x=>
   rw[q] at ev ej
   cases ev;cases ej
   exact (o.rch _ _ h (at_ i x q) eh).mono occ
end St
end
noncomputable section
namespace St
open PySem PySem.SetTable
def pc10(x:Nat):Nat:=x/2^0%2+x/2^1%2+x/2^2%2+x/2^3%2+x/2^4%2+x/2^5%2+x/2^6%2+x/2^7%2+x/2^8%2+x/2^9%2
def walk(M:Nat):Nat->Nat->Nat->Nat->Nat×Nat
 |0,c,_,n=>(c,n)
 |s+1,c,W,n=>if c+10<=M then walk M s ((c*5+1)%M) (W ||| (1023 <<< c)) (n+(10-pc10 ((W >>> c)%1024))) else walk M s ((c*5+1)%M) W n
def segs(M bound:Nat):Nat->Nat->Bool
 |0,_=>true
 |t+1,c=>Nat.blt bound (walk M 4096 c 0 0).2&&segs M bound t (walk M 4096 c 0 0).1
theorem walk_fst(M:Nat):∀s c W n,(walk M s c W n).1=lcg M s c
 |0,_,_,_=>rfl
 |s+1,c,W,n=>by
  unfold walk
  split<;>rw[walk_fst M s]<;>rfl
theorem bit10(W c d:Nat)(hd:d<10):(W >>> c)%1024/2^d%2=(W.testBit (c+d)).toNat:=by
 rw[<-Nat.toNat_testBit,show 1024=2^10 from rfl,Nat.testBit_mod_two_pow,Nat.testBit_shiftRight,decide_eq_true hd,Bool.true_and]
theorem filt(f:Nat->Bool):∀l:List Nat,(l.filter fun d=>!f d).length+(l.map fun d=>(f d).toNat).sum=l.length
 |[]=>rfl
 |d::l=>by
  have:=filt f l
  cases e:f d<;>simp[e]<;>omega
theorem new_len(W c:Nat):((List.range 10).filter fun d=>!W.testBit (c+d)).length=10-pc10 ((W >>> c)%1024):=by
 have h:=filt (fun d=>W.testBit (c+d)) (List.range 10)
 have e:List.range 10=[0,1,2,3,4,5,6,7,8,9]:=by decide
 have e2:((List.range 10).map fun d=>(W.testBit (c+d)).toNat).sum=pc10 ((W >>> c)%1024):=by
  unfold pc10
  rw[bit10 W c 0 (by decide),bit10 W c 1 (by decide),bit10 W c 2 (by decide),bit10 W c 3 (by decide),bit10 W c 4 (by decide),bit10 W c 5 (by decide),bit10 W c 6 (by decide),bit10 W c 7 (by decide),bit10 W c 8 (by decide),bit10 W c 9 (by decide),e]
  simp only[List.map_cons,List.map_nil,List.sum_cons,List.sum_nil]
  omega
 rw[e2] at h
 simp only[List.length_range] at h
 omega
theorem bit_or(W c j:Nat):(W ||| (1023 <<< c)).testBit j=(W.testBit j||(decide (c<=j)&&decide (j<c+10))):=by
 rw[Nat.testBit_or,Nat.testBit_shiftLeft,show 1023=2^10-1 from rfl,Nat.testBit_two_pow_sub_one]
 congr 1
 by_cases h:c<=j
 ·simp only[ge_iff_le,h,decide_true,Bool.true_and]
  congr 1
  exact propext ⟨fun _=>by omega,fun _=>by omega⟩
 ·simp[h]
theorem walk_le{M:Nat}(L:Nat->Prop):∀(s c W n:Nat) (l:List Nat),l.Nodup->(∀j,j∈l->L j)->n<=l.length->(∀j,W.testBit j=true↔j∈l) ->
  (∀r,r<s->lcg M r c+10<=M->∀d,d<10->L (lcg M r c+d))->∃l':List Nat,l'.Nodup/\(∀j,j∈l'->L j)/\(walk M s c W n).2<=l'.length
 |0,_,_,_,l,h1,h2,h3,_,_=>⟨l,h1,h2,h3⟩
 |s+1,c,W,n,l,h1,h2,h3,h4,h5=>by
  have h5':∀r,r<s->lcg M r ((c*5+1)%M)+10<=M->∀d,d<10->L (lcg M r ((c*5+1)%M)+d):=fun r hr=>h5 (r+1) (by omega)
  unfold walk
  split
  ·rename_i hc
   have hw:=h5 0 (by omega) hc
   refine walk_le L s _ _ _ (l++((List.range 10).filter fun d=>!W.testBit (c+d)).map (c + ·)) ?_ (fun j hj=>?_) ?_ (fun j=>?_) h5'
   ·rw[List.nodup_append]
    refine⟨h1,?_,fun a ha b hb e=>?_⟩
    ·rw[List.Nodup,List.pairwise_map]
     exact List.Pairwise.imp (fun {a b} (hab:a≠b)=>by omega) (List.Pairwise.filter _ List.nodup_range)
    ·subst e
     obtain⟨d,hd,rfl⟩:=List.mem_map.mp hb
     have hd:=(List.mem_filter.mp hd).2
     have:=(h4 (c+d)).mpr ha
     rw[this] at hd;cases hd
   ·rcases List.mem_append.mp hj with hj | hj
    ·exact h2 j hj
    ·obtain⟨d,hd,rfl⟩:=List.mem_map.mp hj
     exact hw d (List.mem_range.mp (List.mem_filter.mp hd).1)
   ·rw[List.length_append,List.length_map,new_len];omega
   ·rw[bit_or,Bool.or_eq_true,h4,List.mem_append,Bool.and_eq_true,decide_eq_true_eq,decide_eq_true_eq]
    constructor
    ·rintro (h | ⟨a,b⟩)
     ·exact .inl h
     ·by_cases q:j∈l
      ·exact .inl q
      ·refine .inr (List.mem_map.mpr ⟨j-c,List.mem_filter.mpr ⟨List.mem_range.mpr (by omega),?_⟩,by omega⟩)
       have e:c+(j-c)=j:=by omega
       rw[e]
       have:W.testBit j=false:=by
        cases z:W.testBit j with
        |false=>rfl
        |true=>exact absurd ((h4 j).mp z) q
       rw[this];rfl
    ·rintro (h | h)
     ·exact .inl h
     ·obtain⟨d,hd,rfl⟩:=List.mem_map.mp h
      have:=List.mem_range.mp (List.mem_filter.mp hd).1
      exact .inr ⟨by omega,by omega⟩
  ·exact walk_le L s _ _ _ l h1 h2 h3 h4 h5'
theorem segs_at{M bound:Nat}:∀{n c:Nat},segs M bound n c=true->∀t,t<n->bound<(walk M 4096 (lcg M (4096*t) c) 0 0).2
 |0,_,_,t,ht=>by omega
 |n+1,c,h,t,ht=>by
  unfold segs at h
  rw[Bool.and_eq_true] at h
  cases t with
  |zero=>exact Nat.blt_eq.mp h.1
  |succ t=>
   have:=segs_at h.2 t (by omega)
   rw[walk_fst,<-lcg_add,show 4096+4096*t=4096*(t+1) by omega] at this
   exact this
theorem live_le{t:SetTable}{n:Nat}(o:TOk t n)(l:List Nat)(h1:l.Nodup)(h2:∀j,j∈l->¬Free t j):l.length<=n:=by
 have:=nl12 l t.place.toList h1 fun j hj=>by
  have:=h2 j hj
  obtain⟨i,e⟩:∃i:Nat,t.place[i]? = some j:=Classical.byContradiction fun z=>this fun i e=>z ⟨i,e⟩
  exact List.mem_of_getElem? (i:=i) (by simpa using e)
 have hs:=o.size
 simp only[Array.length_toList] at this
 omega
theorem early{t:SetTable}{n N K k:Nat}(o:TOk t n)(hn:n<=N)(hK:t.mask+1=4096*K)(hk:t.mask+1=2^k)(hs:segs (t.mask+1) N (K+1) 0=true)(h:Int){T:Nat}(hl:∀m,m<T->¬Free t (pr t h m).j):T<=10*8204:=by
 refine Nat.le_of_not_lt fun big=>?_
 have hM:0<2^k:=by omega
 obtain⟨m0,hm0,e0⟩:=lm (k:=k) (x:=0) (t:=(lp t.mask h 12).1) hM (by rw[<-hk];exact Nat.lt_succ_of_le (lp_lt h 12))
 rw[<-hk] at e0 hm0
 have ht:(m0+4095)/4096<K+1:=by omega
 have hr:m0<=4096*((m0+4095)/4096)/\4096*((m0+4095)/4096)<m0+4096:=by omega
 generalize (m0+4095)/4096=q at ht hr
 have hseg:=segs_at hs q ht
 obtain⟨l',n1,n2,n3⟩:=walk_le (M:=t.mask+1) (fun j=>¬Free t j) 4096 (lcg (t.mask+1) (4096*q) 0) 0 0 [] List.nodup_nil (fun _ h=>absurd h (by simp)) (Nat.le_refl _) (fun j=>by simp) (fun r hr' hc d hd=>by
  have e:lcg (t.mask+1) r (lcg (t.mask+1) (4096*q) 0)=(lp t.mask h (12+(4096*q-m0+r))).1:=by
   rw[lp_lcg,<-e0,<-lcg_add,<-lcg_add]
   congr 1;omega
  rw[e] at hc ⊢
  have hrl:runLen t.mask (lp t.mask h (12+(4096*q-m0+r))).1=9:=by
   unfold runLen runEnd;rw[if_pos (by omega)];omega
  have hp:=pr_run t h (12+(4096*q-m0+r)) d (by omega)
  have hi:=idx_le t.mask h (12+(4096*q-m0+r))
  have:=hl (idx t.mask h (12+(4096*q-m0+r))+d) (by omega)
  rw[hp] at this
  exact this)
 have:=live_le o l' n1 n2
 omega
def Sz(mask n:Nat):Prop:=(mask=7/\n<=4)\/(mask=31/\n<=18)\/(mask=127/\n<=76)\/(mask=511/\n<=306)\/(mask=2047/\n<=1228)\/(mask=8191/\n<=4914)\/(mask=32767/\n<=19660)\/(mask=131071/\n<=32768)
set_option maxRecDepth 1000000
theorem ss{M b t c c' n:Nat}(h:walk M 4096 c 0 0=(c',n))(hb:Nat.blt b n=true)(hr:segs M b t c'=true):segs M b (t+1) c=true:=by
 unfold segs
 rw[h,hb,hr];rfl
theorem segs15_0:walk 32768 4096 0 0 0=(28672,24292):=by decide +kernel
theorem segs15_1:walk 32768 4096 28672 0 0=(24576,23986):=by decide +kernel
theorem segs15_2:walk 32768 4096 24576 0 0=(20480,24282):=by decide +kernel
theorem segs15_3:walk 32768 4096 20480 0 0=(16384,23984):=by decide +kernel
theorem segs15_4:walk 32768 4096 16384 0 0=(12288,24281):=by decide +kernel
theorem segs15_5:walk 32768 4096 12288 0 0=(8192,23984):=by decide +kernel
theorem segs15_6:walk 32768 4096 8192 0 0=(4096,24292):=by decide +kernel
theorem segs15_7:walk 32768 4096 4096 0 0=(0,23986):=by decide +kernel
theorem segs15_8:walk 32768 4096 0 0 0=(28672,24292):=by decide +kernel
theorem segs15:segs 32768 19660 9 0=true:=ss segs15_0 rfl (ss segs15_1 rfl (ss segs15_2 rfl (ss segs15_3 rfl (ss segs15_4 rfl (ss segs15_5 rfl (ss segs15_6 rfl (ss segs15_7 rfl (ss segs15_8 rfl (rfl)))))))))
theorem segs17_0:walk 131072 4096 0 0 0=(126976,35837):=by decide +kernel
theorem segs17_1:walk 131072 4096 126976 0 0=(122880,35608):=by decide +kernel
theorem segs17_2:walk 131072 4096 122880 0 0=(118784,35717):=by decide +kernel
theorem segs17_3:walk 131072 4096 118784 0 0=(114688,35557):=by decide +kernel
theorem segs17_4:walk 131072 4096 114688 0 0=(110592,35807):=by decide +kernel
theorem segs17_5:walk 131072 4096 110592 0 0=(106496,35532):=by decide +kernel
theorem segs17_6:walk 131072 4096 106496 0 0=(102400,35655):=by decide +kernel
theorem segs17_7:walk 131072 4096 102400 0 0=(98304,35622):=by decide +kernel
theorem segs17_8:walk 131072 4096 98304 0 0=(94208,35827):=by decide +kernel
theorem segs17_9:walk 131072 4096 94208 0 0=(90112,35598):=by decide +kernel
theorem segs17_10:walk 131072 4096 90112 0 0=(86016,35707):=by decide +kernel
theorem segs17_11:walk 131072 4096 86016 0 0=(81920,35557):=by decide +kernel
theorem segs17_12:walk 131072 4096 81920 0 0=(77824,35807):=by decide +kernel
theorem segs17_13:walk 131072 4096 77824 0 0=(73728,35542):=by decide +kernel
theorem segs17_14:walk 131072 4096 73728 0 0=(69632,35655):=by decide +kernel
theorem segs17_15:walk 131072 4096 69632 0 0=(65536,35622):=by decide +kernel
theorem segs17_16:walk 131072 4096 65536 0 0=(61440,35837):=by decide +kernel
theorem segs17_17:walk 131072 4096 61440 0 0=(57344,35608):=by decide +kernel
theorem segs17_18:walk 131072 4096 57344 0 0=(53248,35717):=by decide +kernel
theorem segs17_19:walk 131072 4096 53248 0 0=(49152,35557):=by decide +kernel
theorem segs17_20:walk 131072 4096 49152 0 0=(45056,35807):=by decide +kernel
theorem segs17_21:walk 131072 4096 45056 0 0=(40960,35542):=by decide +kernel
theorem segs17_22:walk 131072 4096 40960 0 0=(36864,35655):=by decide +kernel
theorem segs17_23:walk 131072 4096 36864 0 0=(32768,35622):=by decide +kernel
theorem segs17_24:walk 131072 4096 32768 0 0=(28672,35837):=by decide +kernel
theorem segs17_25:walk 131072 4096 28672 0 0=(24576,35608):=by decide +kernel
theorem segs17_26:walk 131072 4096 24576 0 0=(20480,35717):=by decide +kernel
theorem segs17_27:walk 131072 4096 20480 0 0=(16384,35547):=by decide +kernel
theorem segs17_28:walk 131072 4096 16384 0 0=(12288,35790):=by decide +kernel
theorem segs17_29:walk 131072 4096 12288 0 0=(8192,35542):=by decide +kernel
theorem segs17_30:walk 131072 4096 8192 0 0=(4096,35655):=by decide +kernel
theorem segs17_31:walk 131072 4096 4096 0 0=(0,35614):=by decide +kernel
theorem segs17_32:walk 131072 4096 0 0 0=(126976,35837):=by decide +kernel
theorem segs17:segs 131072 32768 33 0=true:=ss segs17_0 rfl (ss segs17_1 rfl (ss segs17_2 rfl (ss segs17_3 rfl (ss segs17_4 rfl (ss segs17_5 rfl (ss segs17_6 rfl (ss segs17_7 rfl (ss segs17_8 rfl (ss segs17_9 rfl (ss segs17_10 rfl (ss segs17_11 rfl (ss segs17_12 rfl (ss segs17_13 rfl (ss segs17_14 rfl (ss segs17_15 rfl (ss segs17_16 rfl (ss segs17_17 rfl (ss segs17_18 rfl (ss segs17_19 rfl (ss segs17_20 rfl (ss segs17_21 rfl (ss segs17_22 rfl (ss segs17_23 rfl (ss segs17_24 rfl (ss segs17_25 rfl (ss segs17_26 rfl (ss segs17_27 rfl (ss segs17_28 rfl (ss segs17_29 rfl (ss segs17_30 rfl (ss segs17_31 rfl (ss segs17_32 rfl (rfl)))))))))))))))))))))))))))))))))
theorem found_free{t:SetTable}{n:Nat}(o:TOk t n)(z:Sz t.mask n)(h:Int) :
  ∃T,T<99999/\T<=10*(12+t.mask)/\Free t (pr t h T).j/\∀m,m<T->¬Free t (pr t h m).j:=by
 have hnm:n<=t.mask:=by rcases z with ⟨e,h⟩ | ⟨e,h⟩ | ⟨e,h⟩ | ⟨e,h⟩ | ⟨e,h⟩ | ⟨e,h⟩ | ⟨e,h⟩ | ⟨e,h⟩<;>omega
 have hc:t.mask<=8191\/(t.mask=32767/\n<=19660)\/(t.mask=131071/\n<=32768):=by
  rcases z with ⟨e,h⟩ | ⟨e,h⟩ | ⟨e,h⟩ | ⟨e,h⟩ | ⟨e,h⟩ | ⟨e,h⟩ | ⟨e,h⟩ | ⟨e,h⟩
  ·left;omega
  ·left;omega
  ·left;omega
  ·left;omega
  ·left;omega
  ·left;omega
  ·exact .inr (.inl ⟨e,h⟩)
  ·exact .inr (.inr ⟨e,h⟩)
 obtain⟨T,h1,h2,h3⟩:=first_free o hnm h
 refine⟨T,?_,h1,h2,h3⟩
 rcases hc with q | ⟨e,hn⟩ | ⟨e,hn⟩
 ·omega
 ·have:=early (N:=19660) (K:=8) (k:=15) o hn (by omega) (by omega) (by rw[e];exact segs15) h h3
  omega
 ·have:=early (N:=32768) (K:=32) (k:=17) o hn (by omega) (by omega) (by rw[e];exact segs17) h h3
  omega
theorem Sz.pow{mask n:Nat}(z:Sz mask n):∃k,3<=k/\mask+1=2^k:=by
 rcases z with ⟨rfl,_⟩ | ⟨rfl,_⟩ | ⟨rfl,_⟩ | ⟨rfl,_⟩ | ⟨rfl,_⟩ | ⟨rfl,_⟩ | ⟨rfl,_⟩ | ⟨rfl,_⟩
 ·exact⟨3,by decide,rfl⟩
 ·exact⟨5,by decide,rfl⟩
 ·exact⟨7,by decide,rfl⟩
 ·exact⟨9,by decide,rfl⟩
 ·exact⟨11,by decide,rfl⟩
 ·exact⟨13,by decide,rfl⟩
 ·exact⟨15,by decide,rfl⟩
 ·exact⟨17,by decide,rfl⟩
theorem Sz.more{mask n:Nat}(z:Sz mask n)(hn:n+1<=32768):(¬(n+1)*5>=mask*3/\Sz mask (n+1)) \/
  ((n+1)*5>=mask*3/\sizeAbove (grown (n+1))<=131072/\Sz (sizeAbove (grown (n+1))-1) (n+1)):=by
 rcases z with ⟨rfl,h⟩ | ⟨rfl,h⟩ | ⟨rfl,h⟩ | ⟨rfl,h⟩ | ⟨rfl,h⟩ | ⟨rfl,h⟩ | ⟨rfl,h⟩ | ⟨rfl,h⟩
 ·by_cases q:(n+1)*5>=7*3
  ·obtain rfl:n=4:=by omega
   exact .inr ⟨q,by decide +kernel,.inr (.inl ⟨by decide +kernel,by decide⟩)⟩
  ·exact .inl ⟨q,.inl ⟨rfl,by omega⟩⟩
 ·by_cases q:(n+1)*5>=31*3
  ·obtain rfl:n=18:=by omega
   exact .inr ⟨q,by decide +kernel,.inr (.inr (.inl ⟨by decide +kernel,by decide⟩))⟩
  ·exact .inl ⟨q,.inr (.inl ⟨rfl,by omega⟩)⟩
 ·by_cases q:(n+1)*5>=127*3
  ·obtain rfl:n=76:=by omega
   exact .inr ⟨q,by decide +kernel,.inr (.inr (.inr (.inl ⟨by decide +kernel,by decide⟩)))⟩
  ·exact .inl ⟨q,.inr (.inr (.inl ⟨rfl,by omega⟩))⟩
 ·by_cases q:(n+1)*5>=511*3
  ·obtain rfl:n=306:=by omega
   exact .inr ⟨q,by decide +kernel,.inr (.inr (.inr (.inr (.inl ⟨by decide +kernel,by decide⟩))))⟩
  ·exact .inl ⟨q,.inr (.inr (.inr (.inl ⟨rfl,by omega⟩)))⟩
 ·by_cases q:(n+1)*5>=2047*3
  ·obtain rfl:n=1228:=by omega
   exact .inr ⟨q,by decide +kernel,.inr (.inr (.inr (.inr (.inr (.inl ⟨by decide +kernel,by decide⟩)))))⟩
  ·exact .inl ⟨q,.inr (.inr (.inr (.inr (.inl ⟨rfl,by omega⟩))))⟩
 ·by_cases q:(n+1)*5>=8191*3
  ·obtain rfl:n=4914:=by omega
   exact .inr ⟨q,by decide +kernel,.inr (.inr (.inr (.inr (.inr (.inr (.inl ⟨by decide +kernel,by decide⟩))))))⟩
  ·exact .inl ⟨q,.inr (.inr (.inr (.inr (.inr (.inl ⟨rfl,by omega⟩)))))⟩
 ·by_cases q:(n+1)*5>=32767*3
  ·obtain rfl:n=19660:=by omega
   exact .inr ⟨q,by decide +kernel,.inr (.inr (.inr (.inr (.inr (.inr (.inr (⟨by decide +kernel,by decide⟩)))))))⟩
  ·exact .inl ⟨q,.inr (.inr (.inr (.inr (.inr (.inr (.inl ⟨rfl,by omega⟩))))))⟩
 ·by_cases q:(n+1)*5>=131071*3
  ·omega
  ·exact .inl ⟨q,.inr (.inr (.inr (.inr (.inr (.inr (.inr (⟨rfl,by omega⟩)))))))⟩
end St
end
noncomputable section
namespace St
open PySem PySem.SetTable
section
variable{prog:Program}{w:World}{K:Type}[DecidableEq K](knd:KeyKind prog w K)
structure Body(h:Heap)(es:Array (Int×Value))(t:SetTable)(ks:List (List K)):Prop where
 tok:TOk t es.size
 sz:Sz t.mask es.size
 ent:∀(i:Nat) (e:Int×Value),es[i]? = some e->∃k b,k∈ks/\e.2=.ref b/\IsTupleKey knd h k b/\e.1=tupleKeyHash knd k
 has:∀k,k∈ks->∃(i:Nat) (b:Addr),es[i]? = some (tupleKeyHash knd k,.ref b)/\IsTupleKey knd h k b
 len:ks.length=es.size
 rch:∀(i:Nat) (e:Int×Value) (j:Nat),es[i]? = some e->t.place[i]? = some j->Rch t.mask (fun x=>¬Free t x) e.1 j
def SetAt(h:Heap)(a:Addr)(ks:List (List K)):Prop:=
 ∃o es ep t,h.get? a=some o/\o.ExactSet/\o.data=.set es ep t/\Body knd h es t ks
variable{knd}
theorem Body.fits{h:Heap}{es:Array (Int×Value)}{t:SetTable}{ks:List (List K)}(b:Body knd h es t ks):t.fits es.size=true:=by
 have h1:=b.tok.fits
 have h2:es.size<=t.mask:=by rcases b.sz with ⟨e,z⟩ | ⟨e,z⟩ | ⟨e,z⟩ | ⟨e,z⟩ | ⟨e,z⟩ | ⟨e,z⟩ | ⟨e,z⟩ | ⟨e,z⟩<;>omega
 simp only[SetTable.fits,Bool.and_eq_true,beq_iff_eq,decide_eq_true_eq]
 exact⟨b.tok.size,by omega⟩
theorem Body.odd{h:Heap}{es:Array (Int×Value)}{t:SetTable}{ks:List (List K)}(b:Body knd h es t ks):t.gaveWay=false:=by
 unfold SetTable.gaveWay
 rcases b.sz with ⟨e,z⟩ | ⟨e,z⟩ | ⟨e,z⟩ | ⟨e,z⟩ | ⟨e,z⟩ | ⟨e,z⟩ | ⟨e,z⟩ | ⟨e,z⟩<;>rw[e]<;>rfl
variable{A:Around}{E:Value->Shared->Prop}{s:Shared}
theorem ofClass_plain(d:Nat){v:Value}(h:carriedByValue v=true):ofAClassStatement d v=pure false:=by
 cases v with
 |ref a=>simp[carriedByValue] at h
 |_=>first | rfl | (unfold ofAClassStatement;rfl)
theorem ot{ks:List K}{a:Addr}{Q:Bool->Shared->Prop}(hk:IsTupleKey knd s.heap ks a)(h:Q false s):wpAny (model prog w) A (ofAClassStatement 8 (.ref a)) Q E s:=by
 have hT:=hk.typeIs
 obtain⟨o,items,n,ho,hc,hd,hi⟩:=hk
 unfold ofAClassStatement
 refine wpAny_bind (wpAny_typeOf_ref ho ?_)
 rw[hc]
 show wpAny _ _ ((if ("tuple" == "tuple")=true then pure true else isSubtype (.type "tuple") (.type "tuple")) >>= _) _ _ s
 rw[if_pos (by decide)]
 refine wpAny_bind (wpAny_pure ?_)
 simp only[Bool.not_true,Bool.false_eq_true,if_false]
 refine wpAny_bind (wpAny_seqItems ho hd ?_)
 show wpAny _ _ (forIn items _ _ >>= _) _ _ s
 refine wpAny_bind ?_
 rw[<-Array.forIn_toList]
 refine wpAny_forIn_list _ (fun rest r s'=>r.1=none/\s'=s/\∀v∈rest,carriedByValue v=true) _ ?_ ?_ _ _ ⟨rfl,rfl,hi.byValue⟩
 ·rintro v rest r s' ⟨hr,rfl,hall⟩
  rw[ofClass_plain _ (hall v List.mem_cons_self)]
  refine wpAny_bind (wpAny_pure ?_)
  simp only[Bool.false_eq_true,if_false]
  exact wpAny_pure ⟨rfl,rfl,fun u hu'=>hall u (List.mem_cons_of_mem _ hu')⟩
 ·rintro⟨r1,r2⟩ s' ⟨hr,rfl,_⟩
  simp only at hr
  subst hr
  exact wpAny_pure h
theorem unseen{ks:List K}{a:Addr}{ys:List Value}{Q:Bool->Shared->Prop}(hk:IsTupleKey knd s.heap ks a)(hy:∀y,y∈ys->∃k b,y=.ref b/\IsTupleKey knd s.heap k b)(h:Q false s) :
  wpAny (model prog w) A (searchCouldBeSeen (.ref a) ys) Q E s:=by
 unfold searchCouldBeSeen
 refine wpAny_bind ?_
 refine wpAny_forIn_list _ (fun rest r s'=>r.1=none/\s'=s/\∀v∈rest,v∈ys) _ ?_ ?_ _ _ ⟨rfl,rfl,fun _ h=>h⟩
 ·rintro v rest r s' ⟨hr,rfl,hall⟩
  obtain⟨k,b,rfl,hb⟩:=hy v (hall v List.mem_cons_self)
  have hrest:∀u∈rest,u∈ys:=fun u hu=>hall u (List.mem_cons_of_mem _ hu)
  show wpAny _ _ (if ((a==b)||(carriedByValue (.ref a)&&carriedByValue (.ref b)))=true then _ else _) _ _ s'
  by_cases hab:(a==b)=true
  ·rw[if_pos (by rw[hab];rfl)]
   exact wpAny_pure ⟨rfl,rfl,hrest⟩
  ·rw[if_neg (by rw[Bool.not_eq_true] at hab;rw[hab];simp[carriedByValue])]
   refine wpAny_bind (wpAny_eqIsQuiet_tuple hk ?_)
   simp only[Bool.not_true,Bool.false_eq_true,if_false]
   refine wpAny_bind (wpAny_eqIsQuiet_tuple hb ?_)
   simp only[Bool.not_true,Bool.false_eq_true,if_false]
   refine wpAny_bind (ot hk ?_)
   simp only[Bool.false_eq_true,if_false]
   refine wpAny_bind (ot hb ?_)
   simp only[Bool.false_eq_true,if_false]
   exact wpAny_pure ⟨rfl,rfl,hrest⟩
 ·rintro⟨r1,r2⟩ s' ⟨hr,rfl,_⟩
  simp only at hr
  subst hr
  exact wpAny_pure h
theorem pr_stand(t:SetTable)(h:Int)(m:Nat):(if m=0 then none else some (pr t h m):Option Probe).getD (t.probeStart h)=pr t h m:=by
 by_cases q:m=0
 ·subst q;rfl
 ·rw[if_neg q];rfl
theorem notFree{t:SetTable}{i j:Nat}(h:t.place[i]? = some j):¬Free t j:=fun f=>f i h
theorem search_ok{a b:Addr}{o:Obj}{es:Array (Int×Value)}{ep:Nat}{t:SetTable}{ks:List (List K)}{k:List K}{T:Nat}{Q:SetFound->Shared->Prop}(hu:A.units<cLine)
  (ho:s.heap.get? a=some o) (hd:o.data=.set es ep t) (B:Body knd s.heap es t ks) (hb:IsTupleKey knd s.heap k b)
  (hT:Free t (pr t (tupleKeyHash knd k) T).j) (hl:∀m,m<T->¬Free t (pr t (tupleKeyHash knd k) m).j) (hB:T<=10*(12+t.mask))
  (h1:k∈ks->Q (.there none) s) (h2:k ∉ ks->Q (.free (pr t (tupleKeyHash knd k) T).j false) s) :
  ∀(fuel m:Nat),m<=T->T-m<fuel->(k∈ks->∃(i c:Nat) (d:Addr),es[i]? = some (tupleKeyHash knd k,.ref d)/\IsTupleKey knd s.heap k d/\m<=c/\c<T/\t.place[i]? = some (pr t (tupleKeyHash knd k) c).j) ->
   wpAny (model prog w) A (setSearchFrom a (.ref b) (tupleKeyHash knd k) true fuel (if m=0 then none else some (pr t (tupleKeyHash knd k) m))) Q E s
 |0,m,_,hf,_=>by omega
 |fuel+1,m,hm,hf,hin=>by
  unfold setSearchFrom
  refine wpAny_bind (wpAny_setState_of ho hd B.fits ?_)
  simp only[B.odd,Bool.false_eq_true,if_false]
  rw[pr_stand]
  rcases probe_at B.tok (fun i=>(es[i]?.map (·.1)).getD 0) (tupleKeyHash knd k) hT hl hB hm with ⟨q1,q2⟩ | ⟨c,i,c1,c2,c3,c4,c5,c6⟩
  ·have nin:k ∉ ks:=fun hk=>by
    obtain⟨i,c,d,e1,_,e3,e4,e5⟩:=hin hk
    exact q1 c e3 e4 i e5 (by rw[e1];rfl)
   have q2':t.probe _ (tupleKeyHash knd k) (pr t (tupleKeyHash knd k) m)=some (.empty (pr t (tupleKeyHash knd k) T).j none):=q2
   erw [q2']
   exact wpAny_pure (h2 nin)
  ·have c6':t.probe _ (tupleKeyHash knd k) (pr t (tupleKeyHash knd k) m)=some (.candidate (pr t (tupleKeyHash knd k) c).j i (pr t (tupleKeyHash knd k) (c+1))):=c6
   erw [c6']
   obtain⟨hi,_⟩:=Array.getElem?_eq_some_iff.mp c3
   have hie:i<es.size:=by rw[<-B.tok.size];exact hi
   have ee:es[i]? = some es[i]:=Array.getElem?_eq_getElem hie
   obtain⟨k',b',hk',e2,hb',e1⟩:=B.ent i _ ee
   have rest:wpAny (model prog w) A (do
     let some (_,y):=es[i]? | unsupported "internal:set-entry"
     let equal <-holding [y] (eqBool y (.ref b))
     let (es',_,t') <-setState a
     if (true&&equal)=true then return .there none
     let some same:=t'.sameMemory t.moves t.mask | unsupported "set.changed-during-lookup:is-the-new-block-at-the-old-address"
     let still <-match (if same=true then t'.slot (pr t (tupleKeyHash knd k) c).j else .empty) with
      |.live i'=>match es'[i']? with
       |some (_,y')=>do pure (if <-isSame y' y then some i' else none)
       |none=>pure none
      |_=>pure none
     match still with
     |none=>rule "set.search.anew";setSearchFrom a (.ref b) (tupleKeyHash knd k) true fuel none
     |some i'=>if equal=true then return .there (some i') else setSearchFrom a (.ref b) (tupleKeyHash knd k) true fuel (some (pr t (tupleKeyHash knd k) (c+1)))) Q E s:=by
    rw[ee]
    generalize es[i]=ent at e1 e2 ee
    obtain⟨eh,ev⟩:=ent
    simp only at e1 e2
    subst e1 e2
    refine wpAny_bind (wpAny_holding (wpAny_eqBool_tuple hu hb' hb ?_))
    refine wpAny_bind (wpAny_setState_of ho hd B.fits ?_)
    by_cases hkk:k'=k
    ·subst hkk
     simp only[decide_true,Bool.and_self,if_true]
     exact wpAny_pure (h1 hk')
    ·simp only[hkk,decide_false,Bool.and_false,Bool.false_eq_true,if_false]
     have hsm:t.sameMemory t.moves t.mask=some true:=by unfold SetTable.sameMemory;rw[beq_self_eq_true,if_pos rfl]
     rw[hsm]
     simp only[if_true,B.tok.live c3,ee]
     refine wpAny_bind ?_
     have hs:isSame (.ref b') (.ref b')=pure true:=by unfold isSame;simp only[beq_self_eq_true,if_true]
     rw[hs]
     refine wpAny_pure ?_
     simp only[if_true]
     refine wpAny_bind (wpAny_pure ?_)
     have ih:=search_ok hu ho hd B hb hT hl hB h1 h2 fuel (c+1) c2 (by omega) (fun hk=>by
      obtain⟨i2,cc,d,f1,f2,f3,f4,f5⟩:=hin hk
      refine⟨i2,cc,d,f1,f2,?_,f4,f5⟩
      rcases Nat.lt_trichotomy cc c with z | z | z
      ·exact absurd (by rw[f1];rfl) (c5 cc f3 z i2 f5)
      ·subst z
       have:i2=i:=B.tok.up.inj f5 c3
       subst this
       rw[ee] at f1
       have f1:=Option.some.inj f1
       have:b'=d:=by injection f1 with _ z2;injection z2
       subst this
       exact absurd (hb'.inj f2) hkk
      ·omega)
     rw[if_neg (by omega)] at ih
     exact ih
   by_cases hled:t.led=true
   ·simp only[hled,Bool.not_true,Bool.false_eq_true,if_false]
    exact rest
   ·have hled:t.led=false:=by simpa using hled
    simp only[hled,Bool.not_false,if_true]
    refine wpAny_bind (unseen hb (fun y hy=>?_) ?_)
    ·obtain⟨e,he,rfl⟩:=List.mem_map.mp hy
     have he:e∈es:=by
      have q:=he
      simp at q
      exact q.1
     obtain⟨j,hj,ej⟩:=Array.getElem_of_mem he
     obtain⟨k2,b2,_,e3,e4,_⟩:=B.ent j e (by rw[Array.getElem?_eq_getElem hj,ej])
     exact⟨k2,b2,e3,e4⟩
    ·simp only[Bool.false_eq_true,if_false]
     exact rest
end
end St
end
noncomputable section
namespace St
open PySem PySem.SetTable
theorem fm_list{α:Type}(es:Array α):∀(l:List Nat),(∀o,o∈l->o<es.size)->(l.filterMap fun i=>es[i]?).length=l.length/\∀r:Nat,(l.filterMap fun i=>es[i]?)[r]? = (l[r]?).bind fun i=>es[i]?
 |[],_=>⟨rfl,fun r=>by simp⟩
 |o::l,h=>by
  have ho:=h o List.mem_cons_self
  obtain⟨h1,h2⟩:=fm_list es l fun x hx=>h x (List.mem_cons_of_mem _ hx)
  have e:(es[o]?:Option α)=some es[o]:=Array.getElem?_eq_getElem ho
  rw[List.filterMap_cons,e]
  refine⟨by simp[h1],fun r=>?_⟩
  cases r with
  |zero=>simp[e]
  |succ r=>simpa using h2 r
section
variable{prog:Program}{w:World}{K:Type}[DecidableEq K]{knd:KeyKind prog w K}
structure Pre(knd:KeyKind prog w K)(h:Heap)(es:Array (Int×Value))(t:SetTable)(ks:List (List K)):Prop where
 tok:TOk t es.size
 ent:∀(i:Nat) (e:Int×Value),es[i]? = some e->∃k b,k∈ks/\e.2=.ref b/\IsTupleKey knd h k b/\e.1=tupleKeyHash knd k
 has:∀k,k∈ks->∃(i:Nat) (b:Addr),es[i]? = some (tupleKeyHash knd k,.ref b)/\IsTupleKey knd h k b
 len:ks.length=es.size
 rch:∀(i:Nat) (e:Int×Value) (j:Nat),es[i]? = some e->t.place[i]? = some j->Rch t.mask (fun x=>¬Free t x) e.1 j
theorem Pre.body{h:Heap}{es:Array (Int×Value)}{t:SetTable}{ks:List (List K)}(p:Pre knd h es t ks)(z:Sz t.mask es.size):Body knd h es t ks:=⟨p.tok,z,p.ent,p.has,p.len,p.rch⟩
theorem Pre.plain{h:Heap}{es:Array (Int×Value)}{t:SetTable}{ks:List (List K)}(p:Pre knd h es t ks)(c:Bool):Pre knd h es { t with plain:=c } ks:=
 ⟨⟨p.tok.size,p.tok.up,p.tok.le,p.tok.dum,p.tok.pow⟩,p.ent,p.has,p.len,p.rch⟩
theorem key_keeps{h h':Heap}{a b:Addr}{o:Obj}{es:Array (Int×Value)}{ep:Nat}{t:SetTable}{k:List K}(ho:h.get? a=some o)(hd:o.data=.set es ep t)(hs:Heap.SameBut a h h')(x:IsTupleKey knd h k b):IsTupleKey knd h' k b:=by
 obtain⟨o',items,n,ho',hc,hd',hi⟩:=x
 have hne:b≠a:=by
  rintro rfl
  rw[ho] at ho';cases ho'
  rw[hd] at hd';cases hd'
 exact⟨o',items,n,(hs.2 b hne).trans ho',hc,hd',hi⟩
theorem Pre.keeps{h h':Heap}{a:Addr}{o:Obj}{es0:Array (Int×Value)}{ep:Nat}{t0:SetTable}{es:Array (Int×Value)}{t:SetTable}{ks:List (List K)}(p:Pre knd h es t ks)
  (ho:h.get? a=some o) (hd:o.data=.set es0 ep t0) (hs:Heap.SameBut a h h'):Pre knd h' es t ks:=
 ⟨p.tok,fun i e q=>let ⟨k,b,a1,a2,a3,a4⟩:=p.ent i e q;⟨k,b,a1,a2,key_keeps ho hd hs a3,a4⟩,fun k hk=>let ⟨i,b,a1,a2⟩:=p.has k hk;⟨i,b,a1,key_keeps ho hd hs a2⟩,p.len,p.rch⟩
theorem Body.insert{h:Heap}{es:Array (Int×Value)}{t:SetTable}{ks:List (List K)}{k:List K}{b:Addr}{T:Nat}(B:Body knd h es t ks)(hb:IsTupleKey knd h k b)
  (hT:Free t (pr t (tupleKeyHash knd k) T).j) (hl:∀m,m<T->¬Free t (pr t (tupleKeyHash knd k) m).j) :
  Pre knd h (insertAt es (t.put (pr t (tupleKeyHash knd k) T).j).2 (tupleKeyHash knd k,.ref b)) (t.put (pr t (tupleKeyHash knd k) T).j).1 (ks++[k]):=by
 have hj:=(pr_le t (tupleKeyHash knd k) T).1
 obtain⟨e2,tok,epl,em,_⟩:=B.tok.put hT hj
 obtain⟨hp,_⟩:=bs10 B.tok.up (pr t (tupleKeyHash knd k) T).j
 have hp':below t.place (pr t (tupleKeyHash knd k) T).j<=es.size:=by rw[<-B.tok.size];exact hp
 rw[e2]
 have occ:∀x,¬Free t x->¬Free (t.put (pr t (tupleKeyHash knd k) T).j).1 x:=fun x hx f=>hx fun i e=>by
  obtain⟨i',e'⟩:=(mem_insert (c:=x) (j:=(pr t (tupleKeyHash knd k) T).j) hp).mpr (.inr ⟨i,e⟩)
  rw[<-epl] at e'
  exact f i' e'
 have sz:(insertAt es (below t.place (pr t (tupleKeyHash knd k) T).j) (tupleKeyHash knd k,Value.ref b)).size=es.size+1:=is12 _ _ _ hp'
 refine⟨by rw[sz];exact tok,fun i e q=>?_,fun k' hk'=>?_,by rw[sz,List.length_append,B.len];rfl,fun i e j q qj=>?_⟩
 ·rw[ig _ _ _ hp'] at q
  have old:∀i',es[i']? = some e->∃k1 b1,k1∈ks++[k]/\e.2=.ref b1/\IsTupleKey knd h k1 b1/\e.1=tupleKeyHash knd k1:=fun i' q'=>
   let ⟨k1,b1,a1,a2,a3,a4⟩:=B.ent i' e q';⟨k1,b1,List.mem_append_left _ a1,a2,a3,a4⟩
  split at q
  ·exact old _ q
  ·split at q
   ·cases q
    exact⟨k,b,List.mem_append_right _ List.mem_cons_self,rfl,hb,rfl⟩
   ·exact old _ q
 ·rcases List.mem_append.mp hk' with hk' | hk'
  ·obtain⟨i,b',a1,a2⟩:=B.has k' hk'
   by_cases hi:i<below t.place (pr t (tupleKeyHash knd k) T).j
   ·exact⟨i,b',by rw[ig _ _ _ hp',if_pos hi];exact a1,a2⟩
   ·exact⟨i+1,b',by rw[ig _ _ _ hp',if_neg (by omega),if_neg (by omega)];exact a1,a2⟩
  ·have:k'=k:=by simpa using hk'
   subst this
   exact⟨below t.place (pr t (tupleKeyHash knd k') T).j,b,by rw[ig _ _ _ hp',if_neg (by omega),if_pos rfl],hb⟩
 ·rw[epl,ig _ _ _ hp] at qj
  rw[ig _ _ _ hp'] at q
  rw[em]
  by_cases h1:i<below t.place (pr t (tupleKeyHash knd k) T).j
  ·rw[if_pos h1] at q qj
   exact (B.rch i e j q qj).mono occ
  ·rw[if_neg h1] at q qj
   by_cases h2:i=below t.place (pr t (tupleKeyHash knd k) T).j
   ·rw[if_pos h2] at q qj
    cases q;cases qj
    exact⟨T,(pj_of t _ T).symm,fun m hm=>occ _ (by rw[<-pj_of];exact hl m hm)⟩
   ·rw[if_neg h2] at q qj
    exact (B.rch (i-1) e j q qj).mono occ
theorem Pre.relay{h:Heap}{es:Array (Int×Value)}{t:SetTable}{ks:List (List K)}(p:Pre knd h es t ks){wanted:Nat}(z:Sz (sizeAbove wanted-1) es.size) :
  ∃t' order,t.relaid (es.map (·.1)) wanted=some (t',order)/\(order.filterMap fun i=>es[i]?).size=es.size/\Body knd h (order.filterMap fun i=>es[i]?) t' ks:=by
 have hn:(es.map (·.1)).size<=sizeAbove wanted-1:=by
  rw[Array.size_map]
  rcases z with ⟨e,z⟩ | ⟨e,z⟩ | ⟨e,z⟩ | ⟨e,z⟩ | ⟨e,z⟩ | ⟨e,z⟩ | ⟨e,z⟩ | ⟨e,z⟩<;>omega
 obtain⟨t',order,e,tok,em,_,_,_,os,o1,o2,o3,o4⟩:=laid_ok z.pow t.finger (t.movedTo (sizeAbove wanted-1)) t.led t.plain (es.map (·.1)) hn
 rw[Array.size_map] at os tok
 have lt:∀o,o∈order.toList->o<es.size:=fun o ho=>by
  obtain⟨r,hr⟩:=List.getElem?_of_mem ho
  have:=o1 r o (by simpa using hr)
  simpa using this
 obtain⟨f1,f2⟩:=fm_list es order.toList lt
 have gt:∀r:Nat,(order.filterMap fun i=>es[i]?)[r]? = (order[r]?).bind fun i=>es[i]?:=fun r=>by
  have:=f2 r
  rw[<-Array.getElem?_toList,Array.toList_filterMap,this,Array.getElem?_toList]
 have sz:(order.filterMap fun i=>es[i]?).size=es.size:=by
  rw[<-Array.length_toList,Array.toList_filterMap,f1,Array.length_toList,os]
 refine⟨t',order,e,sz,⟨by rw[sz];exact tok,by rw[em,sz];exact z,fun i x q=>?_,fun k hk=>?_,by rw[sz];exact p.len,fun i x j q qj=>?_⟩⟩
 ·rw[gt] at q
  cases eo:order[i]? with
  |none=>rw[eo] at q;cases q
  |some o=>rw[eo] at q;exact p.ent o x q
 ·obtain⟨i,b,a1,a2⟩:=p.has k hk
  obtain⟨hi,_⟩:=Array.getElem?_eq_some_iff.mp a1
  obtain⟨r,hr⟩:=o3 i (by simpa using hi)
  exact⟨r,b,by rw[gt,hr];exact a1,a2⟩
 ·rw[gt] at q
  cases eo:order[i]? with
  |none=>rw[eo] at q;cases q
  |some o=>
   rw[eo] at q
   have:=o4 i o j x.1 eo qj (by
    have q':es[o]? = some x:=q
    rw[Array.getElem?_map,q'];rfl)
   rw[em]
   exact this.mono fun y ⟨i',e'⟩=>notFree e'
variable{A:Around}{E:Value->Shared->Prop}{s:Shared}
theorem hbv{ks:List K}{a:Addr}{Q:Bool->Shared->Prop}(hk:IsTupleKey knd s.heap ks a)(h:∀c,Q c s):wpAny (model prog w) A (hashByValue 8 (.ref a)) Q E s:=by
 have hT:=hk.typeIs
 obtain⟨o,items,n,ho,hc,hd,hi⟩:=hk
 unfold hashByValue
 refine wpAny_bind (wpAny_specialOf hT F.slot_tuple_hash.lookup ?_)
 show wpAny _ _ (seqItems? (.ref a) >>= _) _ _ s
 refine wpAny_bind (wpAny_seqItems ho hd ?_)
 show wpAny _ _ (forIn items _ _ >>= _) _ _ s
 refine wpAny_bind ?_
 rw[<-Array.forIn_toList]
 refine wpAny_forIn_list _ (fun rest r s'=>(r.1=none\/r.1=some false)/\s'=s/\∀v∈rest,carriedByValue v=true) _ ?_ ?_ _ _ ⟨.inl rfl,rfl,hi.byValue⟩
 ·rintro v rest r s' ⟨hr,rfl,hall⟩
  have hv:∃c,hashByValue 7 v=pure c:=by
   have:=hall v List.mem_cons_self
   cases v with
   |ref a=>simp[carriedByValue] at this
   |_=>exact⟨_,rfl⟩
  obtain⟨c,hc⟩:=hv
  rw[hc]
  refine wpAny_bind (wpAny_pure ?_)
  cases c with
  |true=>
   simp only[Bool.not_true,Bool.false_eq_true,if_false]
   exact wpAny_pure ⟨.inl rfl,rfl,fun u hu=>hall u (List.mem_cons_of_mem _ hu)⟩
  |false=>
   simp only[Bool.not_false,if_true]
   exact wpAny_pure (wpAny_pure (h false))
 ·rintro⟨r1,r2⟩ s' ⟨hr,rfl,_⟩
  rcases hr with hr | hr
  ·simp only at hr
   subst hr
   exact wpAny_pure (h true)
  ·simp only at hr
   subst hr
   exact wpAny_pure (h false)
theorem store_set{h:Heap}{a:Addr}{o:Obj}{es:Array (Int×Value)}{ep:Nat}{t:SetTable}(es':Array (Int×Value))(t':SetTable)(ho:h.get? a=some o)(hx:o.ExactSet)(hd:o.data=.set es ep t) :
  ∃o',(h.update a (Obj.putSet es' t')).get? a=some o'/\o'.ExactSet/\o'.data=.set es' (ep+1) t'/\Heap.SameBut a h (h.update a (Obj.putSet es' t')):=by
 refine⟨{ o with data:=.set es' (ep+1) t' },?_,hx,rfl,?_⟩
 ·have q:=Heap.get?_update_self (Obj.putSet es' t') ho (by rw[putSet_of es' t' hd];rfl)
  rw[putSet_of es' t' hd] at q
  exact q
 ·exact Heap.SameBut.update _ _ _
theorem small_sz{n:Nat}(h:n<=32769):n<=sizeLine:=by rw[sizeLine_eq];omega
theorem search_ok0{a b:Addr}{o:Obj}{es:Array (Int×Value)}{ep:Nat}{t:SetTable}{ks:List (List K)}{k:List K}{T fuel:Nat}{Q:SetFound->Shared->Prop}(hu:A.units<cLine)
  (ho:s.heap.get? a=some o) (hd:o.data=.set es ep t) (B:Body knd s.heap es t ks) (hb:IsTupleKey knd s.heap k b)
  (hT:Free t (pr t (tupleKeyHash knd k) T).j) (hl:∀m,m<T->¬Free t (pr t (tupleKeyHash knd k) m).j) (hB:T<=10*(12+t.mask))
  (h1:k∈ks->Q (.there none) s) (h2:k ∉ ks->Q (.free (pr t (tupleKeyHash knd k) T).j false) s) (hf:T<fuel)
  (hin:k∈ks->∃(i c:Nat) (d:Addr),es[i]? = some (tupleKeyHash knd k,.ref d)/\IsTupleKey knd s.heap k d/\0<=c/\c<T/\t.place[i]? = some (pr t (tupleKeyHash knd k) c).j) :
  wpAny (model prog w) A (setSearchFrom a (.ref b) (tupleKeyHash knd k) true fuel none) Q E s:=by
 have q:=search_ok (A:=A) (E:=E) hu ho hd B hb hT hl hB h1 h2 fuel 0 (Nat.zero_le _) (by omega) hin
 rw[if_pos rfl] at q
 exact q
set_option maxHeartbeats 1000000 in
theorem add_ok{a b:Addr}{ks:List (List K)}{k:List K}{Q:Bool->Shared->Prop}(hu:A.units<cLine)(hS:SetAt knd s.heap a ks)(hb:IsTupleKey knd s.heap k b)(hn:ks.length<32768)
  (h:∀(c:Bool) (h':Heap) (tk:Nat),Heap.SameBut a s.heap h'->SetAt knd h' a (if k∈ks then ks else ks++[k])->Q c { s with heap:=h',toks:=tk }) :
  wpAny (model prog w) A (setAdd a (.ref b)) Q E s:=by
 unfold setAdd
 refine wpAny_holding (wpAny_bind (wpAny_pyHash_tuple hu hb ?_))
 unfold setAddHashed
 refine wpAny_holding ?_
 obtain⟨o,es,ep,t,ho,hx,hd,B⟩:=hS
 unfold setAddHashedIn
 refine wpAny_bind (wpAny_setState_of (s:={ s with toks:=s.toks+(k.length+1) }) ho hd B.fits ?_)
 have hbs:byScan (.ref b) es=false:=by unfold byScan;rfl
 simp only[hbs,Bool.false_eq_true,if_false]
 obtain⟨T,t1,t2,t3,t4⟩:=found_free B.tok B.sz (tupleKeyHash knd k)
 unfold setSearch
 have hin:k∈ks->∃(i c:Nat) (d:Addr),es[i]? = some (tupleKeyHash knd k,.ref d)/\IsTupleKey knd s.heap k d/\0<=c/\c<T/\t.place[i]? = some (pr t (tupleKeyHash knd k) c).j:=fun hk=>by
  obtain⟨i,d,e1,e2⟩:=B.has k hk
  obtain⟨hi,_⟩:=Array.getElem?_eq_some_iff.mp e1
  have hip:i<t.place.size:=by rw[B.tok.size];exact hi
  have ep':t.place[i]? = some t.place[i]:=Array.getElem?_eq_getElem hip
  obtain⟨c,c1,c2⟩:=B.rch i _ _ e1 ep'
  refine⟨i,c,d,e1,e2,Nat.zero_le _,?_,by rw[ep',pj_of,c1]⟩
  rcases Nat.lt_or_ge c T with z | z
  ·exact z
  ·exfalso
   rcases Nat.eq_or_lt_of_le z with z | z
   ·subst z
    rw[pj_of,c1] at t3
    exact t3 i ep'
   ·have:=c2 T z
    rw[<-pj_of] at this
    exact this t3
 refine wpAny_bind (search_ok0 (s:={ s with toks:=s.toks+(k.length+1) }) hu ho hd B hb t3 t4 t2 (fun hk=>?_) (fun hk=>?_) (by omega) hin)
 ·refine wpAny_pure ?_
  have hz:=h false s.heap (s.toks+(k.length+1)) (Heap.SameBut.refl _ _)
  rw[if_pos hk] at hz
  exact hz ⟨o,es,ep,t,ho,hx,hd,B⟩
 ·show wpAny _ _ (setState a >>= _) _ _ _
  refine wpAny_bind (wpAny_setState_of (s:={ s with toks:=s.toks+(k.length+1) }) ho hd B.fits ?_)
  have pre:=B.insert hb t3 t4
  obtain⟨e2,tok,epl,em,epp,_⟩:=B.tok.put t3 (pr_le t (tupleKeyHash knd k) T).1
  have hsz:(insertAt es (t.put (pr t (tupleKeyHash knd k) T).j).2 (tupleKeyHash knd k,Value.ref b)).size=es.size+1:=by rw[<-pre.len,List.length_append,B.len];rfl
  have hle:es.size+1<=32768:=by rw[<-B.len];omega
  generalize hput:t.put (pr t (tupleKeyHash knd k) T).j=tp at pre e2 tok epl em epp hsz
  obtain⟨t',p⟩:=tp
  simp only at pre e2 tok epl em epp hsz
  have goal:∀c:Bool,wpAny (model prog w) A (do
    storeSet a (insertAt es p (tupleKeyHash knd k,Value.ref b)) (if c=true then t' else { t' with plain:=false })
    if (!false&&(if c=true then t' else { t' with plain:=false }).tooFull)=true then setRelay a (SetTable.grown (es.size+1))
    return true) Q E { s with toks:=s.toks+(k.length+1) }:=fun c=>by
   have pre2:Pre knd s.heap (insertAt es p (tupleKeyHash knd k,Value.ref b)) (if c=true then t' else { t' with plain:=false }) (ks++[k]):=by
    cases c
    ·exact pre.plain false
    ·exact pre
   have em2:(if c=true then t' else { t' with plain:=false }:SetTable).mask=t.mask:=by cases c<;>exact em
   generalize (if c=true then t' else { t' with plain:=false }:SetTable)=t2 at pre2 em2
   obtain⟨o2,g1,g2,g3,g4⟩:=store_set (insertAt es p (tupleKeyHash knd k,Value.ref b)) t2 ho hx hd
   refine wpAny_bind (wpAny_storeSet_of (s:={ s with toks:=s.toks+(k.length+1) }) ho hd ?_ (by rw[hsz];exact small_sz (by omega)))
   have pre3:=pre2.keeps ho hd g4
   have fill:t2.fill=es.size+1:=by rw[pre2.tok.fits,hsz]
   have full:t2.tooFull=decide ((es.size+1)*5>=t.mask*3):=by unfold SetTable.tooFull;rw[fill,em2]
   rw[full]
   rcases B.sz.more hle with ⟨q1,q2⟩ | ⟨q1,q2,q3⟩
   ·rw[decide_eq_false q1]
    simp only[Bool.not_false,Bool.and_false,Bool.false_eq_true,if_false]
    refine wpAny_bind (wpAny_pure (wpAny_pure ?_))
    have hz:=h true _ (s.toks+(k.length+1)) g4
    rw[if_neg hk] at hz
    exact hz ⟨o2,_,_,t2,g1,g2,g3,pre3.body (by rw[em2,hsz];exact q2)⟩
   ·rw[decide_eq_true q1]
    simp only[Bool.not_false,Bool.and_self,if_true]
    refine wpAny_bind ?_
    unfold setRelay
    have fit:t2.fits (insertAt es p (tupleKeyHash knd k,Value.ref b)).size=true:=by
     simp only[SetTable.fits,Bool.and_eq_true,beq_iff_eq,decide_eq_true_eq]
     refine⟨pre2.tok.size,?_⟩
     rw[fill,em2]
     rcases B.sz with ⟨e,z⟩ | ⟨e,z⟩ | ⟨e,z⟩ | ⟨e,z⟩ | ⟨e,z⟩ | ⟨e,z⟩ | ⟨e,z⟩ | ⟨e,z⟩<;>omega
    refine wpAny_bind (wpAny_setState_of (s:={ s with heap:=s.heap.update a (Obj.putSet (insertAt es p (tupleKeyHash knd k,Value.ref b)) t2),toks:=s.toks+(k.length+1) }) g1 g3 fit ?_)
    dsimp only
    rw[if_neg (show ¬sizeAbove (grown (es.size+1))>sizeLine by rw[sizeLine_eq];omega)]
    obtain⟨t3',order,r1,r2,r3⟩:=pre3.relay (wanted:=SetTable.grown (es.size+1)) (by rw[hsz];exact q3)
    rw[r1]
    show wpAny _ _ ((do
     let es':=order.filterMap ((insertAt es p (tupleKeyHash knd k,Value.ref b))[·]?)
     if (es'.size != (insertAt es p (tupleKeyHash knd k,Value.ref b)).size)=true then unsupported "internal:set-table-lost-an-element"
     pure (es',t3')) >>= _) _ _ _
    dsimp only
    rw[if_neg (by rw[r2];simp)]
    refine wpAny_bind (wpAny_bind (wpAny_pure (wpAny_pure ?_)))
    obtain⟨o4,k1,k2,k3,k4⟩:=store_set (order.filterMap ((insertAt es p (tupleKeyHash knd k,Value.ref b))[·]?)) t3' g1 g2 g3
    refine wpAny_storeSet_of (s:={ s with heap:=s.heap.update a (Obj.putSet (insertAt es p (tupleKeyHash knd k,Value.ref b)) t2),toks:=s.toks+(k.length+1) }) g1 g3 ?_ (by rw[r2,hsz];exact small_sz (by omega))
    refine wpAny_pure ?_
    have hz:=h true _ (s.toks+(k.length+1)) (g4.trans k4)
    rw[if_neg hk] at hz
    have pre4:Pre knd _ _ t3' (ks++[k]):=(Pre.keeps ⟨r3.tok,r3.ent,r3.has,r3.len,r3.rch⟩ g1 g3 k4)
    exact hz ⟨o4,_,_,t3',k1,k2,k3,pre4.body r3.sz⟩
  by_cases hpl:t'.plain=true
  ·simp only[hpl,if_true]
   refine wpAny_bind (hbv (s:={ s with toks:=s.toks+(k.length+1) }) hb fun c=>?_)
   exact goal c
  ·have hpl:t'.plain=false:=by simpa using hpl
   simp only[hpl,Bool.false_eq_true,if_false]
   refine wpAny_bind (wpAny_pure ?_)
   exact goal true
end
end St
end
noncomputable section
namespace St
open PySem PySem.SetTable
section
variable{prog:Program}{w:World}{K:Type}[DecidableEq K]{knd:KeyKind prog w K}
def addK(acc:List (List K))(k:List K):List (List K):=if k∈acc then acc else acc++[k]
def dd(l:List (List K)):List (List K):=l.foldl addK []
theorem dd_snoc(l:List (List K))(k:List K):dd (l++[k])=addK (dd l) k:=by unfold dd;rw[List.foldl_append];rfl
theorem dd_inv:∀(l acc:List (List K)),acc.Nodup->(l.foldl addK acc).Nodup/\(l.foldl addK acc).length<=acc.length+l.length/\((l.foldl addK acc).length=acc.length+l.length↔(acc++l).Nodup)
 |[],acc,h=>⟨h,Nat.le_refl _,by simp[h]⟩
 |k::l,acc,h=>by
  rw[List.foldl_cons]
  by_cases hk:k∈acc
  ·have e:addK acc k=acc:=if_pos hk
   rw[e]
   obtain⟨h1,h2,h3⟩:=dd_inv l acc h
   refine⟨h1,by simp;omega,⟨fun z=>by simp at z;omega,fun z=>?_⟩⟩
   rw[List.nodup_append] at z
   exact absurd rfl (z.2.2 k hk k List.mem_cons_self)
  ·have e:addK acc k=acc++[k]:=if_neg hk
   have hn:(acc++[k]).Nodup:=by
    rw[List.nodup_append]
    exact⟨h,by simp,fun a ha b hb e2=>hk (by simp at hb;rw[<-hb,<-e2];exact ha)⟩
   rw[e]
   obtain⟨h1,h2,h3⟩:=dd_inv l (acc++[k]) hn
   refine⟨h1,by simp at h2 ⊢;omega,?_⟩
   rw[List.append_assoc] at h3
   simp only[List.length_append,List.length_cons,List.length_nil] at h3 ⊢
   rw[<-show (acc++([k]++l)).Nodup↔(acc++k::l).Nodup from Iff.rfl,<-h3]
   omega
theorem dd_len(l:List (List K)):(dd l).length<=l.length/\((dd l).length=l.length↔l.Nodup):=by
 obtain⟨_,h2,h3⟩:=dd_inv l [] List.nodup_nil
 unfold dd
 simpa using And.intro h2 h3
theorem SetAt.fresh{h:Heap}{a:Addr}(led:Bool)(e:h.get? a=some { cls:=.type "set",dict:=none,data:=.set #[] 0 (.fresh 0 0 led) }):SetAt knd h a []:=
 ⟨_,#[],0,.fresh 0 0 led,e,⟨rfl,rfl,rfl⟩,rfl,
  ⟨⟨rfl,fun i j a b e1=>by simp[SetTable.fresh] at e1,fun i j e1=>by simp[SetTable.fresh] at e1,rfl,⟨3,by decide,rfl⟩⟩,.inl ⟨rfl,by decide⟩,
   fun i e q=>by simp at q,fun k hk=>absurd hk (by simp),rfl,fun i e j q=>by simp at q⟩⟩
theorem SetAt.keep{h h':Heap}{a:Addr}{ks:List (List K)}(S:SetAt knd h a ks)(k1:∀o,h.get? a=some o->h'.get? a=some o)(k2:∀k b,IsTupleKey knd h k b->IsTupleKey knd h' k b):SetAt knd h' a ks:=by
 obtain⟨o,es,ep,t,ho,hx,hd,B⟩:=S
 exact⟨o,es,ep,t,k1 o ho,hx,hd,⟨B.tok,B.sz,fun i e q=>let ⟨k,b,a1,a2,a3,a4⟩:=B.ent i e q;⟨k,b,a1,a2,k2 k b a3,a4⟩,fun k hk=>let ⟨i,b,a1,a2⟩:=B.has k hk;⟨i,b,a1,k2 k b a2⟩,B.len,B.rch⟩⟩
theorem tup_ne{h:Heap}{k:List K}{b c:Addr}{o:Obj}{vs:Array Value}(x:IsTupleKey knd h k b)(e:h.get? c=some o)(d:o.data=.fields vs):b≠c:=by
 rintro rfl
 obtain⟨o',items,n,ho,_,hd,_⟩:=x
 rw[e] at ho;cases ho
 rw[d] at hd;cases hd
theorem set_ne{h:Heap}{k:List K}{b a:Addr}{ks:List (List K)}(x:IsTupleKey knd h k b)(S:SetAt knd h a ks):b≠a:=by
 rintro rfl
 obtain⟨o',items,n,ho,_,hd,_⟩:=x
 obtain⟨o,es,ep,t,e,_,d,_⟩:=S
 rw[e] at ho;cases ho
 rw[d] at hd;cases hd
theorem ka{h h':Heap}{k:List K}{b:Addr}(x:IsTupleKey knd h k b)(e:∀o,h.get? b=some o->h'.get? b=some o):IsTupleKey knd h' k b:=
 let ⟨o,items,n,ho,r⟩:=x;⟨o,items,n,e o ho,r⟩
variable{A:Around}{s:Shared}{I S:Addr}{fp:List Addr}{n:Nat}{P:Nat->Value->Prop}{St:Nat->Heap->Prop}
theorem fill_loop{R:Result->Shared->Prop}(W:Walks prog w A.in1 I fp [I] n P St)(hSf:S ∉ fp)(hu:A.in1.units<cLine)(kl:List (List K))(hlen:kl.length=n)(hn:n<=32768)
  (hit:∀i h,St i h->∃o vs,h.get? I=some o/\o.data=.fields vs) :
  ∀(k i:Nat) (s:Shared),n-i=k->i<=n->St i s.heap->SetAt knd s.heap S (dd (kl.take i)) ->
   (∀j v,i<=j->P j v->∃b q,v=.ref b/\kl[j]? = some q/\IsTupleKey knd s.heap q b) ->
   (∀(h':Heap) (tk:Nat),(∀b o,b≠S->b≠I->s.heap.get? b=some o->h'.get? b=some o)->SetAt knd h' S (dd kl)->R (.ok (.ret .none)) { s with heap:=h',toks:=tk }) ->
   codeAny (model prog w) A (.builtin "set.update.loop" ⟨[.ref S,.ref I],[]⟩) R s
 |k,i,s,hk,hi,st,hS,hP,hR=>by
  refine codeAny_builtin PyProof.Rows.F.entry_set_update_loop ?_
  rw[Around.under_plainId PyProof.Rows.F.plain_set_update_loop _]
  show wpAny _ A.in1 (pyNext (.ref I) >>= _) _ _ s
  obtain⟨oI,vsI,eI,dI⟩:=hit i s.heap st
  rcases Nat.lt_or_ge i n with hlt | hge
  ·obtain⟨k,rfl⟩:∃k',k=k'+1:=⟨k-1,by omega⟩
   refine wpAny_bind (W.item i s _ _ hlt st fun v h' tk hv st' hm=>?_)
   obtain⟨b,q,rfl,eq,hb⟩:=hP i v (Nat.le_refl _) hv
   have tk':∀k b,IsTupleKey knd s.heap k b->IsTupleKey knd h' k b:=fun k b x=>ka x fun o e=>hm b o (fun z=>tup_ne x eI dI (by simpa using z)) e
   have hSI:S≠I:=fun z=>hSf (by rw[z];exact W.sub I (by simp))
   have hS':=hS.keep (h':=h') (fun o e=>hm S o (by simpa using hSI) e) tk'
   show wpAny _ A.in1 (holding [Value.ref b] (setAdd S (.ref b)) >>= _) _ _ _
   refine wpAny_bind (wpAny_holding (add_ok (s:={ s with heap:=h',toks:=tk }) hu hS' (tk' q b hb) ?_ fun c h2 tk2 sb hS2=>?_))
   ·have:=(dd_len (kl.take i)).1
    rw[List.length_take] at this
    omega
   ·have et:kl.take (i+1)=kl.take i++[q]:=by
     rw[List.take_add_one,eq];rfl
    have hS2':SetAt knd h2 S (dd (kl.take (i+1))):=by rw[et,dd_snoc];exact hS2
    refine wpAny_pure ⟨plainId_quiet PyProof.Rows.F.plain_set_update_loop _,?_⟩
    refine fill_loop W hSf hu kl hlen hn hit k (i+1) _ (by omega) hlt (W.frame (i+1) h' h2 st' fun b hb o e=>?_) hS2' (fun j v hj hv=>?_) fun h3 tk3 hm3 hS3=>?_
    ·rw[sb.2 b (fun z=>hSf (by rw[<-z];exact hb))];exact e
    ·obtain⟨b2,q2,f1,f2,f3⟩:=hP j v (by omega) hv
     refine⟨b2,q2,f1,f2,?_⟩
     have f4:=tk' q2 b2 f3
     exact ka f4 fun o e=>by rw[sb.2 b2 (set_ne f4 hS')];exact e
    ·refine hR h3 tk3 (fun b o h1 h2' e=>hm3 b o h1 h2' ?_) hS3
     show h2.get? b=some o
     rw[sb.2 b h1]
     exact hm b o (by simpa using h2') e
  ·have hin:i=n:=by omega
   subst hin
   refine wpAny_bind (W.done s _ _ st fun h' tk hm=>?_)
   show wpAny _ A.in1 (ret Value.none) _ _ _
   refine wpAny_pure (hR h' tk (fun b o _ h2 e=>hm b o (by simpa using h2) e) ?_)
   have hSI:S≠I:=fun z=>hSf (by rw[z];exact W.sub I (by simp))
   have:=hS.keep (h':=h') (fun o e=>hm S o (by simpa using hSI) e) fun k b x=>ka x fun o e=>hm b o (fun z=>tup_ne x eI dI (by simpa using z)) e
   rw[List.take_of_length_le (by omega)] at this
   exact this
 termination_by k=>k
theorem init_fill{l o:Addr}{items:Array Value}{led:Bool}{E:Value->Shared->Prop}{Q:Value->Shared->Prop}{kl:List (List K)}(hh:A.handled=none)(hu:A.units+8<cLine)
  (hl:s.heap.IsList l items) (ho:s.heap.get? o=some { cls:=.type "set",dict:=none,data:=.set #[] 0 (.fresh 0 0 led) }) (hlen:kl.length=items.size) (hn:items.size<=32768)
  (hk:∀(i:Nat) (v:Value),items[i]? = some v->∃b q,v=.ref b/\kl[i]? = some q/\IsTupleKey knd s.heap q b)
  (h:∀(h':Heap) (tk:Nat),SetAt knd h' o (dd kl)->(∀b u,b≠o->s.heap.get? b=some u->h'.get? b=some u)->Q .none { s with heap:=h',toks:=tk }) :
  codeAny (model prog w) A (.call (.builtin "set.__init__") ⟨[.ref o,.ref l],[]⟩) (wants Q E) s:=by
 have hT:s.TypeIs (.ref o) "set":=⟨_,ho,rfl⟩
 refine codeAny_call_builtin F.called_set.init.plain F.entry_set_init (check_set_init_1 hT ?_)
 obtain⟨ol,e1,e2,nl,e3⟩:=id hl
 cases ol with
 |mk ocls odict odata oslots=>
 simp only at e2 e3
 subst e2 e3
 have h1:=F.sub_list_set
 have h2:=F.sub_list_frozenset
 have h3:(Value.type "list" == Value.type "dict")=false:=by decide
 have nol:l≠o:=by
  rintro rfl
  rw[e1] at ho
  have z:=congrArg Obj.cls (Option.some.inj ho)
  simp at z
 have lo:o<s.heap.objs.size:=Heap.lt_size ho
 have ll:l<s.heap.objs.size:=Heap.lt_size e1
 unfold Builtin.«set.__init__» noKeywords Builtin.Frozenset.updateFrom
 generalize hq:pyIter=it
 wp_walk
 subst hq
 refine wpAny_pyIter_list hl (wpAny_bind (wpAny_runValue ?_))
 have W:=Walks.list (prog:=prog) (w:=w) (A:=A.in1.in1) (by simp[hh]) s.heap.objs.size l (Nat.ne_of_lt ll) items
 refine fill_loop (knd:=knd) W (S:=o) (fun z=>?_) ?_ kl hlen hn (fun i h3 st=>?_) items.size 0 _ (by omega) (Nat.zero_le _) ?_ ?_ ?_ ?_
 ·simp only[List.mem_cons,List.not_mem_nil,or_false] at z
  rcases z with z | z
  ·exact absurd z (Nat.ne_of_lt lo)
  ·exact nol z.symm
 ·show A.units+1+1<cLine
  omega
 ·obtain⟨⟨oi,f1,_,f3⟩,_⟩:=st
  exact⟨oi,_,f1,f3⟩
 ·exact⟨⟨_,Heap.get?_push_size _ rfl,rfl,rfl⟩,hl.push _⟩
 ·exact SetAt.fresh led (Heap.get?_push_of_some _ ho)
 ·intro j v _ hv
  obtain⟨b,q,g1,g2,g3⟩:=hk j v hv
  exact⟨b,q,g1,g2,ka g3 fun u e=>Heap.get?_push_of_some _ e⟩
 ·intro h' tk k1 k2
  refine wpAny_pure (wpAny_pure ?_)
  exact h h' tk k2 fun b u hb e=>k1 b u hb (Nat.ne_of_lt (Heap.lt_size e)) (Heap.get?_push_of_some _ e)
theorem call_set{l:Addr}{items:Array Value}{E:Value->Shared->Prop}{Q:Value->Shared->Prop}{kl:List (List K)}(hh:A.handled=none)(hu:A.units+16<cLine)
  (hl:s.heap.IsList l items) (hlen:kl.length=items.size) (hn:items.size<=32768)
  (hk:∀(i:Nat) (v:Value),items[i]? = some v->∃b q,v=.ref b/\kl[i]? = some q/\IsTupleKey knd s.heap q b)
  (h:∀(h':Heap) (tk:Nat),SetAt knd h' s.heap.objs.size (dd kl)->(∀b u,s.heap.get? b=some u->h'.get? b=some u)->Q (.ref s.heap.objs.size) { s with heap:=h',toks:=tk }) :
  wpAny (model prog w) A (call (.type "set") [.ref l]) Q E s:=by
 have F0:=F.called_set
 obtain⟨c,tl,hm⟩:=F0.mro
 have f1:=F0.made
 have f2:=F0.sub
 have f3:=F0.notType
 have f4:=F0.canCreate
 have f5:=F.typeCall_set_1 (.ref l)
 refine wpAny_call (codeAny_of_tree ?_)
 show wpAny _ _ (callAny (.type "set") ⟨[.ref l],[]⟩) _ _ _
 refine wpAny_pure ⟨Code.quiet_builtin _ (by decide +kernel),codeAny_builtin F.entry_type_call ?_⟩
 rw[Around.under_plain (weight_type_call_type "set" [.ref l] []) rfl]
 (repeat (any_goals (first | assumption | wp_step)));skip
 refine codeAny_mono (code_set_new_1 (.ref l) (E:=E) (Q₁:=fun v s1=>∃led:Bool,v=.ref s.heap.objs.size /\
  s1 = { s with heap:=s.heap.push { cls:=.type "set",dict:=none,data:=.set #[] 0 (.fresh 0 0 led) } }) fun led=>⟨led,rfl,rfl⟩) fun r s1 hr=>?_
 cases r with
 |error e=>exact hr
 |ok fl=>
  cases fl with
  |ret v=>
   obtain⟨led,rfl,rfl⟩:=hr
   have g0:=Heap.get?_push_size s.heap (o:={ cls:=.type "set",dict:=none,data:=.set #[] 0 (.fresh 0 0 led) }) rfl
   have g1:Shared.TypeIs { s with heap:=s.heap.push { cls:=.type "set",dict:=none,data:=.set #[] 0 (.fresh 0 0 led) } } (.ref s.heap.objs.size) "set":=⟨_,g0,rfl⟩
   have g2:=F0.init.lookup
   have g3:=F0.init.bind (.ref s.heap.objs.size)
   (repeat (any_goals (first | assumption | wp_step)));skip
   refine codeAny_mono (init_fill (knd:=knd) (Q:=fun v s2=>v=.none/\∃h' tk,s2 = { s with heap:=h',toks:=tk }/\SetAt knd h' s.heap.objs.size (dd kl)/\∀b u,s.heap.get? b=some u->h'.get? b=some u)
    (E:=E) (by simpa using hh) (by simp only[Around.in1];omega) (hl.push _) g0 hlen hn (fun i v hv=>?_) fun h' tk a1 a2=>?_) fun r2 s2 hr2=>?_
   ·obtain⟨b,q,q1,q2,q3⟩:=hk i v hv
    exact⟨b,q,q1,q2,ka q3 fun u e=>Heap.get?_push_of_some _ e⟩
   ·exact⟨rfl,h',tk,rfl,a1,fun b u e=>a2 b u (Nat.ne_of_lt (Heap.lt_size e)) (Heap.get?_push_of_some _ e)⟩
   ·cases r2 with
    |error e=>exact hr2
    |ok fl2=>
     cases fl2 with
     |ret r=>
      obtain⟨rfl,h',tk,rfl,a1,a2⟩:=hr2
      (repeat (any_goals (first | assumption | wp_step)));skip
      exact h h' tk a1 a2
     |_=>exact hr2.elim
  |_=>exact hr.elim
end
end St
end
noncomputable section
namespace L2
open PySem PySem.Spec PyProof.Rows
def CX1(P:Program)(w:World):CXT:=fun outer H s E e s'=>
 ∃(a C:Addr) (a0:Value) (B h1:Heap) (H1:Hp),e=.ref a/\s'.os=s.os/\AllBare s'.gens/\Heap.FlyingW B outer a (.ref C) a0 s'.heap /\
  Un (frs outer) [] H H1 s.heap h1/\HOk P w H1 h1/\h1.UpToSlots s'.heap /\
  (∀b o,h1.get? b=some o->(b<s.heap.objs.size\/H1 b≠none)->b ∉ frs outer->B.get? b=some o)/\E (.ref C) none H1
theorem pass1{P:Program}{w:World}{X:Cx}:Passes (CX1 P w) X E0:=fun _ _ _ _ _ _ _ h=>by
 obtain⟨_,_,_,_,_,_,_,_,_,_,_,_,_,_,z⟩:=h
 exact z.elim
structure XL(X:Cx)(E:XK):Prop where
 stk:X.stack=X.env::X.outer
 fr:X.env.frame=some X.env.locals
 ex:X.ex=[]
 calm:X.calm=true
 to:∀e s',wpAny (model X.prog X.w) X.A (leaving X.env e) (fun _ s''=>CX1 X.prog X.w X.outer X.H_0 X.s_0 E e s'') (fun e' s''=>CX1 X.prog X.w X.outer X.H_0 X.s_0 E e' s'') s'->X.xe e s'
theorem passes1{X:Cx}{E:XK}(L:XL X E):Passes (CX1 X.prog X.w) X E:=by
 intro pins σ H s e s' I h
 obtain⟨a,C,a0,B,h1,H1,rfl,os,bare,fl,un,hok,sl,cond,hE⟩:=h
 have J:=I.call (h':=h1) (g':=s.gens) (t':=s.toks) (d':=s.drawn) (ch:=[]) un hok I.bare (fun b z=>absurd z (by simp))
 refine L.to _ _ ?_
 rw[L.stk] at fl
 refine wpAny_leaves_onW (I.ok.frames.trans (congrArg some L.stk)) L.fr fl fun h' fl' sl'=>?_
 refine⟨a,C,a0,B,h1,H1,rfl,os.trans I.os,bare,fl',?_,hok,sl.trans sl',fun b o e hb hn=>cond b o e ?_ fun hm=>?_,hE⟩
 ·have u:=J.base
  rw[L.ex] at u
  exact u
 ·rcases hb with hb | hb
  ·exact .inl (Nat.lt_of_lt_of_le hb I.sz)
  ·exact .inr hb
 ·rcases List.mem_cons.mp (I.stkSub b hm) with z | z
  ·rcases hb with hb | hb
   ·exact absurd (Nat.lt_of_lt_of_le hb I.ok.above) (by rw[z];exact Nat.lt_irrefl _)
   ·rw[z] at hb;exact hb J.free
  ·exact hn z
theorem oo{K:PySem.W.Frag}{h:Heap}{mg:Str->Option Value}{x:Str}{C:Addr}{bmB:List Value}{newId:String}(KX:K.In h)(hm:mg x=some (.ref C))
  (q:PySem.W.excIn K C bmB newId=true):OwnCls x C bmB newId mg h:=by
 constructor
 ·exact hm
 ·revert q
  rw[PySem.W.excIn]
  split
  ·rename_i dd cd sl ho
   split
   ·rename_i C' bm k0 k1 k2 k3 n k5 e1 e2
    intro q
    simp only[beq_iff_eq,Bool.and_eq_true,Bool.not_eq_true'] at q
    obtain⟨⟨⟨⟨⟨q1,q2⟩,q3⟩,q4⟩,q5⟩,q6⟩:=q
    subst q1 q2
    obtain⟨nm,bs,mro,ns,qn,hd,sn,sub,ab,col,del⟩:=cd
    dsimp only at e1 q3 q5 q6
    subst e1 q3
    obtain rfl:sl = #[k0,k1,k2,k3,some (.builtin n),k5]:=by
     cases sl;exact congrArg Array.mk e2
    exact⟨bm,ns,nm,qn,bs,hd,sn,sub,ab,col,dd,k0,k1,k2,k3,k5,_,KX _ _ ho,.of_isNs (PySem.W.isNs_of_in KX q5),
     PySem.W.nsMap_none_of_in KX q5 q6,PySem.W.tail_of_in KX q4⟩
   ·intro z;cases z
  ·intro z;cases z
theorem pr13{X:Cx}{x:Str}{C:Addr}{B newId initId:String}{bm:List Value}{np cpos pos:Pos}{E:XK}(L:XL X E)(hg:Gl X x)(O:OwnCls x C bm newId X.mg X.base)
  (FB:ExcBaseFacts B newId initId bm) (hd:(x==("__debug__":Str))=false:=by decide) :
  PS X (.Raise (some (.Call (.Name x np) [] [] cpos)) none pos) (fun _ _ H=>E (.ref C) none H):=by
 intro pins s σ H D I hE
 obtain⟨tl,N,nm,q,bs,hdct,sn,sub,ab,col,dd,k0,k1,k2,k3,k5,mN,hC,hN,hni,T⟩:=O.obj
 refine wpAny_Raise_call_subT (nm:=nm) (q:=q) (C:=C) (N:=N) (bs:=bs) (bm:=tl) (hdct:=hdct) (sn:=sn) (sub:=sub) (ab:=ab) (col:=col) (dd:=dd) (k0:=k0)
  (k1:=k1) (k2:=k2) (k3:=k3) (k5:=k5) FB (mN:=mN) (T.hasType FB.hasBase) (I.ok.hd L.calm) rfl hni (lg10 I hg O.bound ⟨rfl,?_⟩ hd)
 refine evalArgs_empty ⟨rfl,Nat.zero_le _,I.bk _ _ hC,hN.keeps I.bk,T.keeps I.bk,fun h' e hm=>?_⟩
 refine L.to _ _ ?_
 have hin:∀env∈X.stack,∀a,env.frame=some a->a∈frs X.stack:=fun env he a ha=>List.mem_filterMap.mpr ⟨env,he,ha⟩
 have ff:=PySem.W.funFrames_hide I.stack hin
 rw[L.stk] at ff
 refine wpAny_leaves_madeW (I.ok.frames.trans (congrArg some L.stk)) L.fr (fun b o z=>PySem.W.of_hideAll _ z) ff hm fun h'' t fl _ _ sl=>?_
 refine⟨e,C,.ref t,_,s.heap,H,rfl,I.os,I.bare,fl,?_,I.hok,(Heap.UpToSlots.of_keeps hm.keeps).trans sl,fun b o eb hb hn=>PySem.W.hideAll_get _ eb fun z=>?_,hE⟩
 ·have u:=I.base
  rw[L.ex] at u
  exact u
 ·rw[<-L.stk] at z
  rcases List.mem_cons.mp (I.stkSub b z) with y | y
  ·rcases hb with hb | hb
   ·exact absurd (Nat.lt_of_lt_of_le hb I.ok.above) (by rw[y];exact Nat.lt_irrefl _)
   ·rw[y] at hb;exact hb I.free
  ·exact hn y
end L2
end
noncomputable section
namespace L2
open PySem PySem.Spec PyProof.Rows
def SetN(a:Addr)(n:Nat)(h:Heap):Prop:=∃o es ep t,h.get? a=some o/\o.ExactSet/\o.data=.set es ep t/\t.fits es.size=true/\es.size=n/\n<=32768
structure Tups(K:PySem.W.Frag)(H:Hp)(as:List Addr)(kl:List (List Int)):Prop where
 len:as.length=kl.length
 at_:∀(i:Nat) (a:Addr) (k:List Int),as[i]? = some a->kl[i]? = some k->SqT K H a (k.map V.int)
def ky(k:List Int):List Key:=k.map Sum.inl
theorem ky_inj:∀{a b:List Int},ky a=ky b->a=b
 |[],[],_=>rfl
 |[],_::_,h=>by cases h
 |_::_,[],h=>by cases h
 |x::a,y::b,h=>by
  have h':Sum.inl x::ky a=(Sum.inl y::ky b:List Key):=h
  injection h' with h1 h2
  injection h1 with h1
  rw[h1,ky_inj h2]
section
variable{X:Cx}{pins:List (Addr×Obj)}{σ:St}{H:Hp}{s:Shared}
theorem kh{a:Addr}{k:List Int}(I:Inv X pins σ H s)(h:SqT X.K H a (k.map V.int)):IsTupleKey (mixKind X.prog X.w) s.heap (ky k) a:=by
 obtain⟨its,r,⟨o,ho,hc,n,hd⟩,_⟩:=I.tuple h
 refine⟨o,_,n,ho,hc,hd,?_⟩
 have q:Vals ((ky k).map kV) its:=by
  unfold ky
  rw[List.map_map]
  exact r
 simpa using ia q
theorem call_setT(hc:X.calm=true)(hu:X.A.units+64<cLine):CallR X (.type "set") (fun vs H Q=>∃(l:Addr) (as:List Addr) (kl:List (List Int)),vs=[.ref l]/\SqL X.K H l (as.map V.ref)/\Tups X.K H as kl/\kl.length<=32768 /\
  ∀p,H p=none->Q (.ref p) (upd H p (.ext (SetN p (St.dd (kl.map ky)).length)))):=by
 intro pins s σ H xs us Q I r h
 obtain⟨l,as,kl,rfl,hq,T,hn,q⟩:=h
 obtain rfl:=Vals.ref1 r
 obtain⟨its,r',pl,hz⟩:=I.list hq
 have hlen:=r'.length
 rw[List.length_map] at hlen
 refine St.call_set (knd:=mixKind X.prog X.w) (kl:=kl.map ky) (items:=its.toArray) (I.ok.hd hc) (by omega) pl.isList (by simp;rw[<-T.len,hlen]) (by simp;rw[<-hlen,T.len];exact hn) (fun i v hv=>?_) fun h' tk S kp=>?_
 ·have hv:its[i]? = some v:=by simpa using hv
  have hi:i<its.length:=(List.getElem?_eq_some_iff.mp hv).1
  have ea:as[i]? = some as[i]:=List.getElem?_eq_getElem (by omega)
  obtain⟨u,e1,e2⟩:=r'.get (x:=V.ref as[i]) (by rw[List.getElem?_map,ea];rfl)
  rw[hv] at e1
  cases e1
  have hik:i<kl.length:=by rw[<-T.len];omega
  have ek:kl[i]? = some kl[i]:=List.getElem?_eq_getElem hik
  exact⟨as[i],ky kl[i],e2,by rw[List.getElem?_map,ek];rfl,kh I (T.at_ i _ _ ea ek)⟩
 ·have hf:H s.heap.objs.size=none:=I.fresh
  have ob:SetN s.heap.objs.size (St.dd (kl.map ky)).length h':=by
   obtain⟨o,es,ep,t,ho,hx,hd,B⟩:=S
   refine⟨o,es,ep,t,ho,hx,hd,B.fits,B.len.symm,?_⟩
   have:=(St.dd_len (kl.map ky)).1
   simp at this;omega
  refine⟨.ref s.heap.objs.size,_,I.laid (t':=tk) kp (Nat.le_refl _) (o:=.ext (SetN s.heap.objs.size (St.dd (kl.map ky)).length)) ?_,rfl,q _ hf⟩
  refine⟨ob,?_,fun h1 h2 a b=>?_⟩
  ·obtain⟨o,_,_,_,ho,_⟩:=ob
   exact⟨o,ho⟩
  ·obtain⟨o,es,ep,t,ho,rest⟩:=a
   exact⟨o,es,ep,t,b o ho,rest⟩
theorem call_lenSet:CallR X (.builtin "len") (fun vs H Q=>∃p n,vs=[.ref p]/\H p=some (.ext (SetN p n))/\Q (.int n) H):=by
 intro pins s σ H xs us Q I r h
 obtain⟨p,n,rfl,e,q⟩:=h
 obtain rfl:=Vals.ref1 r
 obtain⟨⟨o,es,ep,t,ho,hx,hd,hf,en,hn⟩,_⟩:=I.hok p _ e
 subst en
 refine call_len_set ho hx hd hf (by omega) ⟨.int es.size,H,I.tok _,⟨_,rfl⟩,q⟩
end
end L2
end
noncomputable section
namespace L2
open PySem PySem.Spec PyProof.Rows
theorem items_any{P P':Program}{w w':World}:∀{ks:List Key}{vs:List Value},ItemsAre (mixKind P w) ks vs->ItemsAre (mixKind P' w') ks vs
 |_,_,.nil=>.nil
 |_,_,.cons h t=>.cons h (items_any t)
theorem key_any{P P':Program}{w w':World}{h:Heap}{k:List Key}{a:Addr}(x:IsTupleKey (mixKind P w) h k a):IsTupleKey (mixKind P' w') h k a:=
 let ⟨o,items,n,a1,a2,a3,a4⟩:=x;⟨o,items,n,a1,a2,a3,items_any a4⟩
open Classical in
def isK(P:Program)(w:World)(h:Heap)(k:List Key)(u:Value):Bool:=decide (∃b,u=.ref b/\IsTupleKey (mixKind P w) h k b)
theorem isK_of{P:Program}{w:World}{h:Heap}{k k':List Key}{b:Addr}(x:IsTupleKey (mixKind P w) h k' b):isK P w h k (.ref b)=decide (k'=k):=by
 rw[Bool.eq_iff_iff]
 simp only[isK,decide_eq_true_eq]
 constructor
 ·rintro⟨b',q,y⟩
  cases q
  exact x.inj y
 ·rintro rfl
  exact⟨b,rfl,x⟩
theorem eqAt_key{P:Program}{w:World}{A:Around}{s:Shared}{a b:Addr}{k k':List Key}(hu:A.units<cLine)(x:IsTupleKey (mixKind P w) s.heap k' b)(y:IsTupleKey (mixKind P w) s.heap k a) :
  SeqAt.EqAt A s (.ref b) (.ref a) (isK P w s.heap k (.ref b)):=by
 intro prog w' E Q q
 rw[isK_of x] at q
 exact wpAny_eqBool_tuple (knd:=mixKind prog w') hu (key_any x) (key_any y) q
section
variable{X:Cx}{pins:List (Addr×Obj)}{σ:St}{H:Hp}{s:Shared}
theorem tv10{as:List Addr}{kl:List (List Int)}{its:List Value}(I:Inv X pins σ H s)(T:Tups X.K H as kl)(r:Vals (as.map V.ref) its){i:Nat}{u:Value}(h:its[i]? = some u) :
  ∃b k,u=.ref b/\as[i]? = some b/\kl[i]? = some k/\IsTupleKey (mixKind X.prog X.w) s.heap (ky k) b:=by
 have hlen:=r.length
 rw[List.length_map] at hlen
 have hi:i<its.length:=(List.getElem?_eq_some_iff.mp h).1
 have ha:i<as.length:=by omega
 have hk:i<kl.length:=by rw[<-T.len];exact ha
 have ea:as[i]? = some as[i]:=List.getElem?_eq_getElem ha
 have ek:kl[i]? = some kl[i]:=List.getElem?_eq_getElem hk
 obtain⟨u',e1,e2⟩:=r.get (x:=V.ref as[i]) (by rw[List.getElem?_map,ea];rfl)
 rw[h] at e1
 cases e1
 exact⟨as[i],kl[i],e2,ea,ek,kh I (T.at_ i _ _ ea ek)⟩
theorem op_inT(hu:X.A.units+64<cLine):OpR X (compareOp .In) (fun x y H Q=>∃(a l:Addr) (k:List Int) (as:List Addr) (kl:List (List Int)),x=.ref a/\SqT X.K H a (k.map V.int)/\y=.ref l/\SqL X.K H l (as.map V.ref)/\Tups X.K H as kl /\
  Q (.bl (decide (k∈kl))) H):=by
 intro pins s σ H x y v u Q I rx ry h
 obtain⟨a,l,k,as,kl,rfl,ha,rfl,hl,T,q⟩:=h
 cases rx
 cases ry
 have hk:=kh I ha
 obtain⟨its,r,pl,hz⟩:=I.list hl
 have hlen:=r.length
 rw[List.length_map] at hlen
 refine SeqAt.in_listAt (isK X.prog X.w s.heap (ky k)) pl.isList (fun w hw=>?_) ⟨.bl _,H,I,rfl,?_⟩
 ·have hw:w∈its:=by simpa using hw
  obtain⟨i,hi⟩:=List.getElem?_of_mem hw
  obtain⟨b,k',rfl,_,_,z⟩:=tv10 I T r hi
  exact eqAt_key (by simp only[Around.in1];omega) z hk
 ·have e:its.toArray.any (isK X.prog X.w s.heap (ky k))=decide (k∈kl):=by
   rw[Bool.eq_iff_iff,decide_eq_true_eq]
   simp only[List.any_toArray,List.any_eq_true]
   constructor
   ·rintro⟨u,hu',e⟩
    obtain⟨i,hi⟩:=List.getElem?_of_mem hu'
    obtain⟨b,k',rfl,_,ek,z⟩:=tv10 I T r hi
    rw[isK_of z,decide_eq_true_eq] at e
    rw[<-ky_inj e]
    exact List.mem_of_getElem? ek
   ·intro hm
    obtain⟨i,hi⟩:=List.getElem?_of_mem hm
    have hil:i<its.length:=by rw[<-hlen,T.len];exact (List.getElem?_eq_some_iff.mp hi).1
    obtain⟨b,k',e1,_,ek,z⟩:=tv10 I T r (List.getElem?_eq_getElem hil)
    rw[hi] at ek
    cases ek
    exact⟨its[i],List.getElem_mem hil,by rw[e1,isK_of z];exact decide_eq_true rfl⟩
  rw[e]
  exact q
theorem mt_indexT(hu:X.A.units+64<cLine):MtR X "list.index" (fun x xs H Q=>∃(a l:Addr) (k:List Int) (as:List Addr) (kl:List (List Int)) (j:Nat),x=.ref l/\xs=[.ref a]/\SqT X.K H a (k.map V.int)/\SqL X.K H l (as.map V.ref)/\Tups X.K H as kl /\
  kl[j]? = some k/\(∀m,m<j->kl[m]?≠some k)/\Q (.int (j:Nat)) H):=by
 intro pins s σ H x xs v us Q I rx rxs h
 obtain⟨a,l,k,as,kl,j,rfl,rfl,ha,hl,T,ej,hno,q⟩:=h
 cases rx
 obtain rfl:=Vals.ref1 rxs
 have hk:=kh I ha
 obtain⟨its,r,⟨⟨cls,dct,data,sl⟩,n,ho,hc,hdn,hd⟩,hz⟩:=I.list hl
 simp only at hc hd
 subst hc hd
 have hlen:=r.length
 rw[List.length_map] at hlen
 have hjk:j<kl.length:=(List.getElem?_eq_some_iff.mp ej).1
 have hji:j<its.length:=by rw[<-hlen,T.len];exact hjk
 have hsl:=sizeLine_eq
 rw[List.length_map] at hz
 refine call_meets PySem.F.slot_list_index ⟨_,ho,rfl⟩ PySem.F.entry_list_index (PySem.F.args_list_index_2 _ _)
  (SeqAt.list_indexAt l its.toArray n dct sl (.ref a) (isK X.prog X.w s.heap (ky k)) j (by simpa using hji) (by omega) ?_ ?_) ⟨ho,fun u' hu'=>?_,⟨.int (j:Nat),H,I.tok _,⟨_,rfl⟩,q⟩⟩
 ·obtain⟨b,k',e1,_,ek,z⟩:=tv10 I T r (List.getElem?_eq_getElem hji)
  rw[ej] at ek
  cases ek
  have e2:its.toArray[j]'(by simpa using hji)=.ref b:=by simpa using e1
  rw[e2,isK_of z]
  exact decide_eq_true rfl
 ·intro m hm hmj
  have hml:m<its.length:=by simpa using hm
  obtain⟨b,k',e1,_,ek,z⟩:=tv10 I T r (List.getElem?_eq_getElem hml)
  have e2:its.toArray[m]'hm=.ref b:=by simpa using e1
  rw[e2,isK_of z]
  refine decide_eq_false fun e=>hno m hmj ?_
  rw[ek,ky_inj e]
 ·have hu':u'∈its:=by simpa using hu'
  obtain⟨i,hi⟩:=List.getElem?_of_mem hu'
  obtain⟨b,k',rfl,_,_,z⟩:=tv10 I T r hi
  exact eqAt_key (by simp only[Around.in1];omega) z hk
end
end L2
end
noncomputable section
namespace L2
open PySem PySem.Spec PyProof.Rows
structure Glo(K:PySem.W.Frag)(mg:Str->Option Value)(x qual:Str)(st:Stmt)(ps:List Str)(f:Addr)(fd:FuncData):Prop where
 fn:Fun K x qual st f fd
 bd:Binds K fd ps []
 mg:mg x=some (.ref f)
structure Met(K:PySem.W.Frag)(x qual:Str)(st:Stmt)(ps:List Str)(C f:Addr)(fd:FuncData):Prop where
 fn:Fun K x qual st f fd
 bd:Binds K fd ps []
 me:Meth K C x f
structure Cla(K:PySem.W.Frag)(mg:Str->Option Value)(x:Str)(C:Addr):Prop where
 cl:Cls K C
 mg:mg x=some (.ref C)
 makes:PySem.W.makesIn K C=true
 kp:PySem.W.keepIn K (.ref C)=true
structure Exc(K:PySem.W.Frag)(mg:Str->Option Value)(x:Str)(C:Addr):Prop where
 mg:mg x=some (.ref C)
 ex:PySem.W.excIn K C [.type "Exception",.type "BaseException",.type "object"] "Exception.__new__" = true
def GlV(mg:Str->Option Value)(x:Str)(v:V):Prop:=∃u,mg x=some u/\RelV v u
def NotSub(K:PySem.W.Frag)(C D:Addr):Prop:=∃c d cd sl,K.lookup C=some ⟨c,d,.cls cd,sl⟩/\cd.mro.contains (.ref D)=false
theorem xo{P:Program}{w:World}{K:PySem.W.Frag}{mg:Str->Option Value}{base:Heap}{N:List Str}{qual:Str}{scope:Scope}{f:Addr}{cd:Value}{A:Around}{outer:List Env}{s:Shared}{H:Hp}{E:XK} :
  XL (cxOf (CX1 P w) P w K mg base N qual scope f cd A outer s H E) E:=⟨rfl,rfl,rfl,rfl,fun _ _ h=>h⟩
theorem po12{P:Program}{w:World}{K:PySem.W.Frag}{mg:Str->Option Value}{base:Heap}{N:List Str}{qual:Str}{scope:Scope}{f:Addr}{cd:Value}{A:Around}{outer:List Env}{s:Shared}{H:Hp}{E:XK} :
  PassesOwn (model P w) (A.deeper (envOfC qual scope s.heap.objs.size f cd)) (envOfC qual scope s.heap.objs.size f cd) (cxOf (CX1 P w) P w K mg base N qual scope f cd A outer s H E).xe:=
 PassesOwn.leaving (Q₁:=fun e s''=>CX1 P w outer H s E e s'') (E₁:=fun e s''=>CX1 P w outer H s E e s'')
section
variable{P:Program}{w:World}{K:PySem.W.Frag}{mg:Str->Option Value}{base:Heap}
theorem Fun.okX{x qual:Str}{st:Stmt}{f:Addr}{fd:FuncData}{N ps:List Str}{k:Nat}{sp:Sp}(F:Fun K x qual st f fd)(S:FnScope N ps (defScope st))(len:∀vs H Q E,sp vs H Q E->vs.length=ps.length)
  (hbody:∀(cdv:Value) (A:Around) (outer:List Env) (s:Shared) (H:Hp) (vs:List V) (Q:VK) (E:XK),Room k (A.deeper (envOfC qual (defScope st) s.heap.objs.size f cdv))->sp vs H Q E ->
   ∃t,PSs (cxOf (CX1 P w) P w K mg base N qual (defScope st) f cdv A outer s H E) (defBody st) t/\t { nx:=fun _ H'=>Q .non H',rt:=Q } (start N vs) H):FnOk P w K mg base (CX1 P w) (k+1) f fd ps sp:=by
 obtain⟨oc,od,kV,doc,pm,an,cdv,ct,osl,rfl,lk,hcd⟩:=F.ex
 exact fn_of lk hcd S len fun A outer s H vs Q E hr hsp=>hbody cdv A outer s H vs Q E hr hsp
end
section
variable{X:Cx}{x:Str}{pos p:Pos}{C f:Addr}{fd:FuncData}{qual:Str}{st:Stmt}{ps:List Str}{k:Nat}{sp:Sp}{E:XK}{e o:Expr}{es:List Expr}{t:TA}{ta:TE}{apos:Pos}
theorem pg10{v:V}(h:GlV X.mg x v)(hg:Gl X x)(hd:(x==("__debug__":Str))=false:=by decide):PE X (.Name x pos) (tC v):=let ⟨_,a,b⟩:=h;pe_glob hg a b hd
theorem pf10(G:Glo X.K X.mg x qual st ps f fd)(F:FnOk X.prog X.w X.K X.mg X.base (CX1 X.prog X.w) k f fd ps sp)(hr:Room k X.A)(hg:Gl X x)(hx:Passes (CX1 X.prog X.w) X E)(ha:PA X (e::es) t)(hdb:(x==("__debug__":Str))=false:=by decide)
  (he:starEach (e::es) X.env=(false,eval e X.env)::starEach es X.env:=by rfl) (hpl:(backTo pos (starEach es X.env)).any (·.1)=false:=by rfl):PE X (.Call (.Name x p) (e::es) [] pos) (tCall sp [] E t):=
 pe_call F hr hg G.mg G.fn.kp G.bd .nil hx ha hdb he hpl
theorem pc_me{pl:Sem Bool}(L:Cla X.K X.mg x C){m:Str}(M:Met X.K m qual st ps C f fd)(F:FnOk X.prog X.w X.K X.mg X.base (CX1 X.prog X.w) k f fd ps sp)(hr:Room k X.A)(hx:Passes (CX1 X.prog X.w) X E)(ho:PE X o ta)(ha:PA X (e::es) t)
  (hst:starEach (e::es) X.env=(false,eval e X.env)::starEach es X.env:=by rfl) (hpl:(backTo pos (starEach es X.env)).any (·.1)=false:=by rfl)
  (ht:eval (.Call (.Attribute o m apos) (e::es) [] pos) X.env=(do
   let ov <-eval o X.env
   standAt apos.atName
   let (f,first) <-holding [ov] (getMethod ov m pl)
   callWith pos f first (backTo pos (starEach (e::es) X.env)) (backToKw pos (keywordEach [] X.env))):=by rfl) :
  PE X (.Call (.Attribute o m apos) (e::es) [] pos) (tMeth C m sp [] E ta t):=pe_meth ho L.cl M.me F hr M.bd .nil hx ha hst hpl ht
theorem pm10{pl:Sem Bool}(L:Cla X.K X.mg x C){m:Str}(M:Met X.K m qual st ps C f fd)(F:FnOk X.prog X.w X.K X.mg X.base (CX1 X.prog X.w) k f fd ps sp)(hr:Room k X.A)(hx:Passes (CX1 X.prog X.w) X E)(ho:PE X o ta)
  (ht:eval (.Call (.Attribute o m apos) [] [] pos) X.env=(do
   let ov <-eval o X.env
   standAt apos.atName
   let (f,first) <-holding [ov] (getMethod ov m pl)
   callWith pos f first (backTo pos (starEach [] X.env)) (backToKw pos (keywordEach [] X.env))):=by rfl) :
  PE X (.Call (.Attribute o m apos) [] [] pos) (tMeth C m sp [] E ta tNil):=pe_meth0 ho L.cl M.me F hr M.bd .nil hx ht
theorem pc_mk(L:Cla X.K X.mg x C)(M:Met X.K "__init__" qual st ps C f fd)(F:FnOk X.prog X.w X.K X.mg X.base (CX1 X.prog X.w) k f fd ps sp)(hr:Room (k+1) X.A)(hg:Gl X x)(hx:Passes (CX1 X.prog X.w) X E)(ha:PA X (e::es) t)
  (hdb:(x==("__debug__":Str))=false:=by decide) (he:starEach (e::es) X.env=(false,eval e X.env)::starEach es X.env:=by rfl) (hpl:(backTo pos (starEach es X.env)).any (·.1)=false:=by rfl) :
  PE X (.Call (.Name x p) (e::es) [] pos) (tMake C sp [] E t):=pe_make ⟨L.makes,M.me.at_,M.me.fn,L.kp⟩ F hr hg L.mg M.bd .nil hx ha hdb he hpl
end
end L2
end
noncomputable section
namespace L2
open PySem PySem.Spec PyProof.Rows
open PySem.W (kla_fn envX)
def cxLam(P:Program)(w:World)(K:PySem.W.Frag)(mg:Str->Option Value)(base:Heap)(N:List Str)(qual:Str)(scope:Scope)(f:Addr)(cd:Value)(cl:List (Str×Addr))(A:Around)(outer:List Env)(s:Shared)(H:Hp)(E:XK):Cx where
 prog:=P
 w:=w
 K:=K
 mg:=mg
 base:=base
 A:=A.deeper (envX qual scope s.heap.objs.size f cd cl)
 N:=N
 s_0:=s
 H_0:=H
 env:=envX qual scope s.heap.objs.size f cd cl
 outer:=outer
 stack:=envX qual scope s.heap.objs.size f cd cl::outer
 ex:=[]
 calm:=true
 fn:=fun _=>false
 pn:=[]
 xe:=fun e s'=>wpAny (model P w) (A.deeper (envX qual scope s.heap.objs.size f cd cl)) (leaving (envX qual scope s.heap.objs.size f cd cl) e) (fun _ s''=>CX1 P w outer H s E e s'') (fun e' s''=>CX1 P w outer H s E e' s'') s'
theorem xl_lam{P:Program}{w:World}{K:PySem.W.Frag}{mg:Str->Option Value}{base:Heap}{N:List Str}{qual:Str}{scope:Scope}{f:Addr}{cd:Value}{cl:List (Str×Addr)}{A:Around}{outer:List Env}{s:Shared}{H:Hp}{E:XK} :
  XL (cxLam P w K mg base N qual scope f cd cl A outer s H E) E:=⟨rfl,rfl,rfl,rfl,fun _ _ h=>h⟩
structure Clo(scope:Scope)(cl:List (Str×Addr))(H:Hp)(h:Heap)(N:List Str)(vs:List V):Prop where
 kind:scope.kind=.function
 nocell:∀x∈scope.names,x.2≠.cell
 inj:∀x y c,cl.lookup x=some c->cl.lookup y=some c->x=y
 has:∀x,scope.names.lookup x=some .free->∃c,cl.lookup x=some c
 cell:∀x c,cl.lookup x=some c->(∃v,h.IsCell c v)/\H c=none
 len:vs.length=N.length
 val:∀(i:Nat) (x:Str) (v:V),N[i]? = some x->vs[i]? = some v->scope.names.lookup x=some .free/\∃u c,RelV v u/\cl.lookup x=some c/\h.IsCell c (some u)
section
variable{P:Program}{w:World}{K:PySem.W.Frag}{mg:Str->Option Value}{base:Heap}
theorem inv_lam{N:List Str}{qual:Str}{scope:Scope}{f:Addr}{cd:Value}{cl:List (Str×Addr)}{A:Around}{outer:List Env}{s:Shared}{H:Hp}{E:XK}{vs:List V}{h1:Heap}{tk:Tok}
  (C:Clo scope cl H s.heap N vs) (hd:A.handled=none) (e0:Env0 P w K mg base A outer s H) (hns:h1.Ns s.heap.objs.size fun _=>none) (hk:∀b o,s.heap.get? b=some o->h1.get? b=some o) :
  Inv (cxLam P w K mg base N qual scope f cd cl A outer s H E) [] (vs.map some) H { s with heap:=h1,toks:=tk }:=by
 have noA:∀b:Addr,b ∉ (cxLam P w K mg base N qual scope f cd cl A outer s H E).ex:=fun b z=>absurd (show b∈([]:List Addr) from z) (by simp)
 have ck:∀c v,s.heap.IsCell c v->h1.IsCell c v:=fun c v ⟨o,ho,hd⟩=>⟨o,hk _ _ ho,hd⟩
 refine⟨⟨e0.mod,C.kind,rfl,rfl,Nat.le_refl _,fun y z c h1 h2=>C.inj y z c h1 h2,fun y hy=>?_,fun y c h=>absurd (show false=true from h) Bool.false_ne_true,fun _=>hd,Around.frames_deeper e0.frames,.inr ⟨rfl,rfl⟩,fun b z=>absurd z (noA b),e0.bs,e0.bsz,fun b _ _=>noA b,fun b z=>absurd z (noA b),e0.funs,e0.frf⟩,
  rfl,e0.bare,Un.kept hk,⟨_,hns,fun i y v h1 h2 h3=>?_⟩,fun y c h=>?_,e0.hok.fresh (Nat.le_refl _),fun y c h=>(C.cell y c h).2,fun p hp=>absurd (show p∈([]:List (Addr×Obj)) from hp) (by simp),e0.hok.kept hk,?_⟩
 ·have hy:scope.names.lookup y=some .cell\/scope.names.lookup y=some .free:=hy
  rcases hy with hy | hy
  ·exact absurd rfl (C.nocell _ (PySem.mem_of_lookup hy))
  ·exact C.has y hy
 ·rw[List.getElem?_map] at h2
  cases e:vs[i]? with
  |none=>rw[e] at h2;cases h2
  |some v'=>
   rw[e] at h2
   cases h2
   obtain⟨a,u,c,r,b,d⟩:=C.val i y v h1 e
   exact⟨u,r,.inr ⟨.inr a,c,b,ck _ _ d⟩⟩
 ·obtain⟨⟨v,z⟩,_⟩:=C.cell y c h
  exact⟨v,ck _ _ z⟩
 ·rw[List.length_map];exact C.len
theorem lam_run{N:List Str}{name qual:Str}{params:Arguments}{body:Expr}{scope:Scope}{f:Addr}{pm cd ct:Value}{cl:List (Str×Addr)}{A:Around}{outer:List Env}{s:Shared}{H:Hp}{Q:VK}{E:XK}{vs:List V}{k:Nat}{o:Obj}{t:TE}
  (hr:Room (k+1) A) (C:Clo scope cl H s.heap N vs) (e0:Env0 P w K mg base A outer s H) (ho:s.heap.get? f=some o) (hdt:o.data=.func (kla_fn name qual params body scope cl pm cd ct)) (hcd:s.heap.CodeRec cd qual)
  (hco:scope.isCoroutine=false) (hgen:scope.isGenerator=false) (hbind:bindArgs (kla_fn name qual params body scope cl pm cd ct) ⟨[],[]⟩=pure [])
  (ht:Room k (A.deeper (envX qual scope s.heap.objs.size f cd cl))->PE (cxLam P w K mg base N qual scope f cd cl A outer s H E) body t) (hq:t (vs.map some) H Q) :
  codeAny (model P w) A (.call (.ref f) ⟨[],[]⟩) (CR (CX1 P w) outer P w H s Q E) s:=by
 have lim:s.heap.NoLimit:=e0.mod.nolimit.keeps fun b o e=>(e0.bs b o e).1
 refine PySem.W.kla_callFunE hr.depth ho hdt hco hgen rfl hcd ?_
 rw[hbind]
 refine wpAny_pure (wpAny_newFunctionEnv C.nocell (fun x hx=>nomatch hx) (fun h1 hns hsb=>⟨lim.fresh _ hsb,?_⟩) C.kind)
 have hk:∀b o,s.heap.get? b=some o->h1.get? b=some o:=fun b o e=>hsb.extBut b o (Nat.ne_of_lt (Heap.lt_size e)) (Heap.get?_push_of_some _ e)
 have I:Inv (cxLam P w K mg base N qual scope f cd cl A outer s H E) [] (vs.map some) H { s with heap:=h1,toks:=s.toks+0 }:=inv_lam C hr.hd e0 hns hk
 exact PySem.W.kla_codeExpr (wpAny_mono (ht (hr.deeper _) [] _ _ H Q I hq) (fun v s' ⟨x,H',J,rv,q⟩=>⟨x,H',J.os,J.bare,J.base,J.hok,rv,q⟩) fun _ _ h=>h)
theorem run_at{k:Nat}{f:Addr}{name qual:Str}{params:Arguments}{body:List Stmt}{scope:Scope}{dV kV doc pm cdv ct oc:Value}{an od:Option Addr}{osl:Array (Option Value)}{N ps:List Str}
  {A:Around} {outer:List Env} {s:Shared} {H:Hp} {args:Args} {us:List Value} {vs:List V} {R:Result->Shared->Prop} {E:XK}
  (lk:K.lookup f=some ⟨oc,od,.func (PySem.W.fnOf name qual params body scope dV kV doc pm an cdv ct),osl⟩) (hcd:PySem.W.codeIn K cdv qual=true) (S:FnScope N ps scope)
  (hl:vs.length=ps.length) (hr:Room (k+1) A) (e0:Env0 P w K mg base A outer s H) (hb:BindsTo s (PySem.W.fnOf name qual params body scope dV kV doc pm an cdv ct) args (ps.zip us)) (r:Vals vs us)
  (hbody:∀s1,Room k (A.deeper (envOfC qual scope s.heap.objs.size f cdv))->Inv (cxOf (CX1 P w) P w K mg base N qual scope f cdv A outer s H E) [] (start N vs) H s1->(∀b o,s.heap.get? b=some o->s1.heap.get? b=some o) ->
   wpAny (model P w) (A.deeper (envOfC qual scope s.heap.objs.size f cdv)) (execs body (envOfC qual scope s.heap.objs.size f cdv)) (fun fl s'=>match fl with
    |.ret u=>R (.ok (.ret u)) s'
    |.next=>R (.ok (.ret .none)) s'
    |_=>False) (fun e s'=>wpAny (model P w) (A.deeper (envOfC qual scope s.heap.objs.size f cdv)) (leaving (envOfC qual scope s.heap.objs.size f cdv) e) (fun _ s''=>R (.error e) s'') (fun e' s''=>R (.error e') s'') s') s1) :
  codeAny (model P w) A (.call (.ref f) args) R s:=by
 have KX:K.In s.heap:=e0.mod.kin.keeps fun b o e=>(e0.bs b o e).1
 have lim:s.heap.NoLimit:=e0.mod.nolimit.keeps fun b o e=>(e0.bs b o e).1
 have hkind:∀y∈ps.zip us,scope.names.lookup y.1=some .local\/(scope.names.lookup y.1=some .cell/\((cellsFrom (s.heap.objs.size+1) scope.names []).lookup y.1).isSome=true):=fun ⟨n,v⟩ hy=>by
  rcases S.par n (List.of_mem_zip hy).1 with q | q
  ·exact .inl q
  ·exact .inr ⟨q,PySem.W.cellsFrom_some _ _ _ (.inl q)⟩
 refine codeAny_call_function hr.depth (KX _ _ lk) rfl S.co S.gen rfl (PySem.W.codeRec_of KX hcd) (hb _ _ _ _ ?_)
 refine wpAny_newFunctionEnv_cells S.kind hkind fun env he s1 x=>?_
 subst he
 refine⟨lim.keeps x.toInCall.keep,codeAny_func ?_⟩
 have I:Inv (cxOf (CX1 P w) P w K mg base N qual scope f cdv A outer s H E) [] (start N vs) H s1:=inv_start S hr.hd e0 hl r x
 refine wpAny_mono (hbody s1 (hr.deeper _) I x.toInCall.keep) (fun fl s' hs=>?_) fun e s' hs=>hs
 cases fl with
 |ret u=>exact hs
 |next=>exact hs
 |brk=>exact False.elim hs
 |cont=>exact False.elim hs
end
end L2
end
noncomputable section
namespace L2
open PySem PySem.Spec PyProof.Rows
section
variable{M:Model}{A:Around}{E:Value->Shared->Prop}
theorem excSub{h:Heap}{g:Array GenState}{dr:Drawn}{tk:Nat}{os:OsState}{e C D N N':Addr}{oe:Obj}{nm q nm' q':Str}{bs bm bs' bm' sub sub':List Value}{hdct hdct' ab ab':Bool}{sn sn':List Str}{col col':Option Bool}{dd dd':Option Addr}{k0 k1 k2 k3 k5 l0 l1 l2 l3 l5:Option Value}{ni ni':String}{Q:Bool->Shared->Prop}{b:Bool}
  (hC:h.get? C=some (excClassObj nm q C N bs bm hdct sn sub ab col dd k0 k1 k2 k3 k5 ni)) (hD:h.get? D=some (excClassObj nm' q' D N' bs' bm' hdct' sn' sub' ab' col' dd' l0 l1 l2 l3 l5 ni'))
  (he:h.get? e=some oe) (hcls:oe.cls=.ref C) (hbase:bm'.contains (.type "BaseException")=true) (hb:(Value.ref C::bm).contains (.ref D)=b)
  (hq:Q b ⟨h,g,dr,tk,os⟩):wpAny M A (excMatches (.ref e) (.ref D)) Q E ⟨h,g,dr,tk,os⟩:=by
 have hB:(Value.ref D::bm').contains (.type "BaseException")=true:=by rw[List.contains_cons,hbase,Bool.or_true]
 have f:=tc_notTuple
 unfold excMatches
 repeat (first
  |(with_reducible refine wpAny_loadPart_at he ?_;rw[hcls])
  |with_reducible refine wpAny_loadPart_at hD ?_
  |(with_reducible refine wpAny_isSubtype_exc hD ?_;rw[hB])
  |(with_reducible refine wpAny_isSubtype_exc hC ?_;rw[hb])
  |wp_step)
 cases b<;>(wp_walk;exact hq)
end
section
variable{X:Cx}{pins:List (Addr×Obj)}{σ:St}{H H1:Hp}{s s':Shared}
theorem Inv.caught{a:Addr}{cls a0:Value}{B h1 h6:Heap}{tk:Tok}(I:Inv X pins σ H s)(os:s'.os=s.os)(bare:AllBare s'.gens)(fl:Heap.FlyingW B X.stack a cls a0 h6)
  (un:Un (frs X.stack) [] H H1 s.heap h1) (hok:HOk X.prog X.w H1 h1) (sl:h1.UpToSlots h6)
  (cond:∀b o,h1.get? b=some o->(b<s.heap.objs.size\/H1 b≠none)->b ∉ frs X.stack->B.get? b=some o):Inv X pins σ H1 { s' with heap:=h6,toks:=tk }:=by
 have fr:∀b o,b∈frs X.stack->s.heap.get? b=some o->∀vs,o.data≠.fields vs:=fun b o hb e=>by
  obtain⟨_,o',ho,hd⟩:=I.stack.mem hb
  rw[e] at ho
  cases ho
  exact hd
 have frn:∀b∈frs X.stack,H1 b=none:=fun b hb=>by
  obtain⟨_,o',ho,hd⟩:=I.stack.mem hb
  exact un.free b o' ho (I.stkFree b hb) (by simp)
 have u6:Un (frs X.stack) [] H H1 s.heap h6:=by
  refine⟨fun b o e n hb hx=>?_,fun b o e n hb hx=>?_,un.free,fun b o e hx=>?_,un.tups,un.frzs,un.tbls⟩
  ·exact fl.1 b o (cond b o (un.keep b o e n hb hx) (.inl (Heap.lt_size e)) hb)
  ·obtain⟨sl1,e1⟩:=un.slot b o e n hb hx
   obtain⟨sl2,e2⟩:=sl b _ e1 (fr b o hb e)
   exact⟨sl2,e2⟩
  ·by_cases hb:b∈frs X.stack
   ·obtain⟨sl1,e1⟩:=un.slot b o e (I.stkFree b hb) hb hx
    obtain⟨sl2,e2⟩:=sl b _ e1 (fr b o hb e)
    exact⟨_,e2⟩
   ·obtain⟨o',e1⟩:=un.there b o e hx
    exact⟨o',fl.1 b o' (cond b o' e1 (.inl (Heap.lt_size e)) hb)⟩
 have hok6:HOk X.prog X.w H1 h6:=fun b o e=>(hok b o e).stay (fun c v hc q=>by
  have nn:H1 c≠none:=by
   rcases hc with rfl | hc
   ·rw[e];simp
   ·rw[hc];simp
  exact fl.1 c v (cond c v q (.inr nn) fun hm=>nn (frn c hm))) (fun _ q=>q) fun _ _ q=>q
 have J:=I.call (h':=h6) (g':=s'.gens) (t':=tk) (d':=s'.drawn) (ch:=[]) u6 hok6 bare (fun b z=>absurd z (by simp))
 obtain⟨hh,g,d,t,os'⟩:=s'
 obtain rfl:os'=s.os:=os
 exact J
abbrev Cx.held(X:Cx)(e:Value)(E:Value->Shared->Prop):Cx:={ X with A:=X.A.mark (some e),calm:=false,xe:=E }
theorem Inv.held(I:Inv X pins σ H s)(e:Value)(E:Value->Shared->Prop):Inv (X.held e E) pins σ H s:=
 ⟨⟨I.ok.mod,I.ok.kind,I.ok.glob,I.ok.blt,I.ok.above,I.ok.inj,I.ok.has,I.ok.cab,fun z=>absurd (show false=true from z) Bool.false_ne_true,I.ok.frames,I.ok.stk,I.ok.exf,I.ok.bs,I.ok.bsz,I.ok.noex,I.ok.exfs,I.ok.funs,I.ok.frf⟩,
  I.os,I.bare,I.base,I.loc,I.cell,I.free,I.freeC,I.pin,I.hok,I.len⟩
theorem Inv.unheld{e:Value}{E:Value->Shared->Prop}(ok:X.Ok)(I:Inv (X.held e E) pins σ H s):Inv X pins σ H s:=
 ⟨ok,I.os,I.bare,I.base,I.loc,I.cell,I.free,I.freeC,I.pin,I.hok,I.len⟩
theorem SP.unheld{e:Value}{E:Value->Shared->Prop}{D:Ends}{f:Flow}(ok:X.Ok)(h:SP (X.held e E) pins D f s'):SP X pins D f s':=by
 cases f with
 |next=>obtain⟨σ',H',I,q⟩:=h;exact⟨σ',H',I.unheld ok,q⟩
 |brk=>obtain⟨σ',H',I,q⟩:=h;exact⟨σ',H',I.unheld ok,q⟩
 |cont=>obtain⟨σ',H',I,q⟩:=h;exact⟨σ',H',I.unheld ok,q⟩
 |ret u=>obtain⟨v,σ',H',I,rv,q⟩:=h;exact⟨v,σ',H',I.unheld ok,rv,q⟩
theorem not_own{K:PySem.W.Frag}{h:Heap}{C D N:Addr}{nm q:Str}{bs bm sub:List Value}{hdct ab:Bool}{sn:List Str}{col:Option Bool}{dd:Option Addr}{k0 k1 k2 k3 k5:Option Value}{ni:String}(KX:K.In h)(n:NotSub K C D)
  (hC:h.get? C=some (excClassObj nm q C N bs bm hdct sn sub ab col dd k0 k1 k2 k3 k5 ni)):(Value.ref C::bm).contains (.ref D)=false:=by
 obtain⟨c,d,cd,sl,e1,e2⟩:=n
 have e3:=KX _ _ e1
 rw[hC] at e3
 have e4:=Option.some.inj e3
 unfold excClassObj at e4
 injection e4 with _ _ e5 _
 injection e5 with e6
 rw[<-e6] at e2
 exact e2
section
variable{e C D:Addr}{x y:Str}{np pos:Pos}{b0:Stmt}{suite:List Stmt}{rest:List ExceptHandler}{Ds:Ends}{B1 B2 n1 n2 i1 i2:String}{bm1 bm2:List Value}{B:Heap}{a0:Value}
theorem miss(I:Inv X pins σ H s)(fl:Heap.FlyingW B X.stack e (.ref C) a0 s.heap)(hg:Gl X x)(OC:OwnCls y C bm1 n1 X.mg X.base)(OD:OwnCls x D bm2 n2 X.mg X.base)(FD:ExcBaseFacts B2 n2 i2 bm2)(hn:NotSub X.K C D)
  (h:wpAny (model X.prog X.w) X.A (handleBy (.ref e) X.env rest) (SP X pins Ds) X.xe s) (hd:(x==("__debug__":Str))=false:=by decide) :
  wpAny (model X.prog X.w) X.A (handleBy (.ref e) X.env (.ExceptHandler (some (.Name x np)) none (b0::suite) pos::rest)) (SP X pins Ds) X.xe s:=by
 obtain⟨oe,he,hcls⟩:=fl.there
 obtain⟨tl,N,nm,q,bs,hdct,sn,sub,ab,col,dd,k0,k1,k2,k3,k5,mN,hC,_,_,_⟩:=OC.obj
 obtain⟨tl',N',nm',q',bs',hdct',sn',sub',ab',col',dd',l0,l1,l2,l3,l5,mN',hD,_,_,T'⟩:=OD.obj
 refine wpAny_handleBy_cons (codeAny_handlers_test ?_) (by intro z;cases z)
 refine lg10 (I.held (.ref e) fun _ _=>True) hg OD.bound ?_ hd
 obtain⟨hp,g,dr,tk,os⟩:=s
 exact excSub (I.bk _ _ hC) (I.bk _ _ hD) he hcls (T'.hasType FD.hasBase) (not_own I.kIn hn (I.bk _ _ hC)) h
theorem hit{t:TS}(I:Inv X pins σ H s)(fl:Heap.FlyingW B X.stack e (.ref C) a0 s.heap)(hg:Gl X x)(OC:OwnCls x C bm1 n1 X.mg X.base)(FC:ExcBaseFacts B1 n1 i1 bm1)
  (hs:∀E,PSs (X.held (.ref e) E) (b0::suite) t) (h:t Ds σ H) (again:∀h6,Heap.FlyingW B X.stack e (.ref C) a0 h6->s.heap.UpToSlots h6->Inv X pins σ H { s with heap:=h6 }) (hd:(x==("__debug__":Str))=false:=by decide) :
  wpAny (model X.prog X.w) X.A (handleBy (.ref e) X.env (.ExceptHandler (some (.Name x np)) none (b0::suite) pos::rest)) (SP X pins Ds) X.xe s:=by
 obtain⟨oe,he,hcls⟩:=fl.there
 obtain⟨tl,N,nm,q,bs,hdct,sn,sub,ab,col,dd,k0,k1,k2,k3,k5,mN,hC,_,_,T⟩:=OC.obj
 refine wpAny_handleBy_cons (codeAny_handlers_test ?_) (by intro z;cases z)
 refine lg10 (I.held (.ref e) fun _ _=>True) hg OC.bound ?_ hd
 obtain⟨hp,g,dr,tk,os⟩:=s
 refine excSub (b:=true) (I.bk _ _ hC) (I.bk _ _ hC) he hcls (T.hasType FC.hasBase) (by simp) (codeAny_handlers_suite (lands_againW fl fun h6 fl6 sl6=>?_))
 have J:=again h6 fl6 sl6
 exact wpAny_mono (hs _ pins _ σ H Ds (J.held (.ref e) _) h) (fun f s2 z=>z.unheld I.ok) fun _ _ z=>z
end
theorem ld_name{E:Value->Shared->Prop}{i:Nat}{x:Str}{v:V}{pos:Pos}{Q:Value->Shared->Prop}(I:Inv X pins σ H s)(hN:X.N[i]? = some x)(hv:Vis X.env.scope x)(hσ:σ[i]? = some (some v))(h:∀u,RelV v u->Q u s)
  (hd:(x==("__debug__":Str))=false) (hcd:(x==("__classdict__":Str))=false):wpAny (model X.prog X.w) X.A (eval (.Name x pos) X.env) Q E s:=by
 obtain⟨m,hn,hl⟩:=I.loc
 obtain⟨u,r,l⟩:=hl i x v hN hσ hv
 rcases l with ⟨k,hm⟩ | ⟨k | k,c,hc,z⟩
 ·exact wpAny_Name (wpAny_loadName_local I.ok.kind k hn hm (h u r)) hd
 ·exact wpAny_Name (wpAny_loadName_cell I.ok.kind k hc z (h u r)) hd
 ·exact wpAny_Name (wpAny_loadName_free I.ok.kind k hc z (h u r) hcd) hd
theorem try_call{Ds:Ends}{x:Str}{np cp rp pos:Pos}{h0:ExceptHandler}{hs:List ExceptHandler}{i:Nat}{p:Addr}{o:Obj}{fd:FuncData}{E:XK}(I:Inv X pins σ H s)(hL:X.stack=X.env::X.outer)(hfr:X.env.frame=some X.env.locals)(hN:X.N[i]? = some x)
  (hv:Vis X.env.scope x) (hσ:σ[i]? = some (some (.ref p))) (ho:s.heap.get? p=some o) (hd:o.data=.func fd)
  (run:codeAny (model X.prog X.w) X.A (.call (.ref p) ⟨[],[]⟩) (CR (CX1 X.prog X.w) X.stack X.prog X.w H s Ds.rt E) s)
  (land:∀(a C:Addr) (a0:Value) (B h3:Heap) (s':Shared) (H1:Hp),Heap.FlyingW B X.stack a (.ref C) a0 h3->(∀h6,Heap.FlyingW B X.stack a (.ref C) a0 h6->h3.UpToSlots h6->Inv X pins σ H1 { s' with heap:=h6 })->E (.ref C) none H1 ->
   wpAny (model X.prog X.w) X.A (handleBy (.ref a) X.env (h0::hs)) (SP X pins Ds) X.xe { s' with heap:=h3 })
  (hdb:(x==("__debug__":Str))=false:=by decide) (hcd:(x==("__classdict__":Str))=false:=by decide) :
  wpAny (model X.prog X.w) X.A (exec (.Try [.Return (some (.Call (.Name x np) [] [] cp)) rp] (h0::hs) [] [] pos) X.env) (SP X pins Ds) X.xe s:=by
 refine wpAny_Try_except (wpAny_execs_cons (wpAny_Return_some ?_))
 refine wpAny_Call_Name_kw ?_
 refine ld_name I hN hv hσ (fun u ru=>?_) hdb hcd
 obtain rfl:u=Value.ref p:=ru
 refine callWith_meth0 hd ho (wpAny_call (codeAny_mono run fun r s' hq=>?_))
 cases r with
 |ok f=>
  cases f with
  |ret u=>
   obtain⟨v,H',I',rv,q⟩:=I.after hq
   exact⟨v,σ,H',I',rv,q⟩
  |next=>exact False.elim hq
  |brk=>exact False.elim hq
  |cont=>exact False.elim hq
 |error e=>
  obtain⟨a,C,a0,B,h1,H1,rfl,os,bare,fl,un,hok,sl,cond,hE⟩:=hq
  have hst:X.A.frames=some (X.env::X.outer):=I.ok.frames.trans (congrArg some hL)
  rw[hL] at fl
  refine wpAny_looks_onW hst hfr fl fun h2 fl2 sl2=>wpAny_landsW fl2 fun h3 fl3 sl3=>?_
  rw[<-hL] at fl3
  exact land a C a0 B h3 s' H1 fl3 (fun h6 fl6 sl6=>Inv.caught (tk:=s'.toks) I os bare fl6 un hok (((sl.trans sl2).trans sl3).trans sl6) cond) hE
end
end L2
end
noncomputable section
namespace L2
open PySem PySem.Spec PyProof.Rows
open PySem.W (kla_fn kla_obj envX CodeHd tabObj)
section
variable{X:Cx}{pins:List (Addr×Obj)}{σ:St}{H:Hp}{s:Shared}
theorem Inv.grown{T:Addr}{ps more:Array Value}{h':Heap}{tk:Tok}(I:Inv X pins σ H s)(hT:H T=some (.tbl ps))(ext:Heap.ExtBut T s.heap h')(new:h'.get? T=some (tabObj (ps++more))) :
  Inv X pins σ (upd H T (.tbl (ps++more))) { s with heap:=h',toks:=tk }:=by
 have ne:∀b,H b=none->b≠T:=fun b e z=>by rw[z,hT] at e;cases e
 have nx:∀b u,H b=some u->(∀q,u≠.tbl q)->b≠T:=fun b u e hu z=>by rw[z,hT] at e;cases e;exact hu _ rfl
 refine I.step (g':=s.gens) (d':=s.drawn) (ch:=[]) (fun _ z=>nomatch z) (fun b o _ _ _ e n=>ext b o (ne b n) e) (fun b o _ _ _ e n=>⟨o.slots,ext b o (ne b n) e⟩) (fun b o _ e n=>by rw[un10 (ne b n)];exact n) (fun b o _ e=>?_)
  (fun b xs e=>by rw[un10 (nx b _ e fun _ z=>by cases z)];exact e) (fun b o u e=>by rw[un10 (nx b _ e fun _ z=>by cases z)];exact e) (fun b q e=>?_) (fun m hm=>hm.extBut ext (ne _ I.free)) (fun b o e=>?_) I.bare
 ·by_cases z:b=T
  ·exact⟨_,by rw[z];exact new⟩
  ·exact⟨o,ext b o z e⟩
 ·by_cases z:b=T
  ·subst z
   rw[hT] at e
   cases e
   exact⟨more,us10⟩
  ·exact⟨#[],by rw[un10 z,e];simp⟩
 ·by_cases z:b=T
  ·subst z
   rw[us10] at e
   cases e
   exact new
  ·rw[un10 z] at e
   refine (I.hok b o e).stay (fun c v hc q=>ext c v (fun y=>?_) q) (fun c q=>by rw[un10 (nx c _ q fun _ y=>by cases y)];exact q) fun c xs q=>by rw[un10 (nx c _ q fun _ y=>by cases y)];exact q
   rcases hc with hc | hc
   ·exact z (hc.symm.trans y)
   ·rw[y,hT] at hc;cases hc
theorem lam_made{E:Value->Shared->Prop}{Q:Value->Shared->Prop}{params:Arguments}{body:Expr}{scope:Scope}{pos:Pos}{c T:Addr}(I:Inv X pins σ H s)(hcode:X.env.code=.ref c)(C:CodeHd X.base c T)(hT:H T=some (.tbl #[]))(hB:∀T,X.base.get? T=none->X.base.BuiltinsAt X.mg T)
  (hcl:∀y∈scope.names,y.2=.free->∃c,X.env.cells.lookup y.1=some c) (hdef:defaultsOf params X.env=([],[]))
  (h:∀(p c':Addr) (pm ctv:Value) (s2:Shared) (H2:Hp),s2.heap.get? p=some (kla_obj "<lambda>" (X.env.qual ++ "<lambda>") params body scope (cloFrom X.env.cells scope.names []) pm c' ctv)->s2.heap.CodeRec (.ref c') (X.env.qual ++ "<lambda>") ->
   (∀b o,s.heap.get? b=some o->b≠T->s2.heap.get? b=some o)->Inv X pins σ H2 s2->(∀b,b≠T->H2 b=H b)->(∃more,H2 T=some (.tbl more))->Q (.ref p) s2) :
  wpAny (model X.prog X.w) X.A (eval (.Lambda params body scope pos) X.env) Q E s:=by
 have hP:s.heap.get? T=some (tabObj #[]):=I.hok T _ hT
 have bT:X.base.get? T=none:=by
  cases e:X.base.get? T with
  |none=>rfl
  |some o=>rw[(I.bs T o e).2] at hT;cases hT
 have hgP:mainGlobals≠T:=fun z=>by
  obtain⟨o,es,ep,e,_⟩:=I.mod.glob
  rw[z,bT] at e
  cases e
 have hBs:s.heap.BuiltinsAt X.mg T:=by
  obtain⟨bm,o,b1,b2,b3,b4,b5,b6,b7,b8⟩:=hB T bT
  exact⟨bm,o,b1,b2,b3,b4,I.bk _ _ b5,b6,b7,b8⟩
 refine PySem.W.kla_eval hdef (PySem.W.kla_makeFunction (mg:=X.mg) (ps:=#[]) (closure_ok hcl) I.ok.glob (I.mod.glob.keeps I.bk) hcode (C.keeps I.bk) hP trivial rfl hgP hBs fun c' ctv h' tk ext hge hlt rec_ tab=>?_)
 have push:∀{b o} (q:Obj),h'.get? b=some o->(h'.push q).get? b=some o:=fun q e=>Heap.get?_push_of_some _ e
 refine h h'.objs.size c' _ ctv _ (upd H T (.tbl (#[] ++ #[rawInt pos.line,rawInt pos.col,.ref c']))) (Heap.get?_push_size _ rfl) ?_ (fun b o e z=>push _ (ext b o z e)) (I.grown (more:=#[rawInt pos.line,rawInt pos.col,.ref c']) hT (fun b o z e=>push _ (ext b o z e)) (push _ tab)) (fun b z=>un10 z) ⟨_,us10⟩
 obtain⟨c2,oc,vs,tq,e1,e2,e3,e4⟩:=rec_
 exact⟨c2,oc,vs,tq,e1,push _ e2,e3,e4⟩
theorem ls11{α β:Type}[BEq α][LawfulBEq α]:∀{l:List (α×β)}{x:α}{c:β},(x,c)∈l->∃d,l.lookup x=some d
 |[],_,_,h=>by simp at h
 |(y,d)::r,x,c,h=>by
  rw[List.lookup_cons]
  cases e:x==y with
  |true=>exact⟨d,rfl⟩
  |false=>
   rcases List.mem_cons.mp h with z | z
   ·cases z;simp at e
   ·exact ls11 z
theorem cl10{cells:List (Str×Addr)}{names:List (Str×NameKind)}(hcl:∀y∈names,y.2=.free->∃c,cells.lookup y.1=some c){x:Str}{c:Addr}(h:(cloFrom cells names []).lookup x=some c):cells.lookup x=some c:=by
 rcases cm10 (PySem.mem_of_lookup h) with z | ⟨z,e⟩
 ·simp at z
 ·obtain⟨d,hd⟩:=hcl _ z rfl
  have hd:cells.lookup x=some d:=hd
  rw[hd] at e
  rw[hd,e];rfl
theorem Clo.of{scope:Scope}{vs:List V}{h':Heap}(I:Inv X pins (vs.map some) H s)(hk:scope.kind=.function)(hc:∀x∈scope.names,x.2≠.cell)(hcl:∀y∈scope.names,y.2=.free->∃c,X.env.cells.lookup y.1=some c)
  (hfree:∀x∈X.N,scope.names.lookup x=some .free) (hnl:∀x∈X.N,X.env.kindOf x=some .cell) (keep:∀b o,s.heap.get? b=some o->h'.get? b=some o):Clo scope (cloFrom X.env.cells scope.names []) H h' X.N vs:=by
 have ck:∀c v,s.heap.IsCell c v->h'.IsCell c v:=fun c v ⟨o,ho,hd⟩=>⟨o,keep _ _ ho,hd⟩
 refine⟨hk,hc,fun x y c a b=>I.ok.inj x y c (cl10 hcl a) (cl10 hcl b),fun x e=>?_,fun x c e=>?_,?_,fun i x v e1 e2=>?_⟩
 ·exact ls11 (ch10 (PySem.mem_of_lookup e))
 ·obtain⟨v,z⟩:=I.cell x c (cl10 hcl e)
  exact⟨⟨v,ck _ _ z⟩,I.freeC x c (cl10 hcl e)⟩
 ·have:=I.len;rw[List.length_map] at this;exact this
 ·have hx:=List.mem_of_getElem? e1
  refine⟨hfree x hx,?_⟩
  obtain⟨m,hn,hl⟩:=I.loc
  have vis:Vis X.env.scope x:=.inr (.inl (hnl x hx))
  obtain⟨u,r,lk⟩:=hl i x v e1 (by rw[List.getElem?_map,e2];rfl) vis
  rcases lk with ⟨k,_⟩ | ⟨_,c,e,z⟩
  ·rw[hnl x hx] at k;cases k
  ·obtain⟨d,hd⟩:=ls11 (ch10 (cells:=X.env.cells) (acc:=[]) (PySem.mem_of_lookup (hfree x hx)))
   have h2:=cl10 hcl hd
   rw[e] at h2
   cases h2
   exact⟨u,c,r,hd,ck _ _ z⟩
theorem splice1{M:Model}{A:Around}{E:Value->Shared->Prop}{env:Env}{e:Expr}{pos:Pos}{Q:List Value->Shared->Prop}{s:Shared}(h:wpAny M A (eval e env) (fun v s1=>Q [v] s1) E s)(hs:starEach [e] env=[(false,eval e env)]:=by rfl) :
  wpAny M A (spliced (backTo pos (starEach [e] env))) Q E s:=by
 rw[hs]
 show wpAny M A (spliced ((false,eval e env)::backTo pos [])) Q E s
 exact Calls.spliced_cons (thn h fun v s1 q=>Calls.spliced_nil q)
end
end L2
end
noncomputable section
namespace L2
open PySem PySem.Spec PyProof.Rows
open PySem.W (tabObj CodeHd ReadsAllW ReadsW WData)
structure Law0(P:Program)(w:World)(K:PySem.W.Frag)(mg:Str->Option Value)(s:Shared)(l T:Addr)(ns:List Int)(base:Heap)(H:Hp):Prop where
 env:Env0 P w K mg base callerA [] s H
 kin:K.In base
 txt:SqL K H l (ns.map V.int)
 tab:H T=some (.tbl #[])
 bas:∀b o,s.heap.get? b=some o->H b=none->base.get? b=some o
 only:∀b,H b=none\/(b=T)\/∃o xs,H b=some (.frz o (.lst xs))/\b=l
theorem law0{P:Program}{w:World}{K:PySem.W.Frag}{mg mb:Str->Option Value}{s:Shared}{l T:Addr}{vs:List Value}{ns:List Int}
  (KX:K.In s.heap) (hns:s.heap.Ns mainGlobals mg) (hb:s.heap.Ns builtinsNs mb) (hbb:∀x:Str,x≠"__name__"->mb x=bootBuiltins x) (hlim:s.heap.NoLimit) (hg:s.gens = #[])
  (ha:s.heap.get? l=some { cls:=.type "list",data:=.seq vs.toArray }) (hi:IntsAre vs ns) (hl:ns.length<=sizeLine) (hT:s.heap.get? T=some (tabObj #[])) (hKT:K.lookup T=none) :
  ∃base H,Law0 P w K mg s l T ns base H:=by
 have rv:=vi hi
 have lenV:=hi.length
 have hlT:l≠T:=fun z=>by rw[z,hT] at ha;cases ha
 have core:∀H:Hp,SqL K H l (ns.map V.int)->HOk P w H s.heap->H T=some (.tbl #[])->(∀b,H b=none\/(b=T)\/∃o xs,H b=some (.frz o (.lst xs))/\b=l)->(H l≠none->K.lookup l=none)->∃base H,Law0 P w K mg s l T ns base H:=by
  intro H hS hok tT hA hK
  have bas:∀b o,s.heap.get? b=some o->H b=none->(hidT s.heap H).get? b=some o:=fun b o e n=>hidT_get e n
  have noA:∀{b:Addr} {o:Obj} {es:Array DictEntry} {ep:Nat},s.heap.get? b=some o->o.data=.dict es ep->H b=none:=fun {b o es ep} e d=>by
   rcases hA b with z | z | ⟨_,_,_,z⟩
   ·exact z
   ·rw[z,hT] at e;cases e;cases d
   ·rw[z,ha] at e;cases e;cases d
  have nsK:∀{b:Addr} {m:Str->Option Value},s.heap.Ns b m->(hidT s.heap H).Ns b m:=fun {b m} ⟨o,es,ep,e,d,r⟩=>⟨o,es,ep,bas _ _ e (noA e d),d,r⟩
  have hKb:K.In (hidT s.heap H):=fun b o e=>bas b o (KX b o e) (by
   rcases hA b with z | z | ⟨o',xs,q,z⟩
   ·exact z
   ·rw[z,hKT] at e;cases e
   ·rw[z] at e q;rw[hK (by rw[q];simp)] at e;cases e)
  have hM:Mod K mg (hidT s.heap H):=⟨hKb,nsK hns,⟨mb,nsK hb,hbb⟩,let ⟨mc,h1,h2⟩:=hlim;⟨mc,nsK h1,h2⟩⟩
  exact⟨_,H,⟨rfl,hM,fun b o e=>of_hidT e,Nat.le_of_eq (hidT_size _ _),trivial,fun b hb=>absurd (show b∈([]:List Addr) from hb) (by simp),hok,.of_eq hg⟩,hKb,hS,tT,bas,hA⟩
 cases hk:K.lookup l with
 |some o=>
  have e:=KX l o hk
  rw[ha] at e
  cases e
  refine core (upd (fun _=>none) T (.tbl #[])) (.inr ⟨_,vs.toArray,_,hk,rfl,rfl,rfl,by rw[List.size_toArray,lenV];exact hl,by simpa using rv⟩) (fun b u z=>?_) us10 (fun b=>?_) fun z=>absurd (by rw[un10 hlT]) z
  ·by_cases hb:b=T
   ·subst hb
    rw[us10] at z
    cases z
    exact hT
   ·rw[un10 hb] at z;cases z
  ·by_cases hb:b=T
   ·exact .inr (.inl hb)
   ·exact .inl (by rw[un10 hb])
 |none=>
  refine core (upd (upd (fun _=>none) T (.tbl #[])) l (.frz { cls:=.type "list",data:=.seq vs.toArray } (.lst (ns.map V.int)))) (.inl (.inr ⟨{ cls:=.type "list",data:=.seq vs.toArray },us10⟩)) (fun b u z=>?_) (by rw[un10 hlT.symm];exact us10) (fun b=>?_) fun _=>hk
  ·by_cases hb:b=l
   ·subst hb
    rw[us10] at z
    cases z
    exact⟨ha,by rw[List.length_map];exact hl,vs,_,rv,ha⟩
   ·rw[un10 hb] at z
    by_cases hb2:b=T
    ·subst hb2
     rw[us10] at z
     cases z
     exact hT
    ·rw[un10 hb2] at z;cases z
  ·by_cases hb:b=l
   ·exact .inr (.inr ⟨_,_,by rw[hb];exact us10,hb⟩)
   ·by_cases hb2:b=T
    ·exact .inr (.inl hb2)
    ·exact .inl (by rw[un10 hb,un10 hb2])
theorem reads_ints{cl:Str->Option Addr}{h:Heap}:∀{its:List Value}{zs:List Int},Vals (zs.map V.int) its->ReadsAllW [] cl h its (zs.map WData.int) []
 |_,[],r=>by cases r;exact .nil
 |_,z::zs,r=>by
  cases r with
  |cons a b=>
   obtain⟨t,rfl⟩:=a
   exact ReadsAllW.cons (as:=[]) (bs:=[]) (.int z t) (reads_ints b)
theorem good_ints{r:PySem.W.OpenSpec}{P:Program}{w:World}{K:PySem.W.Frag}{mg:Str->Option Value}{s s':Shared}{l T c:Addr}{ns zs:List Int}{base:Heap}{H:Hp}{cl:Str->Option Addr}{mean:ExcName->Option Value}{args:List WData}{u:Value}
  (L:Law0 P w K mg s l T ns base H) (hT:s.heap.TableAt c T #[]) (hc:CE [] P w H s (fun v H'=>∃p,v=.ref p/\H' p=some (.lst (zs.map V.int))) u s') (post:r.claim.post args (.list (zs.map .int)) args=true) :
  PySem.W.GoodWG r.claim cl mean args s (.ok (.ret u)) s':=by
 obtain⟨v,H',os,bare,un,hok,rv,p,rfl,hp⟩:=hc
 obtain rfl:u=Value.ref p:=rv
 obtain⟨z,its,n,r1,e⟩:=hok p _ hp
 have keepN:∀b o,s.heap.get? b=some o->H b=none->s'.heap.get? b=some o:=fun b o e n=>un.keep b o e n (by intro z;exact absurd (show b∈([]:List Addr) from z) (by simp)) (by simp)
 have old:∀b o,s.heap.get? b=some o->b≠T->s'.heap.get? b=some o:=fun b o e hb=>by
  rcases L.only b with q | q | ⟨ob,xs,q,_⟩
  ·exact keepN b o e q
  ·exact absurd q hb
  ·have z2:=un.frzs b ob _ q
   obtain⟨e1,_⟩:=L.env.hok b _ q
   obtain⟨e2,_⟩:=hok b _ z2
   rw[e] at e1;cases e1
   exact e2
 obtain⟨more,hm⟩:=un.tbls T #[] L.tab
 have hT':s'.heap.get? T=some { cls:=.none,data:=.fields (#[]++more) }:=hok T _ hm
 have hT0:s.heap.get? T=some { cls:=.none,data:=.fields #[] }:=L.env.hok T _ L.tab
 refine⟨.inl ⟨.ref p,_,[p],rfl,PySem.W.osNone,ReadsW.list e rfl rfl (by rw[List.toList_toArray];exact reads_ints r1),post,fun z=>absurd (show false=true from z) Bool.false_ne_true⟩,⟨fun b o e=>?_,fun b o e=>?_⟩,os,bare⟩
 ·by_cases hb:b=T
  ·subst hb
   rw[hT0] at e
   cases e
   exact .inr (.inl ⟨hT.isCodeTable,rfl,#[],more,rfl,hT'⟩)
  ·exact .inl (old b o e hb)
 ·by_cases hb:b=T
  ·subst hb;exact⟨_,hT'⟩
  ·exact⟨o,old b o e hb⟩
end L2
end
noncomputable section
namespace L2
open PySem PySem.Spec PyProof.Rows
section
variable{K:PySem.W.Frag}{a b:Addr}{xs ys:List V}{g:TG}
theorem lc_zip{tt:TT}{te:TE}{vs:List Nat}{σ:St}{H1:Hp}{D:Addr}{Qd:Hp->Prop}(hlen:xs.length=ys.length)(Pv:Nat->Hp->Prop)(h0:Pv 0 (upd H1 D (.lst [])))(hl:∀i H,i<=xs.length->Pv i H->SqL K H a xs/\SqL K H b ys)
  (hs:∀i x y H T,xs[i]? = some x->ys[i]? = some y->H T=none->Pv i H->g (.ref T) (wipe σ vs) (upd H T (.tup [x,y])) fun σ2 H2=>wipe σ2 vs=wipe σ vs/\tt σ2 H2 fun c H3=>
   if c=true then te σ2 H3 fun z H4=>∃acc,H4 D=some (.lst acc)/\acc.length<sizeLine/\Pv (i+1) (upd H4 D (.lst (acc++[z]))) else Pv (i+1) H3) (hd:∀H,Pv xs.length H->Qd H) :
  ∃W:Nat->Nat->Hp->Prop,(∃m,W 0 m (upd H1 D (.lst [])))/\∀i m H,W i m H ->
   ((Itz K a b).stop i H/\Qd H)\/((Itz K a b).go i H/\∃Nx:Hp->Prop,(∀H',Nx H'->∃m',m'<m/\W (i+1) m' H')/\∀x H',(Itz K a b).yld i H x H'->g x (wipe σ vs) H' fun σ2 H2=>wipe σ2 vs=wipe σ vs/\tt σ2 H2 fun c H3=>
    if c=true then te σ2 H3 fun z H4=>∃acc,H4 D=some (.lst acc)/\acc.length<sizeLine/\Nx (upd H4 D (.lst (acc++[z]))) else Nx H3):=by
 refine⟨fun i m H=>m=xs.length-i/\i<=xs.length/\Pv i H,⟨xs.length,by simp,Nat.zero_le _,h0⟩,?_⟩
 rintro i m H ⟨rfl,hi,p⟩
 obtain⟨q1,q2⟩:=hl i H hi p
 by_cases hlt:i<xs.length
 ·have hlt2:i<ys.length:=by omega
  refine .inr ⟨⟨xs,ys,xs[i],ys[i],q1,q2,by simp[hlt],by simp[hlt2]⟩,Pv (i+1),fun H' p'=>⟨xs.length-(i+1),by omega,rfl,hlt,p'⟩,fun v H' yy=>?_⟩
  obtain⟨T,x,y,rfl,hT,rfl,e1,e2⟩:=yy
  exact hs i x y H T (e1 xs q1) (e2 ys q2) hT p
 ·obtain rfl:i=xs.length:=by omega
  exact .inl ⟨⟨xs,ys,q1,q2,.inl (Nat.le_refl _)⟩,hd H p⟩
theorem lc_enum{tt:TT}{te:TE}{vs:List Nat}{σ:St}{H1:Hp}{D:Addr}{Qd:Hp->Prop}(Pv:Nat->Hp->Prop)(h0:Pv 0 (upd H1 D (.lst [])))(hl:∀i H,i<=xs.length->Pv i H->SqL K H a xs)
  (hs:∀i x H T,xs[i]? = some x->H T=none->Pv i H->g (.ref T) (wipe σ vs) (upd H T (.tup [.int (i:Nat),x])) fun σ2 H2=>wipe σ2 vs=wipe σ vs/\tt σ2 H2 fun c H3=>
   if c=true then te σ2 H3 fun z H4=>∃acc,H4 D=some (.lst acc)/\acc.length<sizeLine/\Pv (i+1) (upd H4 D (.lst (acc++[z]))) else Pv (i+1) H3) (hd:∀H,Pv xs.length H->Qd H) :
  ∃W:Nat->Nat->Hp->Prop,(∃m,W 0 m (upd H1 D (.lst [])))/\∀i m H,W i m H ->
   ((Ite K a).stop i H/\Qd H)\/((Ite K a).go i H/\∃Nx:Hp->Prop,(∀H',Nx H'->∃m',m'<m/\W (i+1) m' H')/\∀x H',(Ite K a).yld i H x H'->g x (wipe σ vs) H' fun σ2 H2=>wipe σ2 vs=wipe σ vs/\tt σ2 H2 fun c H3=>
    if c=true then te σ2 H3 fun z H4=>∃acc,H4 D=some (.lst acc)/\acc.length<sizeLine/\Nx (upd H4 D (.lst (acc++[z]))) else Nx H3):=by
 refine⟨fun i m H=>m=xs.length-i/\i<=xs.length/\Pv i H,⟨xs.length,by simp,Nat.zero_le _,h0⟩,?_⟩
 rintro i m H ⟨rfl,hi,p⟩
 have q1:=hl i H hi p
 by_cases hlt:i<xs.length
 ·refine .inr ⟨⟨xs,xs[i],q1,by simp[hlt]⟩,Pv (i+1),fun H' p'=>⟨xs.length-(i+1),by omega,rfl,hlt,p'⟩,fun v H' yy=>?_⟩
  obtain⟨T,x,rfl,hT,rfl,e1⟩:=yy
  exact hs i x H T (e1 xs q1) hT p
 ·obtain rfl:i=xs.length:=by omega
  exact .inl ⟨⟨xs,q1,Nat.le_refl _⟩,hd H p⟩
theorem for_zip{tb:TS}{Ds:Ends}{σ:St}{H:Hp}(hlen:xs.length=ys.length)(Pv:Nat->St->Hp->Prop)(h0:Pv 0 σ H)(hl:∀i σ H,i<=xs.length->Pv i σ H->SqL K H a xs/\SqL K H b ys)
  (hs:∀i x y σ H T,xs[i]? = some x->ys[i]? = some y->H T=none->Pv i σ H->g (.ref T) σ (upd H T (.tup [x,y])) fun σ2 H2=>tb { Ds with nx:=Pv (i+1),ct:=Pv (i+1),bk:=Ds.nx } σ2 H2) (hd:∀σ H,Pv xs.length σ H->Ds.nx σ H) :
  ∃W:Nat->Nat->St->Hp->Prop,(∃m,W 0 m σ H)/\∀i m σ H,W i m σ H ->
   ((Itz K a b).stop i H/\Ds.nx σ H)\/((Itz K a b).go i H/\∃N:St->Hp->Prop,(∀σ' H',N σ' H'->∃m',m'<m/\W (i+1) m' σ' H')/\∀x H',(Itz K a b).yld i H x H'->g x σ H' fun σ2 H2=>tb { Ds with nx:=N,ct:=N,bk:=Ds.nx } σ2 H2):=by
 refine⟨fun i m σ H=>m=xs.length-i/\i<=xs.length/\Pv i σ H,⟨xs.length,by simp,Nat.zero_le _,h0⟩,?_⟩
 rintro i m σ H ⟨rfl,hi,p⟩
 obtain⟨q1,q2⟩:=hl i σ H hi p
 by_cases hlt:i<xs.length
 ·have hlt2:i<ys.length:=by omega
  refine .inr ⟨⟨xs,ys,xs[i],ys[i],q1,q2,by simp[hlt],by simp[hlt2]⟩,Pv (i+1),fun σ' H' p'=>⟨xs.length-(i+1),by omega,rfl,hlt,p'⟩,fun v H' yy=>?_⟩
  obtain⟨T,x,y,rfl,hT,rfl,e1,e2⟩:=yy
  exact hs i x y σ H T (e1 xs q1) (e2 ys q2) hT p
 ·obtain rfl:i=xs.length:=by omega
  exact .inl ⟨⟨xs,ys,q1,q2,.inl (Nat.le_refl _)⟩,hd σ H p⟩
theorem fe{tb:TS}{Ds:Ends}{σ:St}{H:Hp}(Pv:Nat->St->Hp->Prop)(h0:Pv 0 σ H)(hl:∀i σ H,i<=xs.length->Pv i σ H->SqL K H a xs)
  (hs:∀i x σ H T,xs[i]? = some x->H T=none->Pv i σ H->g (.ref T) σ (upd H T (.tup [.int (i:Nat),x])) fun σ2 H2=>tb { Ds with nx:=Pv (i+1),ct:=Pv (i+1),bk:=Ds.nx } σ2 H2) (hd:∀σ H,Pv xs.length σ H->Ds.nx σ H) :
  ∃W:Nat->Nat->St->Hp->Prop,(∃m,W 0 m σ H)/\∀i m σ H,W i m σ H ->
   ((Ite K a).stop i H/\Ds.nx σ H)\/((Ite K a).go i H/\∃N:St->Hp->Prop,(∀σ' H',N σ' H'->∃m',m'<m/\W (i+1) m' σ' H')/\∀x H',(Ite K a).yld i H x H'->g x σ H' fun σ2 H2=>tb { Ds with nx:=N,ct:=N,bk:=Ds.nx } σ2 H2):=by
 refine⟨fun i m σ H=>m=xs.length-i/\i<=xs.length/\Pv i σ H,⟨xs.length,by simp,Nat.zero_le _,h0⟩,?_⟩
 rintro i m σ H ⟨rfl,hi,p⟩
 have q1:=hl i σ H hi p
 by_cases hlt:i<xs.length
 ·refine .inr ⟨⟨xs,xs[i],q1,by simp[hlt]⟩,Pv (i+1),fun σ' H' p'=>⟨xs.length-(i+1),by omega,rfl,hlt,p'⟩,fun v H' yy=>?_⟩
  obtain⟨T,x,rfl,hT,rfl,e1⟩:=yy
  exact hs i x σ H T (e1 xs q1) hT p
 ·obtain rfl:i=xs.length:=by omega
  exact .inl ⟨⟨xs,q1,Nat.le_refl _⟩,hd σ H p⟩
end
end L2
end
noncomputable section
namespace L2
open PySem PySem.Spec PyProof.Rows
section
variable{X:Cx}
def gTwo(K:PySem.W.Frag)(i j:Nat):TG:=gTup K 2 (gCons (gName i) (gCons (gName j) gNil))
theorem pg_two(K:PySem.W.Frag){i j:Nat}{x y:Str}{k:Nat}{pos p1 p2:Pos}(hc:X.calm=true)(hN:X.N.Nodup)(hi:X.N[i]? = some x)(hj:X.N[j]? = some y)(hx:Loc X.env.scope x)(hy:Loc X.env.scope y)
  (hf:X.fn x=true\/X.env.scope.names.lookup x=some .local:=by first | exact .inl rfl | exact .inr rfl | assumption) (hf2:X.fn y=true\/X.env.scope.names.lookup y=some .local:=by first | exact .inl rfl | exact .inr rfl | assumption) (eK:X.K=K:=by rfl) :
  PG X (.Tuple [.Name x p1,.Name y p2] k pos) (gTwo K i j):=
 eK ▸ pg_tup hc (pgs_cons (pn11 hN hi hx hf) (pgs_cons (pn11 hN hj hy hf2) pgs_nil))
theorem gTwo.at{K:PySem.W.Frag}{i j:Nat}{T:Addr}{a b:V}{σ:St}{H:Hp}{Q:St->Hp->Prop}(hT:H T=some (.tup [a,b]))(h:Q ((σ.set i (some a)).set j (some b)) H):gTwo K i j (.ref T) σ H Q:=
 ⟨T,[a,b],rfl,.inl (.inl hT),rfl,a,[b],rfl,b,[],rfl,rfl,h⟩
theorem pt_truK(K:PySem.W.Frag){a:Expr}{ta:TE}(ha:PE X a ta)(he:∀whole,isTrue a X.env whole=(do let v <-whole;standAt a.pos;holding [v] (truthy v)):=by intro _;rfl)(eK:X.K=K:=by rfl) :
  PT X a (fun σ H Q=>ta σ H fun x H'=>∃k,TruV K x H' k/\Q k H'):=eK ▸ pt_truth ha he
theorem op_mulX:OpR X (binaryOp .Mult) (rI IntMulOk fun i j=>.int (i*j)):=opI fun _ _ _ _ _ _ _ hc q=>mul_int q hc
theorem mulOk{a b:Int}{m n:Nat}(ha:a.natAbs<2^m)(hb:b.natAbs<2^n)(h:m+n<=134217728):IntMulOk a b:=by
 refine IntMulOk.of_le (m:=m) (n:=n) ?_ ?_ h
 ·exact intBits_le ha
 ·exact intBits_le hb
theorem op_fdivL(hN:X.base.NoSeer)(ht:X.prog.given.tree=none)(hst:X.stack=X.env::X.outer)(hg:X.env.scope.isGenerator=false)(hc:X.env.scope.isCoroutine=false)(hd:X.A.depth+Builtin.pylongFrames<recursionLimit) :
  OpR X (binaryOp .FloorDiv) (rI (fun _ j=>0<j) fun i j=>.int (i/j)):=by
 intro pins s σ H x y v u Q I rx ry h
 obtain⟨i,j,rfl,rfl,hj,q⟩:=h
 obtain⟨t,rfl⟩:=rx
 obtain⟨t',rfl⟩:=ry
 have h1:(0:Int)<j:=hj
 exact floordiv_int (by omega) (by rw[Int.fdiv_eq_ediv_of_nonneg i (by omega)];exact⟨.int (i/j),H,I.tok _,⟨_,rfl⟩,q⟩) (.inr (PylongRoom.of I.nolimit hd (SeerAt.of (hN.keeps I.bk) ht (by rw[I.ok.frames,hst]) hg hc I.ok.blt I.ok.glob)))
end
end L2
end
noncomputable section
namespace L2
open PySem PySem.Spec PyProof.Rows
theorem lri_len:typeLookup (.type "list_reverseiterator") "__len__" = pure none:=by
 rw[typeLookup_type,builtinLookup_eq_fast]
 kernel_rfl
theorem lri_hint:typeLookup (.type "list_reverseiterator") "__length_hint__" = pure (some (.builtin "list_reverseiterator.__length_hint__")):=by
 rw[typeLookup_type,builtinLookup_eq_fast]
 kernel_rfl
section
variable{prog:Program}{w:World}{A:Around}{E:Value->Shared->Prop}{s:Shared}
theorem rev_hint{I l:Addr}{i:Int}{Q:Bool->Shared->Prop}(x:s.heap.IsRevIter I l i)(h:Q false s):wpAny (model prog w) A (Builtin.List.listLengthHint (.ref I)) Q E s:=by
 unfold Builtin.List.listLengthHint
 refine wpAny_bind (wpAny_specialOf x.typeIs lri_len ?_)
 show wpAny _ A (specialOf (Value.ref I) (Str.ofString "__length_hint__") >>= _) _ _ _
 refine wpAny_bind (wpAny_specialOf x.typeIs lri_hint ?_)
 generalize hid:("list_reverseiterator.__length_hint__":String)=id0
 wp_delta
 rw[show splitId id0=some ("list_reverseiterator","__length_hint__") by subst hid;decide +kernel]
 subst hid
 refine wpAny_bind (wpAny_isInstance (b:=true) x.typeIs (by rw[isSubtype_type];kernel_rfl) ?_)
 exact wpAny_pure h
theorem list_rev{I l:Addr}{items:Array Value}{Q:Value->Shared->Prop}(hh:A.handled=none)(x:s.heap.IsRevIter I l ((items.size:Int)-1))(hl:s.heap.IsList l items)(hne:l≠I)(hn:items.size<=sizeLine)
  (hQ:∀h' tk acc c,(∀b o,b≠I->s.heap.get? b=some o->h'.get? b=some o)->h'.get? s.heap.objs.size=some { cls:=.type "list",dict:=none,data:=.seq acc c,slots:=#[] } ->
   ItemsOf (fun i v=>items[items.size-1-i]? = some v) acc items.size->Q (.ref s.heap.objs.size) { s with heap:=h',toks:=tk }) :
  wpAny (model prog w) A (call (.type "list") [.ref I]) Q E s:=by
 refine callType_codes (Q₁:=fun ob s₁=>ob=.ref s.heap.objs.size/\s₁ = { s with heap:=s.heap.push { cls:=.type "list",data:=.seq #[] } }) F.called_list (F.typeCall_list_1 _) F.entry_list_init (code_list_new _ ⟨rfl,rfl⟩) ?_
 rintro ob s₁ ⟨rfl,rfl⟩
 have hS:(s.heap.push { cls:=.type "list",data:=.seq #[] }).get? s.heap.objs.size=some { cls:=.type "list",data:=.seq #[] }:=Heap.get?_push_size _ rfl
 refine⟨⟨_,hS,rfl⟩,F.args_list_init_2 _ _,?_⟩
 generalize hs:s.heap.objs.size=S at *
 have hIS:I<S:=by obtain⟨o,ho,_⟩:=x;rw[<-hs];exact Heap.lt_size ho
 have hlS:l<S:=by obtain⟨o,ho,_⟩:=hl;rw[<-hs];exact Heap.lt_size ho
 show wpAny _ _ (Builtin.List.listItems (.ref S) >>= fun old=>Builtin.List.listUpdate (.ref S) (fun _=>#[]) >>= fun _=>letGo old.toList.reverse >>= fun _=>Builtin.List.listExtendWith (.ref S) (.ref I) .none) _ _ _
 refine wpAny_bind ?_
 unfold Builtin.List.listItems
 refine wpAny_bind (wpAny_seqItems hS rfl (wpAny_pure ?_))
 refine wpAny_bind (m:=updateSeq S (fun _=>#[])) (wpAny_updateSeq hS rfl ?_)
 have hS2:=Heap.get?_update_self (Obj.mapSeq (fun _=>(#[]:Array Value))) hS rfl
 generalize hh2:(s.heap.push { cls:=.type "list",data:=.seq #[] }).update S (Obj.mapSeq fun _=>(#[]:Array Value))=h2 at *
 have oth:∀b o,b≠S->s.heap.get? b=some o->h2.get? b=some o:=fun b o hb e=>by
  rw[<-hh2,Heap.get?_update_other _ _ (Ne.symm hb)]
  exact Heap.get?_push_of_some _ e
 have x2:h2.IsRevIter I l ((items.size:Int)-1):=x.at fun o e=>oth I o (Nat.ne_of_lt hIS) e
 have hl2:h2.IsList l items:=hl.at fun o e=>oth l o (Nat.ne_of_lt hlS) e
 refine wpAny_bind (wpAny_letGo ?_)
 unfold Builtin.List.listExtendWith
 refine wpAny_bind (wpAny_typeOf (T:="list_reverseiterator") (Heap.IsRevIter.typeIs (s:={ s with heap:=h2 }) x2) ?_)
 have d1:Builtin.List.listSameRef (.ref S) (.ref I)=false:=by simp[Builtin.List.listSameRef,Nat.ne_of_gt hIS]
 rw[if_neg (by rw[d1];decide)]
 refine wpAny_bind (wpAny_pyIter_revIter (s:={ s with heap:=h2 }) x2 ?_)
 refine wpAny_bind (wpAny_holding (rev_hint (s:={ s with heap:=h2 }) x2 ?_))
 rw[if_neg (by decide)]
 have W:=(Walks.listRev (prog:=prog) (w:=w) (A:=A.in1.in1) hh I l hne items).toS
 have hSf:S ∉ [I,l]:=fun z=>by
  rcases List.mem_cons.mp z with e | z
  ·exact Nat.ne_of_gt hIS e
  ·exact Nat.ne_of_gt hlS (List.mem_singleton.mp z)
 refine wpAny_pure ⟨plainId_quiet F.plain_extend_loop _,codeAny_extend_loopS W hn S hSf .none items.size 0 _ #[] _ rfl (Nat.zero_le _) ⟨Nat.zero_le _,by simpa using x2,hl2⟩ hS2 (ItemsOf.nil _) fun s' acc c hm hS' hacc=>?_⟩
 rw[Moved.eq_with hm]
 refine⟨rfl,hQ s'.heap s'.toks acc c (fun b o hb e=>?_) hS' hacc⟩
 have bS:b≠S:=by rw[<-hs];exact Nat.ne_of_lt (Heap.lt_size e)
 exact hm.heap b o (by simp[bS,hb]) (oth b o bS e)
end
section
variable{X:Cx}
def tRevL(K:PySem.W.Frag)(t:TE):TE:=fun σ H Q=>t σ H fun v H1=>∃a xs,v=.ref a/\SqL K H1 a xs/\∀D,H1 D=none->Q (.ref D) (upd H1 D (.lst xs.reverse))
theorem pe_listRev{e:Expr}{te:TE}{p p2 pos pos2:Pos}(hc:X.calm=true)(hg:Gl X "list")(hm:X.mg "list" = none)(hg2:Gl X "reversed")(hm2:X.mg "reversed" = none)(he:PE X e te)
  (s1:starEach [.Call (.Name "reversed" p2) [e] [] pos2] X.env=[(false,eval (.Call (.Name "reversed" p2) [e] [] pos2) X.env)]:=by rfl) (s2:starEach [e] X.env=[(false,eval e X.env)]:=by rfl) :
  PE X (.Call (.Name "list" p) [.Call (.Name "reversed" p2) [e] [] pos2] [] pos) (tRevL X.K te):=by
 intro pins s σ H Q I h
 refine Call_ (ld_blt I hg hm (show bootBuiltins "list" = some (.type "list") by decide +kernel) (PyProof.Rows.callWith_type1 ?_ s1 rfl))
 rw[s1]
 refine Calls.spliced_cons (thn (Q:=fun v s'=>∃(a it:Addr) (xs:List V) (its:List Value) (H1:Hp) (s0:Shared),v=.ref it/\it=s0.heap.objs.size/\Inv X pins σ H1 s0/\SqL X.K H1 a xs/\Vals xs its/\s0.heap.IsList a its.toArray/\s' = { s0 with heap:=s0.heap.push (revObj a ((its.toArray.size:Int)-1)) }/\(∀D,H1 D=none->Q (.ref D) (upd H1 D (.lst xs.reverse)))/\xs.length<=sizeLine) ?_ ?_)
 ·refine Call_ (ld_blt I hg2 hm2 br (PyProof.Rows.callWith_type1 ?_ s2 rfl))
  rw[s2]
  refine Calls.spliced_cons (thn (he pins s σ H _ I h) fun u s0 ⟨x,H1,I1,r1,a,xs,ex,hq,q⟩=>?_)
  subst ex
  cases r1
  obtain⟨its,rv,p',hz⟩:=I1.list hq
  refine Calls.spliced_nil ?_
  exact call_reversed_list p'.isList ⟨a,_,xs,its,H1,s0,rfl,rfl,I1,hq,rv,p'.isList,rfl,q,hz⟩
 ·rintro v s' ⟨a,it,xs,its,H1,s0,rfl,rfl,I1,hq,rv,hl,rfl,q,hz⟩
  refine Calls.spliced_nil ?_
  have hla:a<s0.heap.objs.size:=by obtain⟨o,ho,_⟩:=hl;exact Heap.lt_size ho
  have hsz:its.toArray.size<=sizeLine:=by rw[List.size_toArray,<-rv.length];exact hz
  refine list_rev (l:=a) (items:=its.toArray) (I1.ok.hd hc) ⟨_,Heap.get?_push_size _ rfl,rfl,rfl⟩ (hl.at fun o e=>Heap.get?_push_of_some _ e) (Nat.ne_of_lt hla) hsz fun h' tk acc c k e hit=>?_
  have kk:∀b u,s0.heap.get? b=some u->h'.get? b=some u:=fun b u q1=>k b u (Nat.ne_of_lt (Heap.lt_size q1)) (Heap.get?_push_of_some _ q1)
  have ea:acc=its.reverse.toArray:=by
   refine Array.ext (by rw[hit.1];simp) fun i h1 h2=>?_
   have h1':i<its.length:=by have:=hit.1;simp at this;omega
   have q1:=hit.2 i _ (Array.getElem?_eq_getElem h1)
   dsimp only at q1
   rw[List.size_toArray] at q1
   have q2:its.toArray[its.length-1-i]? = some its[its.length-1-i]:=by rw[List.getElem?_toArray];exact List.getElem?_eq_getElem (by omega)
   rw[q2] at q1
   have q3:=Option.some.inj q1
   rw[<-q3]
   simp
  have vr:Vals xs.reverse its.reverse:=rv.reverse
  have big:s0.heap.objs.size<=(s0.heap.push (revObj a ((its.toArray.size:Int)-1))).objs.size:=by simp[Heap.push]
  refine⟨.ref _,upd H1 _ (.lst xs.reverse),I1.laid (t':=tk) (a:=(s0.heap.push (revObj a ((its.toArray.size:Int)-1))).objs.size) kk big ⟨by rw[List.length_reverse];exact hz,its.reverse,c,vr,?_⟩,rfl,q _ (I1.hok.fresh big)⟩
  rw[e,ea]
end
end L2
end
noncomputable section
namespace L2
open PySem PySem.W PySem.Calls PyProof.Rows
theorem piece_any{tb:String->Option Builtin}{p:Program}{w:World}{n₀:Nat}{ann:Option Value}{env:Env}{q:Pos}{n N:Nat}{s s' r:Shared}{l:List Stmt}{c c':Code}{pos p':Pos}{f:Flow}
  (h:segRun tb p w n₀ ann 1 n s (piecesOf l env c pos [topFrame q])=some (f,s',c',p')) (k:topRun tb p w n₀ ann N s' ⟨doneF f,c',p',[topFrame q]⟩=some r):topRun tb p w n₀ ann (n+N) s (restOf l env c pos [topFrame q])=some r:=by
 obtain⟨a,ha,hN⟩:=seg_top (res:=id) (K':=doneF) (H':=leaveH env) (B:=[topFrame q]) rfl n s (piecesOf l env c pos [topFrame q])
  ⟨(execs l env).wrap doneF (leaveH env) id id,c,pos,[topFrame q]⟩ _ _ _ _ ⟨rfl,rfl,.inl ⟨rfl,rfl,_,rfl,rfl⟩⟩ h
 obtain rfl:a=f:=ha
 exact hN N r k
def runT(p:Program)(w:World)(m₀:Nat)(ann:Option Value)(M Mf:Nat)(S:SharedT)(b:List Stmt)(env:Env)(pos fp:Pos):Option Shared:=
 (segRunT treeTable p w m₀ ann 1 M S (piecesOf b env (.body b env) pos [topFrame fp])).bind fun x=>topRun treeTable p w m₀ ann Mf x.2.1.abs ⟨doneF x.1,x.2.2.1,x.2.2.2,[topFrame fp]⟩
theorem left_tree{p q:Program}{loose:List Str}{Xt:Shared->Bool}{α:Type}{Yf:Shared->α}{Ya:World->α}{N n0 kb M Mf:Nat}{H₀:Params->Heap}{gs:Array GenState}{d₀:Drawn}{k₀ m₀:Nat}{ann:Option Value}{Sb:Params->OsState->SharedT}
  {b:List Stmt} {env:Env} {pos pos' fp:Pos}
  (open_:∀w:World,(fencedOpening treeTable p w N).map (fun s=>(s.heap,s.gens,s.drawn,s.toks))=some (H₀ w.params,gs,d₀,k₀))
  (size:∀w:World,((H₀ w.params).isNs mainGlobals&&gs.size==0,(H₀ w.params).objs.size,(H₀ w.params).nsMap mainGlobals "__annotations__")=(true,m₀,ann))
  (pre:∀w:World,(fun os=>(topGo treeTable p w m₀ ann n0 ⟨H₀ w.params,gs,d₀,k₀,os⟩ (topStub p)).map (·.2))=fun _=>some ⟨denote treeTable (.body b env),.body b env,pos,[topFrame fp]⟩)
  (blk:∀w:World,(fun os=>(topGo treeTable p w m₀ ann n0 ⟨H₀ w.params,gs,d₀,k₀,os⟩ (topStub p)).bind fun x=>segRun treeTable p w m₀ ann 1 kb x.1 (blockOf b env (.body b env) pos [topFrame fp]))=fun os=>some (.next,(Sb w.params os).abs,.body b env,pos'))
  (m1:∀w:World,(fun os=>(runT p w m₀ ann M Mf (Sb w.params os) b env pos' fp).map fun s=>(staticsOk (importedModules p.main.body) (H₀ w.params) s.heap&&namesBound p s.heap&&gensDone s&&laidKept (H₀ w.params) s.heap,s.heap.bltView,tabsOk q s,pinSeenD q (drecsOf q) s,Yf s))=fun _=>some (true,bltViewBooted,true,pinGoodD (drecsOf q),Ya w))
  (m2:∀w:World,(fun os=>(runT p w m₀ ann M Mf (Sb w.params os) b env pos' fp).map fun s=>seen ((recsOf q).map (·.name)) (ownsOf q) [] { s with gens:=#[] })=fun _=>some (expectedOf q))
  (m3:∀w:World,(fun os=>(runT p w m₀ ann M Mf (Sb w.params os) b env pos' fp).map fun s=>s.heap.keysOk (looseW q loose) ((recsOf q).map (·.name)) ((litsOf q).map (·.1)) ((clssOf q (looseW q loose)).map (·.name))&&s.heap.accountedOkI (importedModules p.main.body))=fun _=>some true)
  (m4:∀w:World,(fun os=>(runT p w m₀ ann M Mf (Sb w.params os) b env pos' fp).map fun s=>s.heap.isNs mainGlobals&&s.heap.isNs builtinsNs&&tablesOk q s.heap&&Xt s&&(s.gens.size==0))=fun _=>some true)
  (m5:∀w:World,(fun os=>(runT p w m₀ ann M Mf (Sb w.params os) b env pos' fp).map fun s=>(plainSeenE q (looseW q loose) s,plainSeenD q loose s,wideSeen q s,clsSeenW q loose s))=fun _=>some (plainGoodE q (looseW q loose),plainGoodD q loose,wideGood q,clsGoodW q loose))
  (le:Nat.ble (n0+(kb+(M+Mf))) N=true):LeftO p q loose Xt Yf Ya N:=fun w=>by
 obtain⟨⟨h,gs',d,k,os⟩,e,e'⟩:=Option.map_eq_some_iff.mp (open_ w)
 obtain⟨rfl,rfl,rfl,rfl⟩:h=H₀ w.params/\gs'=gs/\d=d₀/\k=k₀:=by simpa using e'
 obtain⟨z1,z2,z3⟩:_/\_/\_:=by simpa only[Prod.mk.injEq] using size w
 obtain⟨s₁,m0,l0⟩:=Option.map_eq_some_iff.mp (congrFun (m1 w) os)
 obtain⟨l1,lb,lt,lp,l3⟩:_/\_/\_/\_/\_:=by simpa only[Prod.mk.injEq] using l0
 have x2:seen ((recsOf q).map (·.name)) (ownsOf q) [] { s₁ with gens:=#[] } = expectedOf q:=by
  have:=congrFun (m2 w) os
  rw[m0] at this
  exact Option.some.inj this
 have x3:(s₁.heap.keysOk (looseW q loose) ((recsOf q).map (·.name)) ((litsOf q).map (·.1)) ((clssOf q (looseW q loose)).map (·.name))&&s₁.heap.accountedOkI (importedModules p.main.body))=true:=by
  have:=congrFun (m3 w) os
  rw[m0] at this
  exact Option.some.inj this
 have x4:(s₁.heap.isNs mainGlobals&&s₁.heap.isNs builtinsNs&&tablesOk q s₁.heap&&Xt s₁&&(s₁.gens.size==0))=true:=by
  have:=congrFun (m4 w) os
  rw[m0] at this
  exact Option.some.inj this
 have x5:(plainSeenE q (looseW q loose) s₁,plainSeenD q loose s₁,wideSeen q s₁,clsSeenW q loose s₁)=(plainGoodE q (looseW q loose),plainGoodD q loose,wideGood q,clsGoodW q loose):=by
  have:=congrFun (m5 w) os
  rw[m0] at this
  exact Option.some.inj this
 have l2:openSeen q loose (importedModules p.main.body) Xt true s₁ = openGood q loose:=by
  unfold openSeen openGood
  rw[x2,lb,lt,lp]
  refine Prod.ext rfl (Prod.ext rfl (Prod.ext ?_ (Prod.ext rfl (Prod.ext rfl x5))))
  simp only[Bool.and_eq_true] at x3 x4 ⊢
  exact⟨⟨⟨⟨⟨x3,x4.1.1.1.1⟩,x4.1.1.1.2⟩,x4.1.1.2⟩,x4.1.2⟩,x4.2⟩
 obtain⟨⟨f,sT,c',p'⟩,y1,y3⟩:=Option.bind_eq_some_iff.mp m0
 obtain⟨⟨sa,ta⟩,a1,a2⟩:=Option.map_eq_some_iff.mp (congrFun (pre w) os)
 have b1:=congrFun (blk w) os
 rw[a1] at b1
 have b2:segRun treeTable p w m₀ ann 1 kb sa (blockOf b env (.body b env) pos [topFrame fp])=some (.next,(Sb w.params os).abs,.body b env,pos'):=b1
 obtain rfl:ta=⟨denote treeTable (.body b env),.body b env,pos,[topFrame fp]⟩:=a2
 have r1:=piece_any (segRun_of y1) y3
 have r2:=piece_block b2 r1
 have r3:=go_top a1 r2
 have r:=topRun_mono (N-(n0+(kb+(M+Mf)))) _ _ _ _ r3
 rw[show n0+(kb+(M+Mf))+(N-(n0+(kb+(M+Mf))))=N by have:=Nat.le_of_ble_eq_true le;omega] at r
 have t:topFrom treeTable p w N ⟨H₀ w.params,gs',d,k,os⟩=some s₁:=by
  unfold topFrom
  dsimp only
  rw[z1,z2,z3,r]
  show (match staticsOk (importedModules p.main.body) (H₀ w.params) s₁.heap&&namesBound p s₁.heap&&gensDone s₁&&laidKept (H₀ w.params) s₁.heap with | true=>_ | false=>_)=_
  rw[l1]
 unfold openEnds
 rw[e]
 show (topFrom treeTable p w N _).map _=_
 rw[t]
 exact congrArg some (Prod.ext l2 l3)
end L2
end
noncomputable section
namespace L2
open PySem PySem.Spec PyProof.Rows
section
variable{X:Cx}
def CDivM(_ j:Int):Prop:=0<j/\j.natAbs<2^1000
theorem op_fdivM:OpR X (binaryOp .FloorDiv) (rI CDivM fun i j=>.int (i.fdiv j)):=opI fun i j _ _ _ _ _ hc q=>by
 have h1:(0:Int)<j:=hc.1
 refine floordiv_int (by omega) q (.inl (PyProof.noPylong_of_log2 ?_))
 have h0:j.natAbs≠0:=by omega
 have:=(Nat.log2_lt h0).mpr hc.2
 omega
def rGetL(K:PySem.W.Frag):V->V->Hp->VK->Prop:=fun x y H Q=>∃(p:Addr) (xs:List V) (i:Nat) (v:V),x=.ref p/\y=.int (i:Int)/\SqL K H p xs/\xs[i]? = some v/\Q v H
theorem get_list:PGet X (rGetL X.K):=by
 intro pins s σ H x y v u Q I rx ry h
 obtain⟨p,xs,i,z,rfl,rfl,hq,he,q⟩:=h
 cases rx
 obtain⟨t,rfl⟩:=ry
 obtain⟨its,r,pl,hz⟩:=I.list hq
 obtain⟨w,ew,rw'⟩:=r.get he
 have hi:i<xs.length:=(List.getElem?_eq_some_iff.mp he).1
 refine wpAny_getItem_list pl.isList (by omega) ?_ ?_ ⟨z,H,I,rw',q⟩
 ·rw[sizeLine_eq] at hz
  omega
 ·rw[Int.toNat_natCast]
  simpa using ew
end
end L2
end
noncomputable section
namespace L2
open PySem PySem.Spec PyProof.Rows
section
variable{X:Cx}
theorem ints_get:∀{ns:List Int}{us:List Value},IntsAre us ns->∀{i:Nat}{v:Value},us[i]? = some v->∃t,v=.int (ns.getD i 0) t
 |_,_,.nil,i,v,h=>by cases h
 |_,_,.cons n t h,0,v,e=>by cases e;exact⟨t,rfl⟩
 |_,_,.cons n t h,i+1,v,e=>ints_get h (i:=i) e
theorem truth_ints{prog:Program}{w:World}{A:Around}{ns:List Int}{its:List Value}(e:IntsAre its ns) :
  TruthOf prog w A (fun i v=>its.toArray[i]? = some v) (fun i=>(ns.map fun n=>(n != 0)).getD i false):=fun i v s Q E hv hq=>by
 have hv':its[i]? = some v:=by simpa using hv
 obtain⟨t,rfl⟩:=ints_get e hv'
 have hi:i<ns.length:=by
  have:=(List.getElem?_eq_some_iff.mp hv').1
  rw[<-e.length];exact this
 have hq':Q ((ns.map fun n=>(n != 0)).getD i false) s:=hq
 have hg:(ns.map fun n=>(n != 0)).getD i false=(ns.getD i 0 != 0):=by
  rw[List.getD_eq_getElem?_getD,List.getElem?_map,List.getElem?_eq_getElem hi,List.getD_eq_getElem?_getD,List.getElem?_eq_getElem hi];rfl
 rw[hg] at hq'
 exact PySem.P.truthy_int hq'
def rAnyI(K:PySem.W.Frag):List V->Hp->VK->Prop:=fun vs H Q=>∃(a:Addr) (ns:List Int),vs=[V.ref a]/\SqL K H a (ns.map V.int)/\Q (.bl ((ns.map fun n=>(n != 0)).any id)) H
theorem cr_anyI(hc:X.calm=true):CallR X (.builtin "any") (rAnyI X.K):=by
 intro pins s σ H vs us Q I r h
 obtain⟨a,ns,rfl,hs,q⟩:=h
 obtain⟨its,rv,hl,_⟩:=I.list hs
 rw[Vals.ref1 r]
 have hb:=rv.ints
 refine call_any_walk (iter_any hl.isList fun s₂ e2 st hne=>?_)
 subst e2
 refine⟨_,_,_,_,_,_,_,rfl,Walks.list (A:=X.A.in1) (I.ok.hd hc) _ a hne its.toArray,st,truth_ints hb,fun h' tk hk=>?_⟩
 refine⟨.bl _,H,I.kept fun b o eo=>hk b o (fun hmem=>?_) (Heap.get?_push_of_some _ eo),?_,q⟩
 ·rcases List.mem_cons.mp hmem with e1 | hmem
  ·exact absurd (e1 ▸ Heap.lt_size eo) (Nat.lt_irrefl _)
  ·cases hmem
 ·show Value.bool _=Value.bool _
  rw[<-any_range,List.size_toArray,hb.length,List.length_map]
end
end L2
end
noncomputable section
namespace Rd
open Ra61
def skip:Bool->B->B
 |_,[]=>[]
 |false,c::r=>if c<=32 then skip false r else if c=35 then skip true r else c::r
 |true,c::r=>if c=10 then skip false r else skip true r
def here(b:B):Nat:=b.headD 256
def passes(m:Nat)(b:B):Bool×B:=if here (skip false b)=m then (true,(skip false b).tail) else (false,skip false b)
def takeName(b:B):Option (B×B):=
 let c:=skip false b
 if isLetter (here c)=true then
  let w:=c.takeWhile isWord
  if w.length<=16 then some (w,c.drop w.length) else none
 else none
def takeNumber(b:B):Option (Nat×B):=
 let c:=skip false b
 let d:=c.takeWhile isDigit
 if 1<=d.length/\d.length<=7 then if value d<=1000000 then some (value d,c.drop d.length) else none else none
def readGain(b:B):Option (Int×B):=
 (some (passes 45 b)).bind fun x=>(takeNumber x.2).bind fun n=>if n.1<=1000 then some (if x.1=true then -(n.1:Int) else (n.1:Int),n.2) else none
def readWay(b:B):Option ((B×Nat)×B):=
 (takeName b).bind fun x=>(some (passes 47 x.2)).bind fun y=>
  (if y.1=true then takeNumber y.2 else some (1,y.2)).bind fun n=>if 1<=n.1/\n.1<=1000 then some ((x.1,n.1),n.2) else none
def moreWays:Nat->B->Option (List (B×Nat)×B)
 |0,_=>none
 |n+1,b=>(some (passes 44 b)).bind fun x=>
  if x.1=true then (readWay x.2).bind fun w=>(moreWays n w.2).map fun r=>(w.1::r.1,r.2) else some ([],x.2)
def readChoice(b:B):Option (RawChoice×B):=
 (takeName b).bind fun x=>(readGain x.2).bind fun g=>(some (passes 58 g.2)).bind fun u=>
  if u.1=true then (readWay u.2).bind fun w=>(moreWays (w.2.length+1) w.2).bind fun r=>(some (passes 59 r.2)).bind fun v=>
   if v.1=true then if ((w.1::r.1).map fun w=>w.1).Nodup then some (⟨x.1,g.1,w.1::r.1⟩,v.2) else none else none
  else none
def moreChoices:Nat->B->Option (List RawChoice×B)
 |0,_=>none
 |n+1,b=>(some (passes 125 b)).bind fun x=>
  if x.1=true then some ([],x.2) else (readChoice x.2).bind fun c=>(moreChoices n c.2).map fun r=>(c.1::r.1,r.2)
def readState(b:B):Option (RawState×B):=
 (takeName b).bind fun k=>if k.1=[115,116,97,116,101] then (takeName k.2).bind fun x=>(some (passes 123 x.2)).bind fun u=>
  if u.1=true then (moreChoices (u.2.length+1) u.2).bind fun c=>
   if c.1.length<=8 then if (c.1.map fun c=>c.name).Nodup then some (⟨x.1,c.1⟩,c.2) else none else none
  else none
 else none
def moreStates:Nat->B->Option (List RawState)
 |0,_=>none
 |n+1,b=>if skip false b=[] then some [] else (readState (skip false b)).bind fun s=>(moreStates n s.2).map fun r=>s.1::r
def placeOf(names:List B)(x:B):Nat:=(names.findIdx? fun y=>y==x).getD 0
def placed(raw:List RawState):Net:=
 let names:=raw.map fun s=>s.name
 raw.map fun s=>⟨s.name,s.choices.map fun c=>⟨c.name,c.gain,c.ways.map fun w=>(placeOf names w.1,w.2)⟩⟩
def readStates(b:B):Option Net:=
 (moreStates (b.length+1) b).bind fun raw=>
  if 1<=raw.length/\raw.length<=16 then
   if (raw.map fun s=>s.name).Nodup then
    if raw.all fun s=>s.choices.all fun c=>c.ways.all fun w=>(raw.map fun s=>s.name).contains w.1 then some (placed raw) else none
   else none
  else none
theorem sl10:∀(q:Bool) (b:B),(skip q b).length<=b.length
 |q,[]=>by cases q<;>simp[skip]
 |false,c::r=>by
  unfold skip;split
  ·have:=sl10 false r;simp;omega
  ·split
   ·have:=sl10 true r;simp;omega
   ·simp
 |true,c::r=>by
  unfold skip;split
  ·have:=sl10 false r;simp;omega
  ·have:=sl10 true r;simp;omega
theorem ss12:∀(q:Bool) (b:B),skip q b <:+ b
 |q,[]=>by cases q<;>simp[skip]
 |false,c::r=>by
  unfold skip;split
  ·exact (ss12 false r).trans (List.suffix_cons c r)
  ·split
   ·exact (ss12 true r).trans (List.suffix_cons c r)
   ·exact List.suffix_refl _
 |true,c::r=>by
  unfold skip;split
  ·exact (ss12 false r).trans (List.suffix_cons c r)
  ·exact (ss12 true r).trans (List.suffix_cons c r)
theorem skip_true:∀b:B,skip true b=skip false (b.dropWhile fun x=>x != 10)
 |[]=>by simp[skip]
 |c::r=>by
  by_cases h:c=10
  ·subst h;simp[skip]
  ·rw[List.dropWhile_cons_of_pos (by simp[h]),<-skip_true r];simp[skip,h]
theorem si:∀(q:Bool) (b:B),skip false (skip q b)=skip q b
 |q,[]=>by cases q<;>simp[skip]
 |false,c::r=>by
  by_cases h:c<=32
  ·simp[skip,h,si false r]
  ·by_cases h2:c=35
   ·subst h2;simp[skip,si true r]
   ·simp[skip,h,h2]
 |true,c::r=>by
  by_cases h:c=10
  ·simp[skip,h,si false r]
  ·simp[skip,h,si true r]
theorem sh(q:Bool)(b:B):skip q b=[]\/∃c r,skip q b=c::r/\32<c/\c≠35:=by
 have h:=si q b
 cases e:skip q b with
 |nil=>exact .inl rfl
 |cons c r=>
  right
  rw[e] at h
  refine⟨c,r,rfl,?_,?_⟩
  ·by_cases hc:c<=32
   ·simp[skip,hc] at h
    have:=sl10 false r;have h2:=congrArg List.length h;simp at h2;omega
   ·omega
  ·intro hc;subst hc
   simp[skip] at h
   have:=sl10 true r;have h2:=congrArg List.length h;simp at h2;omega
theorem dl10(p:Nat->Bool)(r:B):(r.dropWhile p).length<=r.length:=(List.dropWhile_suffix p).length_le
theorem tf10:∀(n m:Nat) (b:B),b.length<n->b.length<m->tokens n b=tokens m b
 |0,_,_,h,_=>by omega
 |_,0,_,_,h=>by omega
 |n+1,m+1,[],_,_=>by simp[tokens]
 |n+1,m+1,c::r,h1,h2=>by
  have hl:r.length<n/\r.length<m:=by simp at h1 h2;omega
  have d1:=dl10 (fun x=>x != 10) r
  simp only[tokens]
  rw[tf10 n m r hl.1 hl.2,tf10 n m (r.dropWhile fun x=>x != 10) (by omega) (by omega)]
  have w1:isLetter c=true->((c::r).drop ((c::r).takeWhile isWord).length).length<=r.length:=fun h=>by
   rw[List.takeWhile_cons_of_pos (by simp[isWord,h])];simp
  have w2:isDigit c=true->((c::r).drop ((c::r).takeWhile isDigit).length).length<=r.length:=fun h=>by
   rw[List.takeWhile_cons_of_pos h];simp
  by_cases hL:isLetter c=true
  ·have:=w1 hL
   rw[tf10 n m ((c::r).drop ((c::r).takeWhile isWord).length) (by omega) (by omega)]
   simp[hL]
  ·by_cases hD:isDigit c=true
   ·have:=w2 hD
    rw[tf10 n m ((c::r).drop ((c::r).takeWhile isDigit).length) (by omega) (by omega)]
    simp[hL,hD]
   ·simp[hL,hD]
def lex(b:B):Option (List Tok):=tokens (b.length+1) b
theorem lex_of{n:Nat}{b:B}(h:b.length<n):tokens n b=lex b:=tf10 _ _ _ h (Nat.lt_succ_self _)
theorem lex_blank{c:Nat}{r:B}(h:c<=32):lex (c::r)=lex r:=by
 unfold lex;simp only[tokens,h,if_true,List.length_cons]
theorem lex_hash{r:B}:lex (35::r)=lex (r.dropWhile fun x=>x != 10):=by
 unfold lex;simp only[tokens,List.length_cons]
 rw[if_neg (by decide),if_pos trivial]
 exact lex_of (Nat.lt_succ_of_le (dl10 _ _))
theorem ts13(n c:Nat)(r:B):tokens (n+1) (c::r)=if c<=32 then tokens n r else if c=35 then tokens n (r.dropWhile fun x=>x != 10)
  else if isLetter c=true then (if 16<((c::r).takeWhile isWord).length then none else (tokens n ((c::r).drop ((c::r).takeWhile isWord).length)).map fun l=>.name ((c::r).takeWhile isWord)::l)
  else if isDigit c=true then (if 7<((c::r).takeWhile isDigit).length\/1000000<value ((c::r).takeWhile isDigit) then none else (tokens n ((c::r).drop ((c::r).takeWhile isDigit).length)).map fun l=>.num (value ((c::r).takeWhile isDigit))::l)
  else if signs.contains c=true then (tokens n r).map fun l=>.sign c::l else none:=rfl
theorem lex_letter{c:Nat}{r:B}(h:isLetter c=true)(h1:32<c)(h2:c≠35) :
  lex (c::r)=if 16<((c::r).takeWhile isWord).length then none else (lex ((c::r).drop ((c::r).takeWhile isWord).length)).map fun l=>.name ((c::r).takeWhile isWord)::l:=by
 have w1:((c::r).drop ((c::r).takeWhile isWord).length).length<r.length+1:=by
  rw[List.takeWhile_cons_of_pos (by simp[isWord,h])];simp;omega
 have e:lex (c::r)=tokens (r.length+1+1) (c::r):=rfl
 rw[e,ts13,if_neg (by omega),if_neg h2,if_pos h,lex_of w1]
theorem lex_digit{c:Nat}{r:B}(h:isDigit c=true)(h1:32<c)(h2:c≠35)(hL:isLetter c=false) :
  lex (c::r)=if 7<((c::r).takeWhile isDigit).length\/1000000<value ((c::r).takeWhile isDigit) then none else (lex ((c::r).drop ((c::r).takeWhile isDigit).length)).map fun l=>.num (value ((c::r).takeWhile isDigit))::l:=by
 have w1:((c::r).drop ((c::r).takeWhile isDigit).length).length<r.length+1:=by
  rw[List.takeWhile_cons_of_pos h];simp;omega
 have e:lex (c::r)=tokens (r.length+1+1) (c::r):=rfl
 rw[e,ts13,if_neg (by omega),if_neg h2,if_neg (by simp[hL]),if_pos h,lex_of w1]
theorem lex_sign{c:Nat}{r:B}(h1:32<c)(h2:c≠35)(hL:isLetter c=false)(hD:isDigit c=false) :
  lex (c::r)=if signs.contains c=true then (lex r).map fun l=>.sign c::l else none:=by
 have e:lex (c::r)=tokens (r.length+1+1) (c::r):=rfl
 rw[e,ts13,if_neg (by omega),if_neg h2,if_neg (by simp[hL]),if_neg (by simp[hD])]
 rfl
theorem ls12:∀(q:Bool) (b:B),lex (skip q b)=if q=true then lex (b.dropWhile fun x=>x != 10) else lex b
 |q,[]=>by cases q<;>simp[skip]
 |false,c::r=>by
  by_cases h:c<=32
  ·have:=ls12 false r
   simp only[skip,h,if_true,lex_blank h];simpa using this
  ·by_cases h2:c=35
   ·subst h2;have:=ls12 true r
    simp only[skip,lex_hash];simpa using this
   ·simp[skip,h,h2]
 |true,c::r=>by
  by_cases h:c=10
  ·subst h
   have:=ls12 false r
   have e:lex (10::r)=lex r:=lex_blank (by decide)
   simp only[skip,if_true];simpa [e] using this
  ·have:=ls12 true r
   rw[List.dropWhile_cons_of_pos (by simp[h])]
   simp only[skip,h,if_false];simpa using this
theorem ls10(b:B):lex (skip false b)=lex b:=by simpa using ls12 false b
end Rd
end
noncomputable section
namespace Rd
open Ra61
def SimAt{α:Type}(r:Option (α×B))(p:List Tok->Option (α×List Tok))(b:B):Prop:=
 (∀l,lex b=some l->match r with
  |none=>p l=none
  |some x=>∃l',p l=some (x.1,l')/\lex x.2=some l') /\
 (lex b=none->∀x,r=some x->lex x.2=none)
theorem SimAt.no{α:Type}{p:List Tok->Option (α×List Tok)}{b:B}(h:∀l,lex b=some l->p l=none):SimAt none p b:=⟨h,fun _ _ e=>by cases e⟩
theorem SimAt.bind{α β:Type}{r:Option (α×B)}{p:List Tok->Option (α×List Tok)}{b:B}{S:α×B->Option (β×B)}{q:α->List Tok->Option (β×List Tok)}
  (h:SimAt r p b) (k:∀x,r=some x->SimAt (S x) (q x.1) x.2):SimAt (r.bind S) (fun l=>(p l).bind fun x=>q x.1 x.2) b:=by
 cases r with
 |none=>exact .no fun l hl=>by rw[h.1 l hl];rfl
 |some x=>
  have k:=k x rfl
  refine⟨fun l hl=>?_,fun hl y hy=>?_⟩
  ·obtain⟨l',h1,h2⟩:=h.1 l hl
   have:=k.1 l' h2
   simp only[Option.bind_some,h1]
   exact this
  ·exact k.2 (h.2 hl x rfl) y hy
theorem SimAt.bnd{α β:Type}{r:Option (α×B)}{p:List Tok->Option (α×List Tok)}{b:B}{S:α×B->Option (β×B)}{Q:α×List Tok->Option (β×List Tok)}
  (h:SimAt r p b) (k:∀x,r=some x->SimAt (S x) (fun l=>Q (x.1,l)) x.2):SimAt (r.bind S) (fun l=>(p l).bind Q) b:=
 SimAt.bind (q:=fun x l=>Q (x,l)) h k
theorem SimAt.congr{α:Type}{r:Option (α×B)}{p q:List Tok->Option (α×List Tok)}{b:B}(h:SimAt r p b)(e:∀l,lex b=some l->p l=q l):SimAt r q b:=by
 refine⟨fun l hl=>?_,h.2⟩
 rw[<-e l hl];exact h.1 l hl
theorem SimAt.pure{α:Type}(v:α)(b:B):SimAt (some (v,b)) (fun l=>some (v,l)) b:=⟨fun l hl=>⟨l,rfl,hl⟩,fun hl x e=>by cases e;exact hl⟩
theorem SimAt.guard{α:Type}{c:Prop}[Decidable c]{r:Option (α×B)}{p:List Tok->Option (α×List Tok)}{b:B}(h:c->SimAt r p b):SimAt (if c then r else none) (fun l=>if c then p l else none) b:=by
 by_cases hc:c
 ·simp only[hc,if_true];exact h hc
 ·simp only[hc,if_false];exact .no fun _ _=>rfl
theorem SimAt.ite{α:Type}{c:Prop}[Decidable c]{r r':Option (α×B)}{p p':List Tok->Option (α×List Tok)}{b:B}(h:c->SimAt r p b)(h':¬c->SimAt r' p' b):SimAt (if c then r else r') (fun l=>if c then p l else p' l) b:=by
 by_cases hc:c
 ·simp only[hc,if_true];exact h hc
 ·simp only[hc,if_false];exact h' hc
theorem SimAt.map{α β:Type}{r:Option (α×B)}{p:List Tok->Option (α×List Tok)}{b:B}{f:α->β}(h:SimAt r p b):SimAt (r.map fun x=>(f x.1,x.2)) (fun l=>(p l).map fun x=>(f x.1,x.2)) b:=by
 cases r with
 |none=>exact .no fun l hl=>by rw[h.1 l hl];rfl
 |some x=>exact⟨fun l hl=>let ⟨l',h1,h2⟩:=h.1 l hl;⟨l',by simp only[h1];rfl,h2⟩,fun hl y hy=>by cases hy;exact h.2 hl x rfl⟩
theorem sign_props{m:Nat}(h:m∈signs):32<m/\m≠35/\isLetter m=false/\isDigit m=false/\signs.contains m=true/\m≠256:=by
 simp only[signs,List.mem_cons,List.not_mem_nil,or_false] at h
 rcases h with rfl | rfl | rfl | rfl | rfl | rfl | rfl<;>decide
def passP(m:Nat)(l:List Tok):Option (Bool×List Tok):=some (if l.head? = some (.sign m) then (true,l.drop 1) else (false,l))
theorem lf(b:B)(c:Nat)(r:B)(e:Rd.skip false b=c::r)(l:List Tok)(hl:lex b=some l) :
  (isLetter c=true/\((c::r).takeWhile isWord).length<=16/\∃l',l=.name ((c::r).takeWhile isWord)::l'/\lex ((c::r).drop ((c::r).takeWhile isWord).length)=some l') \/
  (isLetter c=false/\isDigit c=true/\((c::r).takeWhile isDigit).length<=7/\value ((c::r).takeWhile isDigit)<=1000000/\∃l',l=.num (value ((c::r).takeWhile isDigit))::l'/\lex ((c::r).drop ((c::r).takeWhile isDigit).length)=some l') \/
  (isLetter c=false/\isDigit c=false/\signs.contains c=true/\∃l',l=.sign c::l'/\lex r=some l'):=by
 obtain⟨h1,h2⟩:32<c/\c≠35:=by
  rcases sh false b with h | ⟨c',r',h,a,b'⟩
  ·rw[e] at h;cases h
  ·rw[e] at h;cases h;exact⟨a,b'⟩
 rw[<-ls10,e] at hl
 by_cases hL:isLetter c=true
 ·left
  rw[lex_letter hL h1 h2] at hl
  split at hl
  ·cases hl
  ·cases e2:lex ((c::r).drop ((c::r).takeWhile isWord).length) with
   |none=>rw[e2] at hl;cases hl
   |some l'=>rw[e2] at hl;cases hl;exact⟨hL,by omega,l',rfl,rfl⟩
 ·have hL':isLetter c=false:=by simpa using hL
  right
  by_cases hD:isDigit c=true
  ·left
   rw[lex_digit hD h1 h2 hL'] at hl
   split at hl
   ·cases hl
   ·cases e2:lex ((c::r).drop ((c::r).takeWhile isDigit).length) with
    |none=>rw[e2] at hl;cases hl
    |some l'=>rw[e2] at hl;cases hl;exact⟨hL',hD,by omega,by omega,l',rfl,rfl⟩
  ·have hD':isDigit c=false:=by simpa using hD
   right
   rw[lex_sign h1 h2 hL' hD'] at hl
   split at hl
   ·cases e2:lex r with
    |none=>rw[e2] at hl;cases hl
    |some l'=>rw[e2] at hl;cases hl;exact⟨hL',hD',by assumption,l',rfl,rfl⟩
   ·cases hl
theorem lex_end{b:B}(e:Rd.skip false b=[]):lex b=some []:=by rw[<-ls10,e];rfl
theorem sp10{m:Nat}(hm:m∈signs)(b:B):SimAt (some (passes m b)) (passP m) b:=by
 obtain⟨a1,a2,a3,a4,a5,a6⟩:=sign_props hm
 cases e:Rd.skip false b with
 |nil=>
  have hp:passes m b=(false,[]):=by unfold passes;rw[e];simp[here];exact fun h=>absurd h.symm a6
  have hl:=lex_end e
  rw[hp]
  refine⟨fun l h=>?_,fun h=>by rw[hl] at h;cases h⟩
  rw[hl] at h;cases h
  exact⟨[],by simp[passP],rfl⟩
 |cons c r=>
  by_cases hc:c=m
  ·subst hc
   have hp:passes c b=(true,r):=by unfold passes;rw[e];simp[here]
   rw[hp]
   have el:lex b=(lex r).map fun l=>.sign c::l:=by rw[<-ls10,e,lex_sign a1 a2 a3 a4,if_pos a5]
   refine⟨fun l h=>?_,fun h x ex=>?_⟩
   ·rw[el] at h
    cases e2:lex r with
    |none=>rw[e2] at h;cases h
    |some l'=>rw[e2] at h;cases h;exact⟨l',by simp[passP],e2⟩
   ·cases ex
    rw[el] at h
    cases e2:lex r with
    |none=>rfl
    |some l'=>rw[e2] at h;cases h
  ·have hp:passes m b=(false,c::r):=by unfold passes;rw[e];simp[here,hc]
   rw[hp]
   have el:lex (c::r)=lex b:=by rw[<-e,ls10]
   refine⟨fun l h=>⟨l,?_,by rw[<-h];exact el⟩,fun h x ex=>by cases ex;rw[<-h];exact el⟩
   have:l.head?≠some (.sign m):=by
    rcases lf b c r e l h with ⟨_,_,l',rfl,_⟩ | ⟨_,_,_,_,l',rfl,_⟩ | ⟨_,_,_,l',rfl,_⟩
    ·simp
    ·simp
    ·simp;exact hc
   simp[passP,this]
theorem sn10(b:B):SimAt (takeName b) name b:=by
 cases e:Rd.skip false b with
 |nil=>
  have hp:takeName b=none:=by
   unfold takeName;rw[e];rfl
  rw[hp]
  refine .no fun l h=>?_
  rw[lex_end e] at h;cases h;rfl
 |cons c r=>
  by_cases hL:isLetter c=true
  ·obtain⟨h1,h2⟩:32<c/\c≠35:=by
    rcases sh false b with h | ⟨c',r',h,a,b'⟩
    ·rw[e] at h;cases h
    ·rw[e] at h;cases h;exact⟨a,b'⟩
   have el:lex b=if 16<((c::r).takeWhile isWord).length then none else (lex ((c::r).drop ((c::r).takeWhile isWord).length)).map fun l=>.name ((c::r).takeWhile isWord)::l:=by
    rw[<-ls10,e,lex_letter hL h1 h2]
   have hp:takeName b=if ((c::r).takeWhile isWord).length<=16 then some ((c::r).takeWhile isWord,(c::r).drop ((c::r).takeWhile isWord).length) else none:=by
    unfold takeName;rw[e];simp only[here,List.headD_cons,hL,if_true]
   rw[hp]
   by_cases hw:((c::r).takeWhile isWord).length<=16
   ·rw[if_pos hw];rw[if_neg (by omega)] at el
    refine⟨fun l h=>?_,fun h x ex=>?_⟩
    ·rw[el] at h
     cases e2:lex ((c::r).drop ((c::r).takeWhile isWord).length) with
     |none=>rw[e2] at h;cases h
     |some l'=>rw[e2] at h;cases h;exact⟨l',rfl,e2⟩
    ·cases ex
     rw[el] at h
     cases e2:lex ((c::r).drop ((c::r).takeWhile isWord).length) with
     |none=>rfl
     |some l'=>rw[e2] at h;cases h
   ·rw[if_neg hw];rw[if_pos (by omega)] at el
    exact .no fun l h=>by rw[el] at h;cases h
  ·have hp:takeName b=none:=by
    unfold takeName;rw[e];simp[here,hL]
   rw[hp]
   refine .no fun l h=>?_
   rcases lf b c r e l h with ⟨h',_⟩ | ⟨_,_,_,_,l',rfl,_⟩ | ⟨_,_,_,l',rfl,_⟩
   ·exact absurd h' hL
   ·rfl
   ·rfl
theorem ld{c:Nat}(h:isDigit c=true):isLetter c=false:=by
 simp only[isDigit,isLetter,Bool.and_eq_true,decide_eq_true_eq] at h ⊢
 simp;omega
theorem sim_number(b:B):SimAt (takeNumber b) number b:=by
 cases e:Rd.skip false b with
 |nil=>
  have hp:takeNumber b=none:=by
   unfold takeNumber;rw[e];rfl
  rw[hp]
  refine .no fun l h=>?_
  rw[lex_end e] at h;cases h;rfl
 |cons c r=>
  by_cases hD:isDigit c=true
  ·obtain⟨h1,h2⟩:32<c/\c≠35:=by
    rcases sh false b with h | ⟨c',r',h,a,b'⟩
    ·rw[e] at h;cases h
    ·rw[e] at h;cases h;exact⟨a,b'⟩
   have el:lex b=if 7<((c::r).takeWhile isDigit).length\/1000000<value ((c::r).takeWhile isDigit) then none else (lex ((c::r).drop ((c::r).takeWhile isDigit).length)).map fun l=>.num (value ((c::r).takeWhile isDigit))::l:=by
    rw[<-ls10,e,lex_digit hD h1 h2 (ld hD)]
   have h0:1<=((c::r).takeWhile isDigit).length:=by rw[List.takeWhile_cons_of_pos hD];simp
   have hp:takeNumber b=if ((c::r).takeWhile isDigit).length<=7 then if value ((c::r).takeWhile isDigit)<=1000000 then some (value ((c::r).takeWhile isDigit),(c::r).drop ((c::r).takeWhile isDigit).length) else none else none:=by
    unfold takeNumber;rw[e];simp only[h0,true_and]
   rw[hp]
   by_cases hw:((c::r).takeWhile isDigit).length<=7/\value ((c::r).takeWhile isDigit)<=1000000
   ·rw[if_pos hw.1,if_pos hw.2];rw[if_neg (by omega)] at el
    refine⟨fun l h=>?_,fun h x ex=>?_⟩
    ·rw[el] at h
     cases e2:lex ((c::r).drop ((c::r).takeWhile isDigit).length) with
     |none=>rw[e2] at h;cases h
     |some l'=>rw[e2] at h;cases h;exact⟨l',rfl,e2⟩
    ·cases ex
     rw[el] at h
     cases e2:lex ((c::r).drop ((c::r).takeWhile isDigit).length) with
     |none=>rfl
     |some l'=>rw[e2] at h;cases h
   ·rw[if_pos (by omega)] at el
    have:(if ((c::r).takeWhile isDigit).length<=7 then if value ((c::r).takeWhile isDigit)<=1000000 then some (value ((c::r).takeWhile isDigit),(c::r).drop ((c::r).takeWhile isDigit).length) else none else none)=none:=by
     split
     ·split
      ·exact absurd ⟨by assumption,by assumption⟩ hw
      ·rfl
     ·rfl
    rw[this]
    exact .no fun l h=>by rw[el] at h;cases h
  ·have hp:takeNumber b=none:=by
    unfold takeNumber;simp only[e,List.takeWhile_cons_of_neg hD];rfl
   rw[hp]
   refine .no fun l h=>?_
   rcases lf b c r e l h with ⟨_,_,l',rfl,_⟩ | ⟨_,h',_⟩ | ⟨_,_,_,l',rfl,_⟩
   ·rfl
   ·exact absurd h' hD
   ·rfl
theorem pl10(m:Nat)(b:B):(passes m b).2.length<=b.length:=by
 unfold passes;have:=sl10 false b;split<;>simp<;>omega
theorem pl15{m:Nat}{b:B}(hm:m≠256)(h:(passes m b).1=true):(passes m b).2.length<b.length:=by
 unfold passes at h ⊢
 have:=sl10 false b
 split
 ·rename_i e
  cases q:Rd.skip false b with
  |nil=>rw[q] at e;simp[here] at e;exact absurd e.symm hm
  |cons c r=>rw[q] at this;simp at this ⊢;omega
 ·rename_i e;rw[if_neg e] at h;cases h
theorem tl10{b:B}{x:B×B}(h:takeName b=some x):x.2.length<b.length:=by
 unfold takeName at h
 have:=sl10 false b
 cases q:Rd.skip false b with
 |nil=>rw[q] at h;simp[here,isLetter] at h
 |cons c r=>
  rw[q] at h this
  have h:(if isLetter c=true then (if ((c::r).takeWhile isWord).length<=16 then some ((c::r).takeWhile isWord,(c::r).drop ((c::r).takeWhile isWord).length) else none) else none)=some x:=h
  by_cases hL:isLetter c=true
  ·rw[if_pos hL] at h
   by_cases hw:((c::r).takeWhile isWord).length<=16
   ·rw[if_pos hw] at h
    cases h
    rw[List.takeWhile_cons_of_pos (by simp[isWord,hL])];simp at this ⊢;omega
   ·rw[if_neg hw] at h;cases h
  ·rw[if_neg hL] at h;cases h
theorem tl12{b:B}{x:Nat×B}(h:takeNumber b=some x):x.2.length<b.length:=by
 unfold takeNumber at h
 have:=sl10 false b
 simp only at h
 split at h
 ·rename_i h1
  split at h
  ·cases h
   have hl:((Rd.skip false b).takeWhile isDigit).length<=(Rd.skip false b).length:=(List.takeWhile_prefix _).length_le
   simp;omega
  ·cases h
 ·cases h
end Rd
end
noncomputable section
namespace Rd
open Ra61
def pGain(l:List Tok):Option (Int×List Tok):=(passP 45 l).bind fun x=>(number x.2).bind fun n=>if n.1<=1000 then some (if x.1=true then -(n.1:Int) else (n.1:Int),n.2) else none
def pWay(l:List Tok):Option ((B×Nat)×List Tok):=(name l).bind fun x=>(passP 47 x.2).bind fun y=>(if y.1=true then number y.2 else some (1,y.2)).bind fun n=>if 1<=n.1/\n.1<=1000 then some ((x.1,n.1),n.2) else none
def pMore:Nat->List Tok->Option (List (B×Nat)×List Tok)
 |0,_=>none
 |n+1,l=>(passP 44 l).bind fun x=>if x.1=true then (pWay x.2).bind fun w=>(pMore n w.2).map fun r=>(w.1::r.1,r.2) else some ([],x.2)
def PM(l:List Tok):=pMore (l.length+1) l
def pChoice(l:List Tok):Option (RawChoice×List Tok):=(name l).bind fun x=>(pGain x.2).bind fun g=>(passP 58 g.2).bind fun u=>if u.1=true then (pWay u.2).bind fun w=>(PM w.2).bind fun r=>
 (passP 59 r.2).bind fun v=>if v.1=true then if ((w.1::r.1).map fun w=>w.1).Nodup then some (⟨x.1,g.1,w.1::r.1⟩,v.2) else none else none else none
def pChs:Nat->List Tok->Option (List RawChoice×List Tok)
 |0,_=>none
 |n+1,l=>(passP 125 l).bind fun x=>if x.1=true then some ([],x.2) else (pChoice x.2).bind fun c=>(pChs n c.2).map fun r=>(c.1::r.1,r.2)
def PC(l:List Tok):=pChs (l.length+1) l
def pState(l:List Tok):Option (RawState×List Tok):=(name l).bind fun k=>if k.1=[115,116,97,116,101] then (name k.2).bind fun x=>(passP 123 x.2).bind fun u=>if u.1=true then (PC u.2).bind fun c=>
 if c.1.length<=8 then if (c.1.map fun c=>c.name).Nodup then some (⟨x.1,c.1⟩,c.2) else none else none else none else none
def pSts:Nat->List Tok->Option (List RawState)
 |0,_=>none
 |n+1,l=>if l.isEmpty=true then some [] else (pState l).bind fun s=>(pSts n s.2).map fun r=>s.1::r
theorem nl11{l:List Tok}{x:B×List Tok}(h:name l=some x):x.2.length<l.length:=by
 unfold name at h;split at h
 ·cases h;simp
 ·cases h
theorem nl10{l:List Tok}{x:Nat×List Tok}(h:number l=some x):x.2.length<l.length:=by
 unfold number at h;split at h
 ·cases h;simp
 ·cases h
theorem pl13{m:Nat}{l:List Tok}{x:Bool×List Tok}(h:passP m l=some x):x.2.length<=l.length:=by
 unfold passP at h;cases h;split<;>simp
theorem passP_lt{m:Nat}{l:List Tok}{x:Bool×List Tok}(h:passP m l=some x)(hx:x.1=true):x.2.length<l.length:=by
 unfold passP at h;cases h
 split at hx
 ·rename_i e;rw[if_pos e]
  cases l with
  |nil=>simp at e
  |cons a b=>simp
 ·cases hx
theorem bind_some{α β:Type}{o:Option α}{f:α->Option β}{y:β}(h:o.bind f=some y):∃x,o=some x/\f x=some y:=by
 cases o with
 |none=>cases h
 |some x=>exact⟨x,rfl,h⟩
theorem is10{α:Type}{c:Prop}[Decidable c]{o:Option α}{y:α}(h:(if c then o else none)=some y):c/\o=some y:=by
 by_cases hc:c
 ·rw[if_pos hc] at h;exact⟨hc,h⟩
 ·rw[if_neg hc] at h;cases h
theorem map_some{α β:Type}{o:Option α}{f:α->β}{y:β}(h:o.map f=some y):∃x,o=some x/\y=f x:=by
 cases o with
 |none=>cases h
 |some x=>cases h;exact⟨x,rfl,rfl⟩
theorem pGain_lt{l:List Tok}{x}(h:pGain l=some x):x.2.length<l.length:=by
 obtain⟨a,h1,h⟩:=bind_some h
 obtain⟨b,h2,h⟩:=bind_some h
 obtain⟨_,h⟩:=is10 h
 cases h
 have:=pl13 h1;have:=nl10 h2;simp only;omega
theorem pWay_lt{l:List Tok}{x}(h:pWay l=some x):x.2.length<l.length:=by
 obtain⟨a,h1,h⟩:=bind_some h
 obtain⟨b,h2,h⟩:=bind_some h
 obtain⟨c,h3,h⟩:=bind_some h
 obtain⟨_,h⟩:=is10 h
 cases h
 have:=nl11 h1;have:=pl13 h2
 split at h3
 ·have:=nl10 h3;simp only;omega
 ·cases h3;simp only;omega
theorem pMore_le:∀{n:Nat}{l:List Tok} {x},pMore n l=some x->x.2.length<=l.length
 |0,_,_,h=>by cases h
 |n+1,l,x,h=>by
  obtain⟨a,h1,h⟩:=bind_some h
  have:=pl13 h1
  split at h
  ·obtain⟨b,h2,h⟩:=bind_some h
   obtain⟨c,h3,h⟩:=map_some h
   subst h
   have:=pWay_lt h2;have:=pMore_le h3;simp only;omega
  ·cases h;simp only;omega
theorem pMore_fuel:∀(n m:Nat) (l:List Tok),l.length<n->l.length<m->pMore n l=pMore m l
 |0,_,_,h,_=>by omega
 |_,0,_,_,h=>by omega
 |n+1,m+1,l,h1,h2=>by
  simp only[pMore]
  cases e:passP 44 l with
  |none=>rfl
  |some x=>
   simp only[Option.bind_some]
   split
   ·have:=passP_lt e (by assumption)
    cases e2:pWay x.2 with
    |none=>rfl
    |some w=>
     have:=pWay_lt e2
     simp only[Option.bind_some]
     rw[pMore_fuel n m w.2 (by omega) (by omega)]
   ·rfl
theorem Ps(l:List Tok):PM l=(passP 44 l).bind fun x=>if x.1=true then (pWay x.2).bind fun w=>(PM w.2).map fun r=>(w.1::r.1,r.2) else some ([],x.2):=by
 conv=>lhs;unfold PM;unfold pMore
 cases e:passP 44 l with
 |none=>rfl
 |some x=>
  simp only[Option.bind_some]
  split
  ·have:=passP_lt e (by assumption)
   cases e2:pWay x.2 with
   |none=>rfl
   |some w=>
    have:=pWay_lt e2
    simp only[Option.bind_some]
    rw[show PM w.2=pMore l.length w.2 from pMore_fuel _ _ _ (Nat.lt_succ_self _) (by omega)]
  ·rfl
theorem pl16{l:List Tok}{x}(h:pChoice l=some x):x.2.length<l.length:=by
 obtain⟨a,h1,h⟩:=bind_some h
 obtain⟨b,h2,h⟩:=bind_some h
 obtain⟨c,h3,h⟩:=bind_some h
 obtain⟨_,h⟩:=is10 h
 obtain⟨d,h4,h⟩:=bind_some h
 obtain⟨e,h5,h⟩:=bind_some h
 obtain⟨f,h6,h⟩:=bind_some h
 obtain⟨_,h⟩:=is10 h
 obtain⟨_,h⟩:=is10 h
 cases h
 have:=nl11 h1;have:=pGain_lt h2;have:=pl13 h3;have:=pWay_lt h4;have:=pMore_le h5;have:=pl13 h6
 simp only;omega
theorem pChs_le:∀{n:Nat}{l:List Tok} {x},pChs n l=some x->x.2.length<=l.length
 |0,_,_,h=>by cases h
 |n+1,l,x,h=>by
  obtain⟨a,h1,h⟩:=bind_some h
  have:=pl13 h1
  split at h
  ·cases h;simp only;omega
  ·obtain⟨b,h2,h⟩:=bind_some h
   obtain⟨c,h3,h⟩:=map_some h
   subst h
   have:=pl16 h2;have:=pChs_le h3;simp only;omega
theorem pf15:∀(n m:Nat) (l:List Tok),l.length<n->l.length<m->pChs n l=pChs m l
 |0,_,_,h,_=>by omega
 |_,0,_,_,h=>by omega
 |n+1,m+1,l,h1,h2=>by
  simp only[pChs]
  cases e:passP 125 l with
  |none=>rfl
  |some x=>
   simp only[Option.bind_some]
   split
   ·rfl
   ·have:=pl13 e
    cases e2:pChoice x.2 with
    |none=>rfl
    |some w=>
     have:=pl16 e2
     simp only[Option.bind_some]
     rw[pf15 n m w.2 (by omega) (by omega)]
theorem PC_step(l:List Tok):PC l=(passP 125 l).bind fun x=>if x.1=true then some ([],x.2) else (pChoice x.2).bind fun c=>(PC c.2).map fun r=>(c.1::r.1,r.2):=by
 conv=>lhs;unfold PC;unfold pChs
 cases e:passP 125 l with
 |none=>rfl
 |some x=>
  simp only[Option.bind_some]
  split
  ·rfl
  ·have:=pl13 e
   cases e2:pChoice x.2 with
   |none=>rfl
   |some w=>
    have:=pl16 e2
    simp only[Option.bind_some]
    rw[show PC w.2=pChs l.length w.2 from pf15 _ _ _ (Nat.lt_succ_self _) (by omega)]
theorem pState_lt{l:List Tok}{x}(h:pState l=some x):x.2.length<l.length:=by
 obtain⟨a,h1,h⟩:=bind_some h
 obtain⟨_,h⟩:=is10 h
 obtain⟨b,h2,h⟩:=bind_some h
 obtain⟨c,h3,h⟩:=bind_some h
 obtain⟨_,h⟩:=is10 h
 obtain⟨d,h4,h⟩:=bind_some h
 obtain⟨_,h⟩:=is10 h
 obtain⟨_,h⟩:=is10 h
 cases h
 have:=nl11 h1;have:=nl11 h2;have:=pl13 h3;have:=pChs_le h4
 simp only;omega
theorem pSts_fuel:∀(n m:Nat) (l:List Tok),l.length<n->l.length<m->pSts n l=pSts m l
 |0,_,_,h,_=>by omega
 |_,0,_,_,h=>by omega
 |n+1,m+1,l,h1,h2=>by
  simp only[pSts]
  split
  ·rfl
  ·cases e2:pState l with
   |none=>rfl
   |some w=>
    have:=pState_lt e2
    simp only[Option.bind_some]
    rw[pSts_fuel n m w.2 (by omega) (by omega)]
theorem sim_gain(b:B):SimAt (readGain b) pGain b:=by
 refine SimAt.bnd (sp10 (m:=45) (by decide) b) fun x _=>?_
 dsimp only
 show SimAt _ (fun l=>(number l).bind fun n=>if n.1<=1000 then some (if x.1=true then -(n.1:Int) else (n.1:Int),n.2) else none) _
 refine SimAt.bnd (sim_number x.2) fun n _=>?_
 dsimp only
 exact SimAt.guard fun _=>SimAt.pure _ _
theorem sim_way(b:B):SimAt (readWay b) pWay b:=by
 refine SimAt.bnd (sn10 b) fun x _=>?_
 dsimp only
 refine SimAt.bnd (sp10 (m:=47) (by decide) x.2) fun y _=>?_
 dsimp only
 refine SimAt.bnd (SimAt.ite (fun _=>sim_number y.2) fun _=>SimAt.pure _ _) fun n _=>?_
 dsimp only
 exact SimAt.guard fun _=>SimAt.pure _ _
theorem rl13{b:B}{x}(h:readGain b=some x):x.2.length<b.length:=by
 obtain⟨x,h1,h⟩:=bind_some h
 cases h1
 obtain⟨n,h2,h⟩:=bind_some h
 obtain⟨_,h⟩:=is10 h
 cases h
 have:=pl10 45 b;have:=tl12 h2;simp only;omega
theorem rl10{b:B}{x}(h:readWay b=some x):x.2.length<b.length:=by
 obtain⟨a,h1,h⟩:=bind_some h
 obtain⟨y,h2,h⟩:=bind_some h
 cases h2
 obtain⟨c,h3,h⟩:=bind_some h
 obtain⟨_,h⟩:=is10 h
 cases h
 have:=tl10 h1;have:=pl10 47 a.2
 split at h3
 ·have:=tl12 h3;simp only;omega
 ·cases h3;simp only;omega
theorem sim_more:∀(n:Nat) (b:B),b.length<n->SimAt (moreWays n b) PM b
 |0,b,h=>by omega
 |n+1,b,h=>by
  refine SimAt.congr (p:=fun l=>_) ?_ fun l _=>(Ps l).symm
  refine SimAt.bnd (sp10 (m:=44) (by decide) b) fun x hx=>?_
  dsimp only
  refine SimAt.ite (fun hf=>?_) fun _=>SimAt.pure _ _
  refine SimAt.bnd (sim_way x.2) fun w hw=>?_
  dsimp only
  have e:x=passes 44 b:=(Option.some.inj hx).symm
  have:=pl10 44 b
  have:=rl10 hw
  rw[e] at this
  exact (sim_more n w.2 (by omega)).map (f:=fun r=>w.1::r)
theorem ml12:∀{n:Nat}{b:B} {x},moreWays n b=some x->x.2.length<=b.length
 |0,_,_,h=>by cases h
 |n+1,b,x,h=>by
  simp only[moreWays,Option.bind_some] at h
  have:=pl10 44 b
  split at h
  ·obtain⟨w,h2,h⟩:=bind_some h
   obtain⟨c,h3,h⟩:=map_some h
   subst h
   have:=rl10 h2;have:=ml12 h3;simp only;omega
  ·cases h;simp only;omega
theorem sim_choice(b:B):SimAt (readChoice b) pChoice b:=by
 refine SimAt.bnd (sn10 b) fun x _=>?_
 dsimp only
 refine SimAt.bnd (sim_gain x.2) fun g _=>?_
 dsimp only
 refine SimAt.bnd (sp10 (m:=58) (by decide) g.2) fun u _=>?_
 dsimp only
 refine SimAt.guard fun _=>?_
 refine SimAt.bnd (sim_way u.2) fun w _=>?_
 dsimp only
 show SimAt _ (fun l=>(PM l).bind fun r=>(passP 59 r.2).bind fun v=>if v.1=true then if ((w.1::r.1).map fun w=>w.1).Nodup then some ((⟨x.1,g.1,w.1::r.1⟩:RawChoice),v.2) else none else none) _
 refine SimAt.bnd (sim_more (w.2.length+1) w.2 (Nat.lt_succ_self _)) fun r _=>?_
 dsimp only
 show SimAt _ (fun l=>(passP 59 l).bind fun v=>if v.1=true then if ((w.1::r.1).map fun w=>w.1).Nodup then some ((⟨x.1,g.1,w.1::r.1⟩:RawChoice),v.2) else none else none) _
 refine SimAt.bnd (sp10 (m:=59) (by decide) r.2) fun v _=>?_
 dsimp only
 exact SimAt.guard fun _=>SimAt.guard fun _=>SimAt.pure _ _
theorem rl11{b:B}{x}(h:readChoice b=some x):x.2.length<b.length:=by
 obtain⟨a,h1,h⟩:=bind_some h
 obtain⟨g,h2,h⟩:=bind_some h
 obtain⟨y,h3,h⟩:=bind_some h
 cases h3
 obtain⟨_,h⟩:=is10 h
 obtain⟨w,h4,h⟩:=bind_some h
 obtain⟨r,h5,h⟩:=bind_some h
 obtain⟨y,h3,h⟩:=bind_some h
 cases h3
 obtain⟨_,h⟩:=is10 h
 obtain⟨_,h⟩:=is10 h
 cases h
 have:=tl10 h1;have:=rl13 h2;have:=pl10 58 g.2;have:=rl10 h4;have:=ml12 h5;have:=pl10 59 r.2
 simp only;omega
theorem sim_chs:∀(n:Nat) (b:B),b.length<n->SimAt (moreChoices n b) PC b
 |0,b,h=>by omega
 |n+1,b,h=>by
  refine SimAt.congr (p:=fun l=>_) ?_ fun l _=>(PC_step l).symm
  refine SimAt.bnd (sp10 (m:=125) (by decide) b) fun x hx=>?_
  dsimp only
  refine SimAt.ite (fun hf=>SimAt.pure _ _) fun _=>?_
  refine SimAt.bnd (sim_choice x.2) fun w hw=>?_
  dsimp only
  have e:x=passes 125 b:=(Option.some.inj hx).symm
  have:=pl10 125 b
  have:=rl11 hw
  rw[e] at this
  exact (sim_chs n w.2 (by omega)).map (f:=fun r=>w.1::r)
theorem ml11:∀{n:Nat}{b:B} {x},moreChoices n b=some x->x.2.length<=b.length
 |0,_,_,h=>by cases h
 |n+1,b,x,h=>by
  simp only[moreChoices,Option.bind_some] at h
  have:=pl10 125 b
  split at h
  ·cases h;simp only;omega
  ·obtain⟨w,h2,h⟩:=bind_some h
   obtain⟨c,h3,h⟩:=map_some h
   subst h
   have:=rl11 h2;have:=ml11 h3;simp only;omega
theorem sim_state(b:B):SimAt (readState b) pState b:=by
 refine SimAt.bnd (sn10 b) fun k _=>?_
 dsimp only
 refine SimAt.guard fun _=>?_
 refine SimAt.bnd (sn10 k.2) fun x _=>?_
 dsimp only
 refine SimAt.bnd (sp10 (m:=123) (by decide) x.2) fun u _=>?_
 dsimp only
 refine SimAt.guard fun _=>?_
 refine SimAt.bnd (sim_chs (u.2.length+1) u.2 (Nat.lt_succ_self _)) fun c _=>?_
 dsimp only
 exact SimAt.guard fun _=>SimAt.guard fun _=>SimAt.pure _ _
theorem rl12{b:B}{x}(h:readState b=some x):x.2.length<b.length:=by
 obtain⟨a,h1,h⟩:=bind_some h
 obtain⟨_,h⟩:=is10 h
 obtain⟨g,h2,h⟩:=bind_some h
 obtain⟨y,h3,h⟩:=bind_some h
 cases h3
 obtain⟨_,h⟩:=is10 h
 obtain⟨c,h4,h⟩:=bind_some h
 obtain⟨_,h⟩:=is10 h
 obtain⟨_,h⟩:=is10 h
 cases h
 have:=tl10 h1;have:=tl10 h2;have:=pl10 123 g.2;have:=ml11 h4
 simp only;omega
theorem sim_states:∀(n:Nat) (b:B),b.length<n->moreStates n b=(lex b).bind fun l=>pSts (l.length+1) l
 |0,b,h=>by omega
 |n+1,b,h=>by
  have hs:=sim_state (Rd.skip false b)
  have hl:=sl10 false b
  simp only[moreStates]
  cases e:Rd.skip false b with
  |nil=>rw[if_pos rfl,lex_end e];rfl
  |cons c r=>
   rw[if_neg (by simp)]
   rw[e] at hs hl
   have el:lex (c::r)=lex b:=by rw[<-e,ls10]
   cases er:readState (c::r) with
   |none=>
    rw[er] at hs
    cases hb:lex b with
    |none=>rfl
    |some l=>
     have:=hs.1 l (el.trans hb)
     have hne:l.isEmpty=false:=by
      rcases lf b c r e l hb with ⟨_,_,l',rfl,_⟩ | ⟨_,_,_,_,l',rfl,_⟩ | ⟨_,_,_,l',rfl,_⟩<;>rfl
     simp only[Option.bind_some,pSts,hne]
     simp only at this
     rw[this];rfl
   |some x=>
    rw[er] at hs
    have hx:=rl12 er
    have ih:=sim_states n x.2 (by omega)
    simp only[Option.bind_some]
    rw[ih]
    cases hb:lex b with
    |none=>
     have:=hs.2 (el.trans hb) x rfl
     rw[this];rfl
    |some l=>
     obtain⟨l',h1,h2⟩:=hs.1 l (el.trans hb)
     have hne:l.isEmpty=false:=by
      rcases lf b c r e l hb with ⟨_,_,l',rfl,_⟩ | ⟨_,_,_,_,l',rfl,_⟩ | ⟨_,_,_,l',rfl,_⟩<;>rfl
     have hlt:=pState_lt h1
     simp only[Option.bind_some,pSts,hne,h2,h1]
     rw[pSts_fuel l.length (l'.length+1) l' (by simpa using hlt) (Nat.lt_succ_self _)]
     rfl
end Rd
end
noncomputable section
namespace Rd
open Ra61
def okW(w:B×Nat):Bool:=decide (1<=w.2)&&decide (w.2<=1000)
def okC(c:RawChoice):Bool:=decide (-1000<=c.gain)&&(decide (c.gain<=1000)&&(once (c.ways.map fun w=>w.1)&&c.ways.all okW))
def okS(s:RawState):Bool:=once (s.choices.map fun c=>c.name)&&(decide (s.choices.length<=8)&&s.choices.all okC)
def only'{α β:Type}(ok:α->Bool)(o:Option (α×β)):Option (α×β):=o.bind fun x=>if ok x.1=true then some x else none
theorem pWay_eq(l:List Tok):pWay l=only' okW (way l):=by
 unfold pWay way only'
 cases name l with
 |none=>rfl
 |some x=>
  simp only[Option.bind_some,passP]
  by_cases h:x.2.head? = some (.sign 47)
  ·simp only[h,if_true]
   cases number (x.2.drop 1) with
   |none=>rfl
   |some n=>simp[okW]
  ·simp[h,okW]
theorem pGain_eq(l:List Tok):pGain l=only' (fun g:Int=>decide (-1000<=g)&&decide (g<=1000)) (whole l):=by
 unfold pGain whole only'
 simp only[Option.bind_some,passP]
 by_cases h:l.head? = some (.sign 45)
 ·simp only[h,if_true]
  cases number (l.drop 1) with
  |none=>rfl
  |some n=>
   simp only[Option.bind_some,Option.map_some]
   by_cases hn:n.1<=1000
   ·rw[if_pos hn,if_pos (by simp;omega)]
   ·rw[if_neg hn,if_neg (by simp;omega)]
 ·simp only[h,if_false]
  cases number l with
  |none=>rfl
  |some n=>
   simp only[Option.bind_some,Option.map_some]
   by_cases hn:n.1<=1000
   ·have hz:(decide (-1000<=(n.1:Int))&&decide ((n.1:Int)<=1000))=true:=by simp only[Bool.and_eq_true,decide_eq_true_eq];omega
    rw[if_pos hn];simp only[hz,if_true,Bool.false_eq_true,if_false]
   ·rw[if_neg hn,if_neg (by simp only[Bool.and_eq_true,decide_eq_true_eq];omega)]
def pWs(l:List Tok):Option (List (B×Nat)×List Tok):=(pWay l).bind fun w=>(PM w.2).bind fun r=>(passP 59 r.2).bind fun v=>if v.1=true then some (w.1::r.1,v.2) else none
theorem way_lt{l:List Tok}{x}(h:way l=some x):x.2.length<l.length:=by
 obtain⟨a,h1,h⟩:=bind_some h
 have:=nl11 h1
 split at h
 ·obtain⟨n,h2,h⟩:=map_some h
  subst h
  have:=nl10 h2;simp at this ⊢;omega
 ·cases h;simpa using this
theorem pWs_eq:∀(n:Nat) (l:List Tok),l.length<=n->pWs l=only' (fun ws:List (B×Nat)=>ws.all okW) (ways n l)
 |0,l,h=>by
  have:l=[]:=List.length_eq_zero_iff.mp (by omega)
  subst this;rfl
 |n+1,l,h=>by
  unfold pWs ways only'
  rw[pWay_eq]
  unfold only'
  cases e:way l with
  |none=>rfl
  |some w=>
   have hw:=way_lt e
   simp only[Option.bind_some]
   by_cases hc:w.2.head? = some (.sign 44)
   ·rw[if_pos hc]
    have ih:=pWs_eq n (w.2.drop 1) (by simp;omega)
    unfold pWs only' at ih
    by_cases ho:okW w.1=true
    ·rw[if_pos ho]
     simp only[Option.bind_some]
     rw[Ps]
     simp only[passP,Option.bind_some,hc,if_true]
     simp only[passP,Option.bind_some] at ih
     cases e2:pWay (w.2.drop 1) with
     |none=>
      rw[e2] at ih
      simp only[Option.bind_none] at ih
      cases e3:ways n (w.2.drop 1) with
      |none=>rfl
      |some y=>
       rw[e3] at ih
       simp only[Option.bind_some] at ih
       simp only[Option.bind_none,Option.map_some,Option.bind_some,List.all_cons,ho,Bool.true_and]
       split
       ·rename_i q;rw[if_pos q] at ih;cases ih
       ·rfl
     |some w'=>
      rw[e2] at ih
      simp only[Option.bind_some] at ih ⊢
      cases e4:PM w'.2 with
      |none=>
       rw[e4] at ih
       simp only[Option.bind_none] at ih
       cases e3:ways n (w.2.drop 1) with
       |none=>rfl
       |some y=>
        rw[e3] at ih
        simp only[Option.bind_some] at ih
        simp only[Option.bind_none,Option.map_none,Option.map_some,Option.bind_some,List.all_cons,ho,Bool.true_and]
        split
        ·rename_i q;rw[if_pos q] at ih;cases ih
        ·rfl
      |some r=>
       rw[e4] at ih
       simp only[Option.bind_some] at ih
       simp only[Option.map_some,Option.bind_some]
       cases e3:ways n (w.2.drop 1) with
       |none=>
        rw[e3] at ih
        simp only[Option.bind_none] at ih
        simp only[Option.map_none,Option.bind_none]
        split
        ·rename_i q;rw[if_pos q] at ih;cases ih
        ·rfl
       |some y=>
        rw[e3] at ih
        simp only[Option.bind_some] at ih
        simp only[Option.map_some,Option.bind_some,List.all_cons,ho,Bool.true_and]
        by_cases q1:r.2.head? = some (.sign 59)
        ·simp only[q1,if_true] at ih ⊢
         by_cases q2:y.1.all okW=true
         ·simp only[q2,if_true] at ih ⊢
          cases ih;rfl
         ·rw[if_neg q2] at ih;cases ih
        ·simp only[q1,if_false] at ih ⊢
         by_cases q2:y.1.all okW=true
         ·simp only[q2,if_true] at ih;cases ih
         ·rw[if_neg q2];rfl
    ·rw[if_neg ho]
     simp only[Option.bind_none]
     cases e3:ways n (w.2.drop 1) with
     |none=>rfl
     |some y=>simp[ho]
   ·rw[if_neg hc]
    by_cases ho:okW w.1=true
    ·rw[if_pos ho]
     simp only[Option.bind_some]
     rw[Ps]
     simp only[passP,Option.bind_some,hc,if_false,sign]
     by_cases q1:w.2.head? = some (.sign 59)
     ·simp[q1,ho]
     ·simp[q1]
    ·rw[if_neg ho]
     simp only[Option.bind_none,sign]
     by_cases q1:w.2.head? = some (.sign 59)
     ·simp[q1,ho]
     ·simp[q1]
theorem pChoice_eq(l:List Tok):pChoice l=(name l).bind fun x=>(pGain x.2).bind fun g=>(passP 58 g.2).bind fun u=>if u.1=true then (pWs u.2).bind fun w=>if (w.1.map fun w=>w.1).Nodup then some (⟨x.1,g.1,w.1⟩,w.2) else none else none:=by
 unfold pChoice pWs
 congr 1;funext x;congr 1;funext g;congr 1;funext u
 split
 ·cases pWay u.2 with
  |none=>rfl
  |some w=>
   simp only[Option.bind_some]
   cases PM w.2 with
   |none=>rfl
   |some r=>
    simp only[Option.bind_some,passP]
    by_cases q:r.2.head? = some (.sign 59)
    ·simp only[q,if_true,Option.bind_some]
    ·simp only[q,if_false,Bool.false_eq_true,Option.bind_none]
 ·rfl
theorem whole_lt{l:List Tok}{x}(h:whole l=some x):x.2.length<l.length:=by
 unfold whole at h
 split at h
 ·obtain⟨n,h2,h⟩:=map_some h
  subst h
  have:=nl10 h2;simp at this ⊢;omega
 ·obtain⟨n,h2,h⟩:=map_some h
  subst h
  have:=nl10 h2;simpa using this
theorem pChs_eq:∀(n:Nat) (l:List Tok),pChs n l=only' (fun cs:List RawChoice=>cs.all okC) (choices n l)
 |0,l=>rfl
 |n+1,l=>by
  unfold pChs choices
  simp only[passP,Option.bind_some]
  by_cases h:l.head? = some (.sign 125)
  ·simp[h,only']
  ·simp only[h,if_false,Bool.false_eq_true]
   rw[pChoice_eq]
   cases e1:name l with
   |none=>rfl
   |some x=>
    simp only[Option.bind_some]
    rw[pGain_eq]
    cases e2:whole x.2 with
    |none=>rfl
    |some g=>
     have hl1:=nl11 e1
     have hl2:=whole_lt e2
     simp only[Option.bind_some,only',sign,passP]
     by_cases a1:(decide (-1000<=g.1)&&decide (g.1<=1000))=true
     ·rw[if_pos a1]
      simp only[Option.bind_some]
      by_cases q:g.2.head? = some (.sign 58)
      ·simp only[q,if_true,Option.bind_some]
       rw[pWs_eq l.length (g.2.drop 1) (by simp;omega)]
       cases e3:ways l.length (g.2.drop 1) with
       |none=>rfl
       |some w=>
        simp only[Option.bind_some,only']
        by_cases a2:w.1.all okW=true
        ·rw[if_pos a2]
         simp only[Option.bind_some]
         by_cases a3:(w.1.map fun w=>w.1).Nodup
         ·rw[if_pos a3]
          simp only[Option.bind_some]
          have hok:okC ⟨x.1,g.1,w.1⟩=true:=by
           simp only[Bool.and_eq_true] at a1
           simp only[okC,once,a1.1,a1.2,a2,a3,decide_true,Bool.and_self]
          rw[pChs_eq n]
          cases e4:choices n w.2 with
          |none=>rfl
          |some r=>
           simp only[Option.map_some,Option.bind_some,List.all_cons,hok,Bool.true_and,only']
           split<;>rfl
         ·rw[if_neg a3]
          have hok:okC ⟨x.1,g.1,w.1⟩=false:=by simp[okC,once,a3]
          cases choices n w.2<;>simp[hok]
        ·rw[if_neg a2]
         have hok:okC ⟨x.1,g.1,w.1⟩=false:=by
          have:w.1.all okW=false:=by simpa using a2
          simp[okC,this]
         cases choices n w.2<;>simp[hok]
      ·simp only[q,if_false,Bool.false_eq_true,Option.bind_none]
     ·rw[if_neg a1]
      simp only[Option.bind_none]
      have hok:∀ws,okC ⟨x.1,g.1,ws⟩=false:=fun ws=>by
       have a1':(decide (-1000<=g.1)&&decide (g.1<=1000))=false:=by simpa only[Bool.not_eq_true] using a1
       show (decide (-1000<=g.1)&&(decide (g.1<=1000)&&_))=false
       rw[<-Bool.and_assoc,a1',Bool.false_and]
      by_cases q:g.2.head? = some (.sign 58)
      ·simp only[q,if_true,Option.bind_some]
       cases ways l.length (g.2.drop 1) with
       |none=>rfl
       |some w=>cases e5:choices n w.2<;>simp[hok,e5]
      ·simp[q]
theorem word_state(l:List Tok):word "state" l=(name l).bind fun k=>if k.1=[115,116,97,116,101] then some ((),k.2) else none:=by
 have e:ascii "state" = [115,116,97,116,101]:=by decide +kernel
 unfold word
 rw[e]
 cases l with
 |nil=>rfl
 |cons t r=>
  cases t with
  |name x=>by_cases h:x=[115,116,97,116,101]<;>simp[name,h]
  |num n=>simp[name]
  |sign c=>simp[name]
theorem pSts_eq:∀(n:Nat) (l:List Tok),pSts n l=(states n l).bind fun x=>if x.all okS=true then some x else none
 |0,l=>rfl
 |n+1,l=>by
  unfold pSts states
  by_cases h:l.isEmpty=true
  ·simp[h]
  ·simp only[h,if_false,Bool.false_eq_true]
   rw[word_state]
   unfold pState
   cases e1:name l with
   |none=>rfl
   |some k=>
    simp only[Option.bind_some]
    by_cases hk:k.1=[115,116,97,116,101]
    ·simp only[hk,if_true,Option.bind_some]
     cases e2:name k.2 with
     |none=>rfl
     |some x=>
      simp only[Option.bind_some,passP,sign]
      by_cases q:x.2.head? = some (.sign 123)
      ·simp only[q,if_true,Option.bind_some]
       have a1:=nl11 e1
       have a2:=nl11 e2
       rw[show PC (x.2.drop 1)=pChs l.length (x.2.drop 1) from pf15 _ _ _ (Nat.lt_succ_self _) (by simp;omega),pChs_eq]
       cases e3:choices l.length (x.2.drop 1) with
       |none=>rfl
       |some c=>
        simp only[only',Option.bind_some]
        by_cases b1:c.1.all okC=true
        ·rw[if_pos b1]
         simp only[Option.bind_some]
         by_cases b2:c.1.length<=8
         ·rw[if_pos b2]
          by_cases b3:(c.1.map fun c=>c.name).Nodup
          ·rw[if_pos b3]
           simp only[Option.bind_some]
           have hok:okS ⟨x.1,c.1⟩=true:=by simp only[okS,once,b1,b2,b3,decide_true,Bool.and_self]
           rw[pSts_eq n]
           cases e4:states n c.2 with
           |none=>rfl
           |some r=>
            simp only[Option.map_some,Option.bind_some,List.all_cons,hok,Bool.true_and]
            split<;>rfl
          ·rw[if_neg b3]
           have hok:okS ⟨x.1,c.1⟩=false:=by simp[okS,once,b3]
           cases states n c.2<;>simp[hok]
         ·rw[if_neg b2]
          have hok:okS ⟨x.1,c.1⟩=false:=by simp[okS,b2]
          cases states n c.2<;>simp[hok]
        ·rw[if_neg b1]
         have hok:okS ⟨x.1,c.1⟩=false:=by
          have:c.1.all okC=false:=by simpa using b1
          simp[okS,this]
         cases states n c.2<;>simp[hok]
      ·simp[q]
    ·simp[hk]
theorem net_eq(b:B):net b=readStates b:=by
 unfold net readStates
 rw[sim_states _ b (Nat.lt_succ_self _)]
 show ((lex b).bind fun l=>states (l.length+1) l).bind _=_
 cases lex b with
 |none=>rfl
 |some l=>
  simp only[Option.bind_some]
  rw[pSts_eq]
  cases states (l.length+1) l with
  |none=>rfl
  |some raw=>
   simp only[Option.bind_some]
   by_cases hs:raw.all okS=true
   ·simp only[hs,if_true,Option.bind_some]
    have hall:(raw.all fun s=>once (s.choices.map fun c=>c.name)&&(decide (s.choices.length<=CHOICES)&&s.choices.all fun c=>decide (-GAIN<=c.gain)&&(decide (c.gain<=GAIN) &&
      (once (c.ways.map fun w=>w.1)&&c.ways.all fun w=>(raw.map fun s=>s.name).contains w.1&&(decide (1<=w.2)&&decide (w.2<=WEIGHT))))))=(raw.all fun s=>s.choices.all fun c=>c.ways.all fun w=>(raw.map fun s=>s.name).contains w.1):=by
     rw[Bool.eq_iff_iff]
     simp only[List.all_eq_true,okS,okC,okW,Bool.and_eq_true] at hs ⊢
     constructor
     ·intro h s hm c hc w hw
      exact (((h s hm).2.2 c hc).2.2.2 w hw).1
     ·intro h s hm
      obtain⟨k1,k2,k3⟩:=hs s hm
      refine⟨k1,k2,fun c hc=>?_⟩
      obtain⟨j1,j2,j3,j4⟩:=k3 c hc
      exact⟨j1,j2,j3,fun w hw=>⟨h s hm c hc w hw,j4 w hw⟩⟩
    rw[hall]
    by_cases c1:1<=raw.length/\raw.length<=16
    ·by_cases c2:(raw.map fun s=>s.name).Nodup
     ·by_cases c3:(raw.all fun s=>s.choices.all fun c=>c.ways.all fun w=>(raw.map fun s=>s.name).contains w.1)=true
      ·rw[if_pos (by simp only[once,c2,c1.1,c3,decide_true,Bool.true_and];rw[Bool.and_true];exact decide_eq_true c1.2),if_pos c1,if_pos c2,if_pos c3]
       rfl
      ·rw[if_neg (by simp only[Bool.and_eq_true];exact fun z=>c3 z.2.2.2),if_pos c1,if_pos c2,if_neg c3]
     ·rw[if_neg (by simp only[Bool.and_eq_true,once,decide_eq_true_eq];exact fun z=>c2 z.1),if_pos c1,if_neg c2]
    ·rw[if_neg (by simp only[Bool.and_eq_true,decide_eq_true_eq];exact fun z=>c1 ⟨z.2.1,z.2.2.1⟩),if_neg c1]
   ·simp only[hs,if_false,Option.bind_none,Bool.false_eq_true]
    rw[if_neg]
    intro z
    apply hs
    simp only[Bool.and_eq_true] at z
    have z:=z.2.2.2
    simp only[List.all_eq_true,okS,okC,okW,Bool.and_eq_true] at z ⊢
    intro s hm
    obtain⟨k1,k2,k3⟩:=z s hm
    refine⟨k1,k2,fun c hc=>?_⟩
    obtain⟨j1,j2,j3,j4⟩:=k3 c hc
    exact⟨j1,j2,j3,fun w hw=>(j4 w hw).2⟩
end Rd
end
noncomputable section
namespace Rd
open Ra61
theorem mf11:∀(n m:Nat) (b:B),b.length<n->b.length<m->moreWays n b=moreWays m b
 |0,_,_,h,_=>by omega
 |_,0,_,_,h=>by omega
 |n+1,m+1,b,h1,h2=>by
  simp only[moreWays,Option.bind_some]
  split
  ·rename_i hx
   cases e2:readWay (passes 44 b).2 with
   |none=>rfl
   |some w=>
    have:=pl10 44 b
    have:=rl10 e2
    simp only[Option.bind_some]
    rw[mf11 n m w.2 (by omega) (by omega)]
  ·rfl
def MW(b:B):=moreWays (b.length+1) b
theorem MW_step(b:B):MW b=if (passes 44 b).1=true then (readWay (passes 44 b).2).bind fun w=>(MW w.2).map fun r=>(w.1::r.1,r.2) else some ([],(passes 44 b).2):=by
 conv=>lhs;unfold MW;unfold moreWays
 rw[Option.bind_some]
 split
 ·cases e2:readWay (passes 44 b).2 with
  |none=>rfl
  |some w=>
   have:=pl10 44 b
   have:=rl10 e2
   simp only[Option.bind_some]
   rw[show MW w.2=moreWays b.length w.2 from mf11 _ _ _ (Nat.lt_succ_self _) (by omega)]
 ·rfl
theorem mf:∀(n m:Nat) (b:B),b.length<n->b.length<m->moreChoices n b=moreChoices m b
 |0,_,_,h,_=>by omega
 |_,0,_,_,h=>by omega
 |n+1,m+1,b,h1,h2=>by
  simp only[moreChoices,Option.bind_some]
  split
  ·rfl
  ·cases e2:readChoice (passes 125 b).2 with
   |none=>rfl
   |some w=>
    have:=pl10 125 b
    have:=rl11 e2
    simp only[Option.bind_some]
    rw[mf n m w.2 (by omega) (by omega)]
def MC(b:B):=moreChoices (b.length+1) b
theorem Ms(b:B):MC b=if (passes 125 b).1=true then some ([],(passes 125 b).2) else (readChoice (passes 125 b).2).bind fun c=>(MC c.2).map fun r=>(c.1::r.1,r.2):=by
 conv=>lhs;unfold MC;unfold moreChoices
 rw[Option.bind_some]
 split
 ·rfl
 ·cases e2:readChoice (passes 125 b).2 with
  |none=>rfl
  |some w=>
   have:=pl10 125 b
   have:=rl11 e2
   simp only[Option.bind_some]
   rw[show MC w.2=moreChoices b.length w.2 from mf _ _ _ (Nat.lt_succ_self _) (by omega)]
theorem mf10:∀(n m:Nat) (b:B),b.length<n->b.length<m->moreStates n b=moreStates m b
 |0,_,_,h,_=>by omega
 |_,0,_,_,h=>by omega
 |n+1,m+1,b,h1,h2=>by
  simp only[moreStates]
  split
  ·rfl
  ·cases e2:readState (Rd.skip false b) with
   |none=>rfl
   |some w=>
    have:=sl10 false b
    have:=rl12 e2
    simp only[Option.bind_some]
    rw[mf10 n m w.2 (by omega) (by omega)]
def MS(b:B):=moreStates (b.length+1) b
theorem MS_step(b:B):MS b=if Rd.skip false b=[] then some [] else (readState (Rd.skip false b)).bind fun s=>(MS s.2).map fun r=>s.1::r:=by
 conv=>lhs;unfold MS;unfold moreStates
 split
 ·rfl
 ·cases e2:readState (Rd.skip false b) with
  |none=>rfl
  |some w=>
   have:=sl10 false b
   have:=rl12 e2
   simp only[Option.bind_some]
   rw[show MS w.2=moreStates b.length w.2 from mf10 _ _ _ (Nat.lt_succ_self _) (by omega)]
theorem re(b:B):readChoice b=(takeName b).bind fun x=>(readGain x.2).bind fun g=>if (passes 58 g.2).1=true then (readWay (passes 58 g.2).2).bind fun w=>(MW w.2).bind fun r=>
   if (passes 59 r.2).1=true then if ((w.1::r.1).map fun w=>w.1).Nodup then some (⟨x.1,g.1,w.1::r.1⟩,(passes 59 r.2).2) else none else none else none:=rfl
theorem re10(b:B):readState b=(takeName b).bind fun k=>if k.1=[115,116,97,116,101] then (takeName k.2).bind fun x=>if (passes 123 x.2).1=true then (MC (passes 123 x.2).2).bind fun c=>
   if c.1.length<=8 then if (c.1.map fun c=>c.name).Nodup then some (⟨x.1,c.1⟩,c.2) else none else none else none else none:=rfl
theorem re11(b:B):readStates b=(MS b).bind fun raw=>if 1<=raw.length/\raw.length<=16 then (if (raw.map fun s=>s.name).Nodup then (if raw.all fun s=>s.choices.all fun c=>c.ways.all fun w=>(raw.map fun s=>s.name).contains w.1 then some (placed raw) else none) else none) else none:=rfl
theorem MW_len:∀(n:Nat) (b:B),b.length<n->∀r,MW b=some r->2*r.1.length+r.2.length<=b.length
 |0,b,h,_,_=>by omega
 |n+1,b,h,r,e=>by
  rw[MW_step] at e
  have hp:=pl10 44 b
  split at e
  ·rename_i hx
   have hl:=pl15 (m:=44) (by decide) hx
   obtain⟨w,e1,e⟩:=bind_some e
   obtain⟨z,e2,rfl⟩:=map_some e
   have:=rl10 e1
   have:=MW_len n w.2 (by omega) z e2
   simp only[List.length_cons];omega
  ·cases e;simp;omega
end Rd
end
noncomputable section
namespace Ck
open PySem PySem.Spec PyProof.Rows L2
def top(i:Nat):Stmt:=PySem.Challenge.pw_chancechoices_s03_worst.main.body.getD i (.Pass ⟨0,0,0,0⟩)
abbrev d_demand:Stmt:=top 24
abbrev did:Stmt:=top 25
abbrev dil:Stmt:=top 26
abbrev din:Stmt:=top 27
abbrev dad:Stmt:=top 28
abbrev drg11:Stmt:=top 30
abbrev drw:Stmt:=top 31
abbrev drc:Stmt:=top 33
abbrev drs10:Stmt:=top 35
abbrev dwt:Stmt:=top 36
abbrev drs:Stmt:=top 37
abbrev ddr:Stmt:=top 51
abbrev drg10:Stmt:=top 52
abbrev drg:Stmt:=top 53
abbrev da:Stmt:=top 54
abbrev dcd:Stmt:=top 55
abbrev ddo:Stmt:=top 56
abbrev dft:Stmt:=top 57
abbrev d_tell:Stmt:=top 58
abbrev dc10:Stmt:=top 60
abbrev d_solve:Stmt:=top 61
abbrev dgm:Stmt:=top 63
abbrev dgt:Stmt:=top 64
abbrev dot10:Stmt:=top 65
abbrev dli:Stmt:=top 66
abbrev dme:Stmt:=top 67
abbrev dow:Stmt:=top 68
abbrev dtw:Stmt:=top 69
abbrev dw:Stmt:=top 70
abbrev dRi:Stmt:=inClass (top 29) 0
abbrev dRh:Stmt:=inClass (top 29) 1
abbrev dRs:Stmt:=inClass (top 29) 2
abbrev dRs10:Stmt:=inClass (top 29) 3
abbrev dRa:Stmt:=inClass (top 29) 4
abbrev dRp:Stmt:=inClass (top 29) 5
abbrev dRt10:Stmt:=inClass (top 29) 6
abbrev dRt:Stmt:=inClass (top 29) 7
abbrev dCi:Stmt:=inClass (top 32) 0
abbrev dSi:Stmt:=inClass (top 34) 0
abbrev dVi:Stmt:=inClass (top 59) 0
abbrev dVn:Stmt:=inClass (top 59) 1
abbrev dVt:Stmt:=inClass (top 59) 2
abbrev dQi11:Stmt:=inClass (top 62) 0
abbrev dQe:Stmt:=inClass (top 62) 1
abbrev dQt:Stmt:=inClass (top 62) 2
abbrev dQi:Stmt:=inClass (top 62) 3
abbrev dQi10:Stmt:=inClass (top 62) 4
abbrev dQg:Stmt:=inClass (top 62) 5
theorem sc_demand:FnScope ["holds"] ["holds"] (defScope d_demand):=⟨rfl,rfl,rfl,by decide +kernel,rfl,by decide +kernel,by decide +kernel⟩
theorem sc_is_digit:FnScope ["byte"] ["byte"] (defScope did):=⟨rfl,rfl,rfl,by decide +kernel,rfl,by decide +kernel,by decide +kernel⟩
theorem sc_is_letter:FnScope ["byte"] ["byte"] (defScope dil):=⟨rfl,rfl,rfl,by decide +kernel,rfl,by decide +kernel,by decide +kernel⟩
theorem sin:FnScope ["byte"] ["byte"] (defScope din):=⟨rfl,rfl,rfl,by decide +kernel,rfl,by decide +kernel,by decide +kernel⟩
theorem sad:FnScope ["names"] ["names"] (defScope dad):=⟨rfl,rfl,rfl,by decide +kernel,rfl,by decide +kernel,by decide +kernel⟩
theorem srg10:FnScope ["reader","below","number"] ["reader"] (defScope drg11):=⟨rfl,rfl,rfl,by decide +kernel,rfl,by decide +kernel,by decide +kernel⟩
theorem srw:FnScope ["reader","name","weight"] ["reader"] (defScope drw):=⟨rfl,rfl,rfl,by decide +kernel,rfl,by decide +kernel,by decide +kernel⟩
theorem src:FnScope ["reader","name","gain","ways","way"] ["reader"] (defScope drc):=⟨rfl,rfl,rfl,by decide +kernel,rfl,by decide +kernel,by decide +kernel⟩
theorem srs10:FnScope ["reader","name","choices","choice"] ["reader"] (defScope drs10):=⟨rfl,rfl,rfl,by decide +kernel,rfl,by decide +kernel,by decide +kernel⟩
theorem swt:FnScope ["ways","names","way"] ["ways","names"] (defScope dwt):=⟨rfl,rfl,rfl,by decide +kernel,rfl,by decide +kernel,by decide +kernel⟩
theorem srs:FnScope ["text","reader","states","names","state","choice"] ["text"] (defScope drs):=⟨rfl,rfl,rfl,by decide +kernel,rfl,by decide +kernel,by decide +kernel⟩
theorem sdr:FnScope ["number","least","greatest"] ["number","least","greatest"] (defScope ddr):=⟨rfl,rfl,rfl,by decide +kernel,rfl,by decide +kernel,by decide +kernel⟩
theorem sc_read_given:FnScope ["text","room"] ["text","room"] (defScope drg10):=⟨rfl,rfl,rfl,by decide +kernel,rfl,by decide +kernel,by decide +kernel⟩
theorem srg:FnScope ["text","room","goals","states"] ["text","room","goals"] (defScope drg):=⟨rfl,rfl,rfl,by decide +kernel,rfl,by decide +kernel,by decide +kernel⟩
theorem sc_answer:FnScope ["work"] ["work"] (defScope da):=⟨rfl,rfl,rfl,by decide +kernel,rfl,by decide +kernel,by decide +kernel⟩
theorem scd:FnScope ["number","other","rest"] ["number","other"] (defScope dcd):=⟨rfl,rfl,rfl,by decide +kernel,rfl,by decide +kernel,by decide +kernel⟩
theorem sdo:FnScope ["number","digits"] ["number"] (defScope ddo):=⟨rfl,rfl,rfl,by decide +kernel,rfl,by decide +kernel,by decide +kernel⟩
theorem sft:FnScope ["top","bottom","divisor","told"] ["top","bottom"] (defScope dft):=⟨rfl,rfl,rfl,by decide +kernel,rfl,by decide +kernel,by decide +kernel⟩
theorem sc_tell:FnScope ["states","words","room","told","state","word"] ["states","words","room"] (defScope d_tell):=⟨rfl,rfl,rfl,by decide +kernel,rfl,by decide +kernel,by decide +kernel⟩
theorem sc11:FnScope ["row","pivot_row","turn","pivot_before","pivot","factor","number","other"] ["row","pivot_row","turn","pivot_before"] (defScope dc10):=⟨rfl,rfl,rfl,by decide +kernel,rfl,by decide +kernel,by decide +kernel⟩
theorem ss11:FnScope ["rows","pivot","turn","pivot_row","place","row"] ["rows"] (defScope d_solve):=⟨rfl,rfl,rfl,by decide +kernel,rfl,by decide +kernel,by decide +kernel⟩
theorem sgm:FnScope ["goals","states","place"] ["goals","states"] (defScope dgm):=⟨rfl,rfl,rfl,by decide +kernel,rfl,by decide +kernel,by decide +kernel⟩
theorem sgt:FnScope ["choices","times","choice"] ["choices","times"] (defScope dgt):=⟨rfl,rfl,rfl,by decide +kernel,rfl,by decide +kernel,by decide +kernel⟩
theorem sot:FnScope ["marks","states","times","mark","state"] ["marks","states","times"] (defScope dot10):=⟨rfl,rfl,rfl,by decide +kernel,rfl,by decide +kernel,by decide +kernel⟩
theorem sli:FnScope ["choice","marks","way"] ["choice","marks"] (defScope dli):=⟨rfl,rfl,rfl,by decide +kernel,rfl,by decide +kernel,by decide +kernel⟩
theorem sme10:FnScope ["options","ending","choices","turn","place","choice"] ["options"] (defScope dme):=⟨rfl,rfl,rfl,by decide +kernel,rfl,by decide +kernel,by decide +kernel⟩
theorem sow:FnScope ["marks","options","mark","choices"] ["marks","options"] (defScope dow):=⟨rfl,rfl,rfl,by decide +kernel,rfl,by decide +kernel,by decide +kernel⟩
theorem stw:FnScope ["goals","room","text","states","marks","options","quest","mark","values","state"] ["goals","room","text"] (defScope dtw):=⟨rfl,rfl,rfl,by decide +kernel,rfl,by decide +kernel,by decide +kernel⟩
theorem sc_worst:FnScope ["goals","room","text"] ["goals","room","text"] (defScope dw):=⟨rfl,rfl,rfl,by decide +kernel,rfl,by decide +kernel,by decide +kernel⟩
theorem sRi:FnScope ["self","text"] ["self","text"] (defScope dRi):=⟨rfl,rfl,rfl,by decide +kernel,rfl,by decide +kernel,by decide +kernel⟩
theorem sRh:FnScope ["self"] ["self"] (defScope dRh):=⟨rfl,rfl,rfl,by decide +kernel,rfl,by decide +kernel,by decide +kernel⟩
theorem sRs:FnScope ["self"] ["self"] (defScope dRs):=⟨rfl,rfl,rfl,by decide +kernel,rfl,by decide +kernel,by decide +kernel⟩
theorem sRs10:FnScope ["self"] ["self"] (defScope dRs10):=⟨rfl,rfl,rfl,by decide +kernel,rfl,by decide +kernel,by decide +kernel⟩
theorem sRa:FnScope ["self"] ["self"] (defScope dRa):=⟨rfl,rfl,rfl,by decide +kernel,rfl,by decide +kernel,by decide +kernel⟩
theorem sRp:FnScope ["self","mark"] ["self","mark"] (defScope dRp):=⟨rfl,rfl,rfl,by decide +kernel,rfl,by decide +kernel,by decide +kernel⟩
theorem sRt10:FnScope ["self","start"] ["self"] (defScope dRt10):=⟨rfl,rfl,rfl,by decide +kernel,rfl,by decide +kernel,by decide +kernel⟩
theorem sRt:FnScope ["self","start","number","byte"] ["self"] (defScope dRt):=⟨rfl,rfl,rfl,by decide +kernel,rfl,by decide +kernel,by decide +kernel⟩
theorem sCi:FnScope ["self","name","gain","ways","total"] ["self","name","gain","ways","total"] (defScope dCi):=⟨rfl,rfl,rfl,by decide +kernel,rfl,by decide +kernel,by decide +kernel⟩
theorem sSi:FnScope ["self","name","choices"] ["self","name","choices"] (defScope dSi):=⟨rfl,rfl,rfl,by decide +kernel,rfl,by decide +kernel,by decide +kernel⟩
theorem sVi:FnScope ["self","tops","bottom"] ["self","tops","bottom"] (defScope dVi):=⟨rfl,rfl,rfl,by decide +kernel,rfl,by decide +kernel,by decide +kernel⟩
theorem sVn:FnScope ["self","top"] ["self"] (defScope dVn):=⟨rfl,rfl,rfl,by decide +kernel,rfl,by decide +kernel,by decide +kernel⟩
theorem sVt:FnScope ["self","top"] ["self"] (defScope dVt):=⟨rfl,rfl,rfl,by decide +kernel,rfl,by decide +kernel,by decide +kernel⟩
theorem sc_Quest_init:FnScope ["self","options","ends"] ["self","options","ends"] (defScope dQi11):=⟨rfl,rfl,rfl,by decide +kernel,rfl,by decide +kernel,by decide +kernel⟩
theorem sQe:FnScope ["self","plan","place","row","choice","way"] ["self","plan","place"] (defScope dQe):=⟨rfl,rfl,rfl,by decide +kernel,rfl,by decide +kernel,by decide +kernel⟩
theorem sQt:FnScope ["self","choice","values","ahead","way"] ["self","choice","values"] (defScope dQt):=⟨rfl,rfl,rfl,by decide +kernel,rfl,by decide +kernel,by decide +kernel⟩
theorem sQi10:FnScope ["self","choice","other","values"] ["self","choice","other","values"] (defScope dQi):=⟨rfl,rfl,rfl,by decide +kernel,rfl,by decide +kernel,by decide +kernel⟩
theorem sQi:FnScope ["self","plan","values","better","place","choices","number","choice"] ["self","plan","values"] (defScope dQi10):=⟨rfl,rfl,rfl,by decide +kernel,rfl,by decide +kernel,by decide +kernel⟩
theorem sQg:FnScope ["self","plan","values","place","better"] ["self","plan"] (defScope dQg):=⟨rfl,rfl,rfl,by decide +kernel,rfl,by decide +kernel,by decide +kernel⟩
structure Adr where
 (f_demand:Addr) (fd_demand:FuncData)
 (f_is_digit:Addr) (fid:FuncData)
 (f_is_letter:Addr) (fil:FuncData)
 (fin11:Addr) (fin10:FuncData)
 (fad10:Addr) (fad:FuncData)
 (f_read_gain:Addr) (frg13:FuncData)
 (f_read_way:Addr) (frw:FuncData)
 (frc10:Addr) (frc:FuncData)
 (frs13:Addr) (frs11:FuncData)
 (fwt10:Addr) (fwt:FuncData)
 (frs12:Addr) (frs10:FuncData)
 (fdr10:Addr) (fdr:FuncData)
 (frg12:Addr) (frg11:FuncData)
 (frg10:Addr) (frg:FuncData)
 (f_answer:Addr) (fd_answer:FuncData)
 (fcd10:Addr) (fcd:FuncData)
 (f_digits_of:Addr) (fdo:FuncData)
 (fft:Addr) (fft10:FuncData)
 (f_tell:Addr) (fd_tell:FuncData)
 (f_cleared:Addr) (fc:FuncData)
 (f_solve:Addr) (fd_solve:FuncData)
 (fgm10:Addr) (fgm:FuncData)
 (fgt10:Addr) (fgt:FuncData)
 (fot10:Addr) (fot:FuncData)
 (fli10:Addr) (fli:FuncData)
 (fme10:Addr) (fme:FuncData)
 (fow10:Addr) (fow:FuncData)
 (ftw10:Addr) (ftw:FuncData)
 (fw:Addr) (fd_worst:FuncData)
 (fRi10:Addr) (fRi:FuncData)
 (fRh10:Addr) (fRh:FuncData)
 (fRs11:Addr) (fRs:FuncData)
 (fRs12:Addr) (fRs10:FuncData)
 (fRa10:Addr) (fRa:FuncData)
 (fRp10:Addr) (fRp:FuncData)
 (fRt12:Addr) (fRt11:FuncData)
 (fRt10:Addr) (fRt:FuncData)
 (fCi10:Addr) (fCi:FuncData)
 (fSi10:Addr) (fSi:FuncData)
 (fVi10:Addr) (fVi:FuncData)
 (fVn10:Addr) (fVn:FuncData)
 (fVt10:Addr) (fVt:FuncData)
 (fQi14:Addr) (fQi13:FuncData)
 (fQe10:Addr) (fQe:FuncData)
 (fQt10:Addr) (fQt:FuncData)
 (fQi10:Addr) (fQi:FuncData)
 (fQi12:Addr) (fQi11:FuncData)
 (fQg10:Addr) (fQg:FuncData)
 (cR cC cS cV cQ xN xO xN10 xG xN11 t_STATE_WORD:Addr)
structure Txt(K:PySem.W.Frag)(mg:Str->Option Value)(t:Adr):Prop where
 demand:Glo K mg "demand" "demand" d_demand ["holds"] t.f_demand t.fd_demand
 is_digit:Glo K mg "is_digit" "is_digit" did ["byte"] t.f_is_digit t.fid
 is_letter:Glo K mg "is_letter" "is_letter" dil ["byte"] t.f_is_letter t.fil
 is_name_byte:Glo K mg "is_name_byte" "is_name_byte" din ["byte"] t.fin11 t.fin10
 all_differ:Glo K mg "all_differ" "all_differ" dad ["names"] t.fad10 t.fad
 read_gain:Glo K mg "read_gain" "read_gain" drg11 ["reader"] t.f_read_gain t.frg13
 read_way:Glo K mg "read_way" "read_way" drw ["reader"] t.f_read_way t.frw
 read_choice:Glo K mg "read_choice" "read_choice" drc ["reader"] t.frc10 t.frc
 read_state:Glo K mg "read_state" "read_state" drs10 ["reader"] t.frs13 t.frs11
 ways_to_places:Glo K mg "ways_to_places" "ways_to_places" dwt ["ways","names"] t.fwt10 t.fwt
 read_states:Glo K mg "read_states" "read_states" drs ["text"] t.frs12 t.frs10
 demand_range:Glo K mg "demand_range" "demand_range" ddr ["number","least","greatest"] t.fdr10 t.fdr
 read_given:Glo K mg "read_given" "read_given" drg10 ["text","room"] t.frg12 t.frg11
 read_given_goals:Glo K mg "read_given_goals" "read_given_goals" drg ["text","room","goals"] t.frg10 t.frg
 answer:Glo K mg "answer" "answer" da ["work"] t.f_answer t.fd_answer
 common_divisor:Glo K mg "common_divisor" "common_divisor" dcd ["number","other"] t.fcd10 t.fcd
 digits_of:Glo K mg "digits_of" "digits_of" ddo ["number"] t.f_digits_of t.fdo
 fraction_told:Glo K mg "fraction_told" "fraction_told" dft ["top","bottom"] t.fft t.fft10
 tell:Glo K mg "tell" "tell" d_tell ["states","words","room"] t.f_tell t.fd_tell
 cleared:Glo K mg "cleared" "cleared" dc10 ["row","pivot_row","turn","pivot_before"] t.f_cleared t.fc
 solve:Glo K mg "solve" "solve" d_solve ["rows"] t.f_solve t.fd_solve
 goal_marks:Glo K mg "goal_marks" "goal_marks" dgm ["goals","states"] t.fgm10 t.fgm
 gains_taken:Glo K mg "gains_taken" "gains_taken" dgt ["choices","times"] t.fgt10 t.fgt
 options_till:Glo K mg "options_till" "options_till" dot10 ["marks","states","times"] t.fot10 t.fot
 leads_into:Glo K mg "leads_into" "leads_into" dli ["choice","marks"] t.fli10 t.fli
 marks_ending:Glo K mg "marks_ending" "marks_ending" dme ["options"] t.fme10 t.fme
 options_where:Glo K mg "options_where" "options_where" dow ["marks","options"] t.fow10 t.fow
 tell_worst:Glo K mg "tell_worst" "tell_worst" dtw ["goals","room","text"] t.ftw10 t.ftw
 worst:Glo K mg "worst" "worst" dw ["goals","room","text"] t.fw t.fd_worst
 Reader_init:Met K "__init__" "Reader.__init__" dRi ["self","text"] t.cR t.fRi10 t.fRi
 Reader_here:Met K "here" "Reader.here" dRh ["self"] t.cR t.fRh10 t.fRh
 Reader_skip_remark:Met K "skip_remark" "Reader.skip_remark" dRs ["self"] t.cR t.fRs11 t.fRs
 Reader_skip_blanks:Met K "skip_blanks" "Reader.skip_blanks" dRs10 ["self"] t.cR t.fRs12 t.fRs10
 Reader_at_end:Met K "at_end" "Reader.at_end" dRa ["self"] t.cR t.fRa10 t.fRa
 Reader_passes:Met K "passes" "Reader.passes" dRp ["self","mark"] t.cR t.fRp10 t.fRp
 Reader_take_name:Met K "take_name" "Reader.take_name" dRt10 ["self"] t.cR t.fRt12 t.fRt11
 Reader_take_number:Met K "take_number" "Reader.take_number" dRt ["self"] t.cR t.fRt10 t.fRt
 Choice_init:Met K "__init__" "Choice.__init__" dCi ["self","name","gain","ways","total"] t.cC t.fCi10 t.fCi
 State_init:Met K "__init__" "State.__init__" dSi ["self","name","choices"] t.cS t.fSi10 t.fSi
 Values_init:Met K "__init__" "Values.__init__" dVi ["self","tops","bottom"] t.cV t.fVi10 t.fVi
 Values_negative:Met K "negative" "Values.negative" dVn ["self"] t.cV t.fVn10 t.fVn
 Values_told:Met K "told" "Values.told" dVt ["self"] t.cV t.fVt10 t.fVt
 Quest_init:Met K "__init__" "Quest.__init__" dQi11 ["self","options","ends"] t.cQ t.fQi14 t.fQi13
 Quest_equation:Met K "equation" "Quest.equation" dQe ["self","plan","place"] t.cQ t.fQe10 t.fQe
 Quest_top_by:Met K "top_by" "Quest.top_by" dQt ["self","choice","values"] t.cQ t.fQt10 t.fQt
 Quest_is_better:Met K "is_better" "Quest.is_better" dQi ["self","choice","other","values"] t.cQ t.fQi10 t.fQi
 Quest_improved:Met K "improved" "Quest.improved" dQi10 ["self","plan","values"] t.cQ t.fQi12 t.fQi11
 Quest_greatest:Met K "greatest" "Quest.greatest" dQg ["self","plan"] t.cQ t.fQg10 t.fQg
 kR:Cla K mg "Reader" t.cR
 nRt:NoAttr K t.cR "text"
 nRp:NoAttr K t.cR "place"
 kC:Cla K mg "Choice" t.cC
 nCn:NoAttr K t.cC "name"
 nCg:NoAttr K t.cC "gain"
 nCw:NoAttr K t.cC "ways"
 nCt:NoAttr K t.cC "total"
 kS:Cla K mg "State" t.cS
 nSn:NoAttr K t.cS "name"
 nSc:NoAttr K t.cS "choices"
 kV10:Cla K mg "Values" t.cV
 nVt:NoAttr K t.cV "tops"
 nVb:NoAttr K t.cV "bottom"
 kQ:Cla K mg "Quest" t.cQ
 nQo:NoAttr K t.cQ "options"
 nQe:NoAttr K t.cQ "ends"
 e_NoSuchText:Exc K mg "NoSuchText" t.xN
 e_OutOfRange:Exc K mg "OutOfRange" t.xO
 e_NoSuchGoal:Exc K mg "NoSuchGoal" t.xN10
 e_GainTooLow:Exc K mg "GainTooLow" t.xG
 e_NoRoom:Exc K mg "NoRoom" t.xN11
 gLN:GlV mg "LONGEST_NAME" (.int (16))
 gMD:GlV mg "MOST_DIGITS" (.int (7))
 gGN:GlV mg "GREATEST_NUMBER" (.int (1000000))
 gGG10:GlV mg "GREATEST_GAIN" (.int (1000))
 gGW:GlV mg "GREATEST_WEIGHT" (.int (1000))
 gMS:GlV mg "MOST_STATES" (.int (16))
 gMC:GlV mg "MOST_CHOICES" (.int (8))
 gLE:GlV mg "LINE_END" (.int (10))
 g_BLANK:GlV mg "BLANK" (.int (32))
 g_HASH:GlV mg "HASH" (.int (35))
 g_COMMA:GlV mg "COMMA" (.int (44))
 g_MINUS:GlV mg "MINUS" (.int (45))
 g_SLASH:GlV mg "SLASH" (.int (47))
 g_ZERO:GlV mg "ZERO" (.int (48))
 g_COLON:GlV mg "COLON" (.int (58))
 g_SEMICOLON:GlV mg "SEMICOLON" (.int (59))
 g_UNDERSCORE:GlV mg "UNDERSCORE" (.int (95))
 g_LEFT_BRACE:GlV mg "LEFT_BRACE" (.int (123))
 gRB:GlV mg "RIGHT_BRACE" (.int (125))
 gTE:GlV mg "TEXT_END" (.int (256))
 g_STATE_WORD:mg "STATE_WORD" = some (.ref t.t_STATE_WORD)
 v_STATE_WORD:∀H,SqT K H t.t_STATE_WORD (([115,116,97,116,101]:List Int).map V.int)
 gLT:GlV mg "LONGEST_TEXT" (.int (65536))
 gGR:GlV mg "GREATEST_ROOM" (.int (65536))
 gGG:GlV mg "GREATEST_GOALS" (.int (65535))
 gOO:GlV mg "OUT_OF_RANGE" (.int (-1))
 g_NO_SUCH_TEXT:GlV mg "NO_SUCH_TEXT" (.int (-2))
 gNS:GlV mg "NO_SUCH_GOAL" (.int (-3))
 gGT:GlV mg "GAIN_TOO_LOW" (.int (-4))
 g_NO_ROOM:GlV mg "NO_ROOM" (.int (-7))
 b_len:mg "len" = none
 b_range:mg "range" = none
 be:mg "enumerate" = none
 b_zip:mg "zip" = none
 b_sum:mg "sum" = none
 b_abs:mg "abs" = none
 b_list:mg "list" = none
 b_tuple:mg "tuple" = none
 b_set:mg "set" = none
 b_any:mg "any" = none
 b_all:mg "all" = none
 b_reversed:mg "reversed" = none
 s_NoSuchText_OutOfRange:NotSub K t.xN t.xO
 s_NoSuchText_NoSuchGoal:NotSub K t.xN t.xN10
 s_NoSuchText_GainTooLow:NotSub K t.xN t.xG
 s_NoSuchText_NoRoom:NotSub K t.xN t.xN11
 s_OutOfRange_NoSuchText:NotSub K t.xO t.xN
 s_OutOfRange_NoSuchGoal:NotSub K t.xO t.xN10
 s_OutOfRange_GainTooLow:NotSub K t.xO t.xG
 s_OutOfRange_NoRoom:NotSub K t.xO t.xN11
 s_NoSuchGoal_NoSuchText:NotSub K t.xN10 t.xN
 s_NoSuchGoal_OutOfRange:NotSub K t.xN10 t.xO
 s_NoSuchGoal_GainTooLow:NotSub K t.xN10 t.xG
 s_NoSuchGoal_NoRoom:NotSub K t.xN10 t.xN11
 s_GainTooLow_NoSuchText:NotSub K t.xG t.xN
 s_GainTooLow_OutOfRange:NotSub K t.xG t.xO
 s_GainTooLow_NoSuchGoal:NotSub K t.xG t.xN10
 s_GainTooLow_NoRoom:NotSub K t.xG t.xN11
 s_NoRoom_NoSuchText:NotSub K t.xN11 t.xN
 s_NoRoom_OutOfRange:NotSub K t.xN11 t.xO
 s_NoRoom_NoSuchGoal:NotSub K t.xN11 t.xN10
 s_NoRoom_GainTooLow:NotSub K t.xN11 t.xG
end Ck
end
noncomputable section
namespace Ck
open PySem PySem.Spec PyProof.Rows L2
section
variable{P:Program}{w:World}{K:PySem.W.Frag}{mg:Str->Option Value}{base:Heap}{t:Adr}
abbrev Ok(P:Program)(w:World)(K:PySem.W.Frag)(mg:Str->Option Value)(base:Heap)(k:Nat)(f:Addr)(fd:FuncData)(ps:List Str)(sp:Sp):Prop:=FnOk P w K mg base (CX1 P w) k f fd ps sp
theorem own_no(T:Txt K mg t)(kb:K.In base):OwnCls "NoSuchText" t.xN [.type "Exception",.type "BaseException",.type "object"] "Exception.__new__" mg base:=oo kb T.e_NoSuchText.mg T.e_NoSuchText.ex
theorem bl11:bootBuiltins "len" = some (.builtin "len"):=by decide +kernel
theorem bt_set:bootBuiltins "set" = some (.type "set"):=by decide +kernel
theorem bt_tuple:bootBuiltins "tuple" = some (.type "tuple"):=by decide +kernel
theorem bt_list:bootBuiltins "list" = some (.type "list"):=by decide +kernel
theorem bt_sum:bootBuiltins "sum" = some (.builtin "sum"):=by decide +kernel
theorem bt_any:bootBuiltins "any" = some (.builtin "any"):=by decide +kernel
theorem bt_all:bootBuiltins "all" = some (.builtin "all"):=by decide +kernel
theorem brT{b:Bool}{A B:Prop}(e:b=true)(h:A):if b=true then A else B:=by rw[if_pos e];exact h
theorem brF{b:Bool}{A B:Prop}(e:b=false)(h:B):if b=true then A else B:=by rw[e];exact iteF h
def sd10(t:Adr):Sp:=fun vs H Q E=>∃c:Bool,vs=[.bl c]/\if c=true then Q .non H else E (.ref t.xN) none H
theorem od10(T:Txt K mg t)(kb:K.In base):Ok P w K mg base 1 t.f_demand t.fd_demand ["holds"] (sd10 t):=by
 refine T.demand.fn.okX sc_demand (fun vs H Q E h=>?_) fun cdv A outer s H vs Q E hr h=>?_
 ·obtain⟨c,rfl,_⟩:=h;rfl
 ·obtain⟨c,rfl,h⟩:=h
  refine⟨_,po10 (ps_if (pt_not (pv10 (pv 0))) (po10 (pr13 xo rfl (own_no T kb) PySem.F.excBase_Exception)) pn13),?_⟩
  refine⟨_,rfl,c,rfl,?_⟩
  cases c with
  |true=>exact iteF h
  |false=>exact iteT h
def sp_byte(f:Nat->Bool):Sp:=fun vs H Q _=>∃c:Nat,vs=[.int c]/\Q (.bl (f c)) H
theorem ln10(a b:Nat):decide ((a:Int)<=(b:Int))=decide (a<=b):=by
 rw[Bool.eq_iff_iff,decide_eq_true_eq,decide_eq_true_eq];omega
theorem ch{a x b:Int}{H:Hp}{Q:VK}(h:Q (.bl (decide (a<=x)&&decide (x<=b))) H) :
  ∃k,V.bl (decide (a<=x))=.bl k/\(if k=true then (∃i j,V.int x=.int i/\V.int b=.int j/\Q (.bl (decide (i<=j))) H) else Q (.bl false) H):=by
 refine⟨_,rfl,?_⟩
 by_cases q:a<=x
 ·rw[decide_eq_true q] at h ⊢
  exact iteT ⟨_,_,rfl,rfl,h⟩
 ·rw[decide_eq_false q] at h ⊢
  exact iteF h
theorem ch3{a x b:Int}{i:Nat}{σ:L2.St}{H:Hp}{Q:VK}(hv:σ[i]? = some (some (.int x)))(h:Q (.bl (decide (a<=x)&&decide (x<=b))) H) :
  tChain (rI0 fun i j=>.bl (decide (i<=j))) (rI0 fun i j=>.bl (decide (i<=j))) (tC (.int a)) (tVar i) (tC (.int b)) σ H Q:=⟨_,hv,_,_,rfl,rfl,ch h⟩
theorem oid(T:Txt K mg t):Ok P w K mg base 1 t.f_is_digit t.fid ["byte"] (sp_byte Ra61.isDigit):=by
 refine T.is_digit.fn.okX sc_is_digit (fun vs H Q E h=>?_) fun cdv A outer s H vs Q E hr h=>?_
 ·obtain⟨c,rfl,_⟩:=h;rfl
 ·obtain⟨c,rfl,h⟩:=h
  refine⟨_,po10 (pr10 (pc15 ol10 ol10 pi (pv 0) pi)),?_⟩
  refine ch3 (x:=c) rfl ?_
  show Q (.bl (decide ((48:Int)<=c)&&decide ((c:Int)<=57))) H
  have e:(decide ((48:Int)<=c)&&decide ((c:Int)<=57))=Ra61.isDigit c:=by
   unfold Ra61.isDigit
   rw[show decide ((48:Int)<=c)=decide (48<=c) from ln10 48 c,show decide ((c:Int)<=57)=decide (c<=57) from ln10 c 57]
  rw[e];exact h
theorem oil(T:Txt K mg t):Ok P w K mg base 1 t.f_is_letter t.fil ["byte"] (sp_byte Ra61.isLetter):=by
 refine T.is_letter.fn.okX sc_is_letter (fun vs H Q E h=>?_) fun cdv A outer s H vs Q E hr h=>?_
 ·obtain⟨c,rfl,_⟩:=h;rfl
 ·obtain⟨c,rfl,h⟩:=h
  refine⟨_,po10 (pr10 (pe_or (pc15 ol10 ol10 pi (pv 0) pi) (pe_one (pc15 ol10 ol10 pi (pv 0) pi)))),?_⟩
  refine ch3 (x:=c) rfl ?_
  refine⟨_,rfl,?_⟩
  have e1:(decide ((65:Int)<=c)&&decide ((c:Int)<=90))=(decide (65<=c)&&decide (c<=90)):=by
   rw[show decide ((65:Int)<=c)=decide (65<=c) from ln10 65 c,show decide ((c:Int)<=90)=decide (c<=90) from ln10 c 90]
  have e2:(decide ((97:Int)<=c)&&decide ((c:Int)<=122))=(decide (97<=c)&&decide (c<=122)):=by
   rw[show decide ((97:Int)<=c)=decide (97<=c) from ln10 97 c,show decide ((c:Int)<=122)=decide (c<=122) from ln10 c 122]
  have e3:Ra61.isLetter c=((decide (65<=c)&&decide (c<=90))||(decide (97<=c)&&decide (c<=122))):=by unfold Ra61.isLetter;rw[Bool.or_comm]
  rw[e3] at h
  show if (decide ((65:Int)<=c)&&decide ((c:Int)<=90))=true then _ else _
  rw[e1]
  cases q:(decide (65<=c)&&decide (c<=90)) with
  |true=>rw[q,Bool.true_or] at h;exact iteT h
  |false=>
   rw[q,Bool.false_or] at h
   refine iteF (ch3 (x:=c) rfl ?_)
   show Q (.bl (decide ((97:Int)<=c)&&decide ((c:Int)<=122))) H
   rw[e2];exact h
theorem oin(T:Txt K mg t):Ok P w K mg base 2 t.fin11 t.fin10 ["byte"] (sp_byte Ra61.isWord):=by
 refine T.is_name_byte.fn.okX sin (fun vs H Q E h=>?_) fun cdv A outer s H vs Q E hr h=>?_
 ·obtain⟨c,rfl,_⟩:=h;rfl
 ·obtain⟨c,rfl,h⟩:=h
  refine⟨_,po10 (pr10 (pe_or (pf10 T.is_letter (oil T) hr rfl pass1 (pc (pv 0) pn10)) (pe_or (pf10 T.is_digit (oid T) hr rfl pass1 (pc (pv 0) pn10)) (pe_one (pc14 op_eq (pv 0) (pg10 T.g_UNDERSCORE rfl) (nomark _)))))),?_⟩
  unfold Ra61.isWord at h
  refine⟨_,rfl,c,rfl,_,rfl,?_⟩
  cases q:Ra61.isLetter c with
  |true=>rw[q,Bool.true_or] at h;exact iteT h
  |false=>
   rw[q,Bool.false_or] at h
   refine iteF ⟨_,rfl,c,rfl,_,rfl,?_⟩
   cases q:Ra61.isDigit c with
   |true=>rw[q,Bool.true_or] at h;exact iteT h
   |false=>
    rw[q,Bool.false_or] at h
    refine iteF ⟨_,rfl,rfl,?_⟩
    have e:decide (V.int (c:Int)=V.int 95)=(c==95):=by
     rw[di,Bool.eq_iff_iff,beq_iff_eq,beq_iff_eq];omega
    show Q (.bl (decide (V.int (c:Int)=V.int 95))) H
    rw[e];exact h
theorem dd_nodup(kl:List (List Int)):decide (((St.dd (kl.map ky)).length:Int)=kl.length)=decide kl.Nodup:=by
 rw[Bool.eq_iff_iff,decide_eq_true_eq,decide_eq_true_eq]
 have h:=(St.dd_len (kl.map ky)).2
 rw[List.length_map] at h
 have h2:(kl.map ky).Nodup↔kl.Nodup:=by
  rw[List.Nodup,List.pairwise_map]
  exact⟨fun z=>List.Pairwise.imp (fun h1 h2=>h1 (by rw[h2])) z,fun z=>List.Pairwise.imp (fun h1 h2=>h1 (ky_inj h2)) z⟩
 rw[h2] at h
 rw[<-h]
 omega
def sp_all_differ(K:PySem.W.Frag):Sp:=fun vs H Q _=>∃(l:Addr) (as:List Addr) (kl:List (List Int)),vs=[.ref l]/\SqL K H l (as.map V.ref)/\Tups K H as kl/\kl.length<=32768/\∀H',Same H H'->Q (.bl (decide kl.Nodup)) H'
theorem su{H:Hp}{p:Addr}{o:HO}(h:H p=none):Same H (upd H p o):=fun b u e=>by rw[un10 (non10 e h)];exact e
theorem oad(T:Txt K mg t):Ok P w K mg base 1 t.fad10 t.fad ["names"] (sp_all_differ K):=by
 refine T.all_differ.fn.okX sad (fun vs H Q E h=>?_) fun cdv A outer s H vs Q E hr h=>?_
 ·obtain⟨l,as,kl,rfl,_⟩:=h;rfl
 ·obtain⟨l,as,kl,rfl,hl,hT,hn,h⟩:=h
  refine⟨_,po10 (pr10 (pc14 op_eq (pc12 call_lenSet (by rfl) T.b_len bl11 (pc (pc16 (call_setT rfl hr.units) (by rfl) T.b_set bt_set (pc (pv 0) pn10)) pn10))
   (pc12 cls10 (by rfl) T.b_len bl11 (pc (pv 0) pn10)) (nomark _))),?_⟩
  refine⟨_,rfl,l,as,kl,rfl,hl,hT,hn,fun p hp=>?_⟩
  have sm:=su (o:=.ext (SetN p (St.dd (kl.map ky)).length)) hp
  refine⟨p,_,rfl,us10,_,rfl,l,_,rfl,.inl (sm.seq hl),rfl,?_⟩
  have e:decide (V.int ((St.dd (kl.map ky)).length:Int)=V.int ((as.map V.ref).length:Int))=decide kl.Nodup:=by
   rw[<-dd_nodup,di,List.length_map,hT.len,Bool.eq_iff_iff,beq_iff_eq,decide_eq_true_eq]
  show Q (.bl (decide (V.int ((St.dd (kl.map ky)).length:Int)=V.int ((as.map V.ref).length:Int)))) _
  rw[e]
  exact h _ sm
end
end Ck
end
noncomputable section
namespace Ck
open PySem PySem.W L2 PySem.Calls PyProof.Rows
abbrev pg:=PySem.Challenge.pw_chancechoices_s03_worst
def pv:Program:=view pg [0,2,3,4,5,6,7,8,9,10,11,12,13,14,15,16,17,18,19,20,21,22,23,24,25,26,27,28,29,30,31,32,33,34,35,36,37,39,40,41,42,43,44,45,46,47,48,49,50,51,52,53,54,55,56,57,58,59,60,61,62,63,64,65,66,67,68,69,70]
def p0:Pos:=⟨0,0,0,0⟩
def ev:Env:={ scope:=pg.main.scope,locals:=mainNs,globals:=mainNs,cells:=[],code:=.ref 13,frame:=some 14 }
def bs0:List Stmt:=behindTheImports pg
def tr0(P:Params):BT:=
 (.node (boot_o_0 P) (.node (boot_o_1 P) (.node (boot_o_3 P) (.node (boot_o_7 P) .nil .nil) (.node (.mk (.type "tuple") none (.seq #[] 0) #[]) .nil .nil)) (.node (boot_o_5 P) (.node (boot_o_9 P) .nil .nil) (.node (.mk (.type "code") none (.fields #[(.str "<module>" 182),(.str "<module>" 183),(.str "/claim/cut.py" 184),(.int 1 0),(.int 0 0),(.int 0 0),(.int 0 0),(.int 0 0),(.ref 11),(.bool false),(.int 181 0),(.ref 12),.none,.none,.none,.none,(.int 185 0),(.int 1 0),(.str "/claim/cut.py" 186)]) #[]) .nil .nil))) (.node (boot_o_2 P) (.node (boot_o_4 P) (.node (boot_o_8 P) .nil .nil) (.node (.mk .none none (.fields #[]) #[]) .nil .nil)) (.node (boot_o_6 P) (.node (boot_o_10 P) .nil .nil) (.node (.mk (.type "frame") none .plain #[(some (.ref 13)),(some (.ref 3)),(some (.ref 3)),none,(some (.str "__main__" 164)),none,(some (.ref 0))]) .nil .nil))))
def st0(P:Params)(os:OsState):SharedT:=⟨tr0 P,15,(.mk [] [] [] 0 [] [] false #[] [] 0 false false false 0 [2000,10,10] false 0 true [] [] 0 false),#[],.mk 0 0 0 0,187,os⟩
abbrev ff(n q:Str)(d:Stmt)(m:Str)(t c:Nat):FuncData:=fnOf n q (defArgs d) (defBody d) (defScope d) .none .none .none (.str m t) none (.ref c) .none
abbrev fo(n q:Str)(d:Stmt)(m:Str)(t c:Nat):Obj:=⟨.type "function",none,.func (ff n q d m t c),#[]⟩
def co(n q:Str)(t l c f a k j:Nat):Obj:=⟨.type "code",none,.fields #[.str n t,.str q (t+1),.str "/claim/cut.py" (t+2),.int l 0,.int c 0,.int 0 0,.int 0 0,.int f 0,.ref a,.bool true,.int 181 0,.ref (a+1),.none,.ref (a+2),.ref (a+3),.ref (a+4),.int k 0,.int l 0,.str "/claim/cut.py" j],#[]⟩
def cn(n q:Str)(t l c f a k j:Nat):Obj:=⟨.type "code",none,.fields #[.str n t,.str q (t+1),.str "/claim/cut.py" (t+2),.int l 0,.int c 0,.int 0 0,.int 0 0,.int f 0,.ref a,.bool true,.int 181 0,.ref (a+1),.none,.none,.none,.ref (a+2),.int k 0,.int l 0,.str "/claim/cut.py" j],#[]⟩
def de(P:Params)(k:Str)(t:Nat)(v:Value):DictEntry:=⟨PyData.keyHash P k,.str k t,v⟩
def Kt(P:Params):Frag:=
 (nat_lit 3,(.mk (.type "dict") none (.dict #[(de P "__name__" 165 (.str "chancechoices.chances" 489)),(de P "__doc__" 166 .none),(de P "__package__" 167 .none),(de P "__loader__" 168 (.builtin "__main__.__loader__#opaque")),(de P "__spec__" 169 .none),(de P "__annotations__" 170 (.ref 6)),(de P "__builtins__" 171 (.ref 4)),(de P "__file__" 173 (.str "/claim/cut.py" 172)),(de P "__cached__" 174 .none),(de P "_wall" 193 (.ref 21)),(de P "LONGEST_NAME" 197 (.int 16 196)),(de P "MOST_DIGITS" 199 (.int 7 198)),(de P "GREATEST_NUMBER" 201 (.int 1000000 200)),(de P "GREATEST_GAIN" 203 (.int 1000 202)),(de P "GREATEST_WEIGHT" 205 (.int 1000 204)),(de P "MOST_STATES" 207 (.int 16 206)),(de P "MOST_CHOICES" 209 (.int 8 208)),(de P "LINE_END" 211 (.int 10 210)),(de P "BLANK" 213 (.int 32 212)),(de P "HASH" 215 (.int 35 214)),(de P "COMMA" 217 (.int 44 216)),(de P "MINUS" 219 (.int 45 218)),(de P "SLASH" 221 (.int 47 220)),(de P "ZERO" 223 (.int 48 222)),(de P "COLON" 225 (.int 58 224)),(de P "SEMICOLON" 227 (.int 59 226)),(de P "UNDERSCORE" 229 (.int 95 228)),(de P "LEFT_BRACE" 231 (.int 123 230)),(de P "RIGHT_BRACE" 233 (.int 125 232)),(de P "TEXT_END" 235 (.int 256 234)),(de P "STATE_WORD" 241 (.ref 22)),(de P "NoSuchText" 261 (.ref 32)),(de P "demand" 268 (.ref 42)),(de P "is_digit" 275 (.ref 49)),(de P "is_letter" 282 (.ref 56)),(de P "is_name_byte" 289 (.ref 63)),(de P "all_differ" 296 (.ref 70)),(de P "Reader" 380 (.ref 136)),(de P "read_gain" 389 (.ref 147)),(de P "read_way" 398 (.ref 154)),(de P "Choice" 433 (.ref 171)),(de P "read_choice" 439 (.ref 180)),(de P "State" 470 (.ref 197)),(de P "read_state" 476 (.ref 206)),(de P "ways_to_places" 482 (.ref 211)),(de P "read_states" 488 (.ref 216)),(de P "LONGEST_TEXT" 492 (.int 65536 491)),(de P "GREATEST_ROOM" 494 (.int 65536 493)),(de P "GREATEST_GOALS" 496 (.int 65535 495)),(de P "OUT_OF_RANGE" 499 (.int (-1) 498)),(de P "NO_SUCH_TEXT" 502 (.int (-2) 501)),(de P "NO_SUCH_GOAL" 505 (.int (-3) 504)),(de P "GAIN_TOO_LOW" 508 (.int (-4) 507)),(de P "NO_ROOM" 511 (.int (-7) 510)),(de P "OutOfRange" 531 (.ref 226)),(de P "NoSuchGoal" 551 (.ref 239)),(de P "GainTooLow" 571 (.ref 252)),(de P "NoRoom" 591 (.ref 265)),(de P "demand_range" 600 (.ref 275)),(de P "read_given" 608 (.ref 282)),(de P "read_given_goals" 618 (.ref 289)),(de P "answer" 625 (.ref 296)),(de P "common_divisor" 634 (.ref 303)),(de P "digits_of" 642 (.ref 310)),(de P "fraction_told" 652 (.ref 317)),(de P "tell" 664 (.ref 324)),(de P "Values" 707 (.ref 351)),(de P "cleared" 713 (.ref 360)),(de P "solve" 719 (.ref 365)),(de P "Quest" 815 (.ref 427)),(de P "goal_marks" 821 (.ref 436)),(de P "gains_taken" 827 (.ref 441)),(de P "options_till" 833 (.ref 446)),(de P "leads_into" 839 (.ref 451)),(de P "marks_ending" 845 (.ref 456)),(de P "options_where" 851 (.ref 461)),(de P "tell_worst" 857 (.ref 466)),(de P "worst" 869 (.ref 473))] 78) #[])) ::
 (nat_lit 22,(.mk (.type "tuple") none (.seq #[(.int 115 236),(.int 116 237),(.int 97 238),(.int 116 239),(.int 101 240)] 0) #[])) ::
 (nat_lit 31,(.mk (.type "dict") none (.dict #[(de P "__module__" 249 (.str "chancechoices.texts" 194)),(de P "__firstlineno__" 253 (.int 26 252)),(de P "__static_attributes__" 254 (.ref 30)),(de P "__weakref__" 256 (.ref 33)),(de P "__doc__" 257 .none)] 3) #[])) ::
 (nat_lit 32,(.mk (.type "type") none (.cls (ClassData.mk "NoSuchText" [(.type "Exception")] [(.ref 32),(.type "Exception"),(.type "BaseException"),(.type "object")] 31 "NoSuchText" true [] [] false none false)) #[(some (.ref 23)),none,(some (.str "NoSuchText" 242)),(some (.str "NoSuchText" 250)),(some (.builtin "Exception.__new__")),(some (.bool true))])) ::
 (nat_lit 41,co "demand" "demand" 262 28 1 3 36 266 267) ::
 (nat_lit 42,fo "demand" "demand" d_demand "chancechoices.texts" 194 41) ::
 (nat_lit 48,co "is_digit" "is_digit" 269 31 1 3 43 273 274) ::
 (nat_lit 49,fo "is_digit" "is_digit" did "chancechoices.texts" 194 48) ::
 (nat_lit 55,co "is_letter" "is_letter" 276 33 1 3 50 280 281) ::
 (nat_lit 56,fo "is_letter" "is_letter" dil "chancechoices.texts" 194 55) ::
 (nat_lit 62,co "is_name_byte" "is_name_byte" 283 35 1 3 57 287 288) ::
 (nat_lit 63,fo "is_name_byte" "is_name_byte" din "chancechoices.texts" 194 62) ::
 (nat_lit 69,co "all_differ" "all_differ" 290 37 1 3 64 294 295) ::
 (nat_lit 70,fo "all_differ" "all_differ" dad "chancechoices.texts" 194 69) ::
 (nat_lit 83,co "__init__" "Reader.__init__" 309 41 2 3 78 314 315) ::
 (nat_lit 84,fo "__init__" "Reader.__init__" dRi "chancechoices.texts" 194 83) ::
 (nat_lit 90,co "here" "Reader.here" 317 45 1 3 85 321 322) ::
 (nat_lit 91,fo "here" "Reader.here" dRh "chancechoices.texts" 194 90) ::
 (nat_lit 97,co "skip_remark" "Reader.skip_remark" 324 50 1 3 92 328 329) ::
 (nat_lit 98,fo "skip_remark" "Reader.skip_remark" dRs "chancechoices.texts" 194 97) ::
 (nat_lit 104,co "skip_blanks" "Reader.skip_blanks" 331 54 1 3 99 335 336) ::
 (nat_lit 105,fo "skip_blanks" "Reader.skip_blanks" dRs10 "chancechoices.texts" 194 104) ::
 (nat_lit 111,co "at_end" "Reader.at_end" 338 61 1 3 106 342 343) ::
 (nat_lit 112,fo "at_end" "Reader.at_end" dRa "chancechoices.texts" 194 111) ::
 (nat_lit 118,co "passes" "Reader.passes" 345 65 2 3 113 350 351) ::
 (nat_lit 119,fo "passes" "Reader.passes" dRp "chancechoices.texts" 194 118) ::
 (nat_lit 125,co "take_name" "Reader.take_name" 353 72 1 3 120 358 359) ::
 (nat_lit 126,fo "take_name" "Reader.take_name" dRt10 "chancechoices.texts" 194 125) ::
 (nat_lit 132,co "take_number" "Reader.take_number" 361 81 1 3 127 368 369) ::
 (nat_lit 133,fo "take_number" "Reader.take_number" dRt "chancechoices.texts" 194 132) ::
 (nat_lit 135,(.mk (.type "dict") none (.dict #[(de P "__module__" 304 (.str "chancechoices.texts" 194)),(de P "__firstlineno__" 308 (.int 39 307)),(de P "__init__" 316 (.ref 84)),(de P "here" 323 (.ref 91)),(de P "skip_remark" 330 (.ref 98)),(de P "skip_blanks" 337 (.ref 105)),(de P "at_end" 344 (.ref 112)),(de P "passes" 352 (.ref 119)),(de P "take_name" 360 (.ref 126)),(de P "take_number" 370 (.ref 133)),(de P "__static_attributes__" 373 (.ref 134)),(de P "__dict__" 375 (.ref 137)),(de P "__weakref__" 377 (.ref 138)),(de P "__doc__" 378 .none)] 4) #[])) ::
 (nat_lit 136,(.mk (.type "type") none (.cls (ClassData.mk "Reader" [(.type "object")] [(.ref 136),(.type "object")] 135 "Reader" true [] [] false none false)) #[none,none,(some (.str "Reader" 297)),(some (.str "Reader" 305)),(some (.builtin "object.__new__")),(some (.bool true))])) ::
 (nat_lit 146,co "read_gain" "read_gain" 381 92 1 3 141 387 388) ::
 (nat_lit 147,fo "read_gain" "read_gain" drg11 "chancechoices.texts" 194 146) ::
 (nat_lit 153,co "read_way" "read_way" 390 97 1 3 148 396 397) ::
 (nat_lit 154,fo "read_way" "read_way" drw "chancechoices.texts" 194 153) ::
 (nat_lit 167,co "__init__" "Choice.__init__" 411 106 5 3 162 419 420) ::
 (nat_lit 168,fo "__init__" "Choice.__init__" dCi "chancechoices.texts" 194 167) ::
 (nat_lit 170,(.mk (.type "dict") none (.dict #[(de P "__module__" 406 (.str "chancechoices.texts" 194)),(de P "__firstlineno__" 410 (.int 104 409)),(de P "__init__" 421 (.ref 168)),(de P "__static_attributes__" 426 (.ref 169)),(de P "__dict__" 428 (.ref 172)),(de P "__weakref__" 430 (.ref 173)),(de P "__doc__" 431 .none)] 4) #[])) ::
 (nat_lit 171,(.mk (.type "type") none (.cls (ClassData.mk "Choice" [(.type "object")] [(.ref 171),(.type "object")] 170 "Choice" true [] [] false none false)) #[none,none,(some (.str "Choice" 399)),(some (.str "Choice" 407)),(some (.builtin "object.__new__")),(some (.bool true))])) ::
 (nat_lit 179,cn "read_choice" "read_choice" 434 111 1 3 176 437 438) ::
 (nat_lit 180,fo "read_choice" "read_choice" drc "chancechoices.texts" 194 179) ::
 (nat_lit 193,co "__init__" "State.__init__" 452 123 3 3 188 458 459) ::
 (nat_lit 194,fo "__init__" "State.__init__" dSi "chancechoices.texts" 194 193) ::
 (nat_lit 196,(.mk (.type "dict") none (.dict #[(de P "__module__" 447 (.str "chancechoices.texts" 194)),(de P "__firstlineno__" 451 (.int 121 450)),(de P "__init__" 460 (.ref 194)),(de P "__static_attributes__" 463 (.ref 195)),(de P "__dict__" 465 (.ref 198)),(de P "__weakref__" 467 (.ref 199)),(de P "__doc__" 468 .none)] 4) #[])) ::
 (nat_lit 197,(.mk (.type "type") none (.cls (ClassData.mk "State" [(.type "object")] [(.ref 197),(.type "object")] 196 "State" true [] [] false none false)) #[none,none,(some (.str "State" 440)),(some (.str "State" 448)),(some (.builtin "object.__new__")),(some (.bool true))])) ::
 (nat_lit 205,cn "read_state" "read_state" 471 126 1 3 202 474 475) ::
 (nat_lit 206,fo "read_state" "read_state" drs10 "chancechoices.texts" 194 205) ::
 (nat_lit 210,cn "ways_to_places" "ways_to_places" 477 136 2 3 207 480 481) ::
 (nat_lit 211,fo "ways_to_places" "ways_to_places" dwt "chancechoices.texts" 194 210) ::
 (nat_lit 215,cn "read_states" "read_states" 483 139 1 3 212 486 487) ::
 (nat_lit 216,fo "read_states" "read_states" drs "chancechoices.texts" 194 215) ::
 (nat_lit 225,(.mk (.type "dict") none (.dict #[(de P "__module__" 519 (.str "chancechoices.chances" 489)),(de P "__firstlineno__" 523 (.int 160 522)),(de P "__static_attributes__" 524 (.ref 224)),(de P "__weakref__" 526 (.ref 227)),(de P "__doc__" 527 .none)] 3) #[])) ::
 (nat_lit 226,(.mk (.type "type") none (.cls (ClassData.mk "OutOfRange" [(.type "Exception")] [(.ref 226),(.type "Exception"),(.type "BaseException"),(.type "object")] 225 "OutOfRange" true [] [] false none false)) #[(some (.ref 217)),none,(some (.str "OutOfRange" 512)),(some (.str "OutOfRange" 520)),(some (.builtin "Exception.__new__")),(some (.bool true))])) ::
 (nat_lit 238,(.mk (.type "dict") none (.dict #[(de P "__module__" 539 (.str "chancechoices.chances" 489)),(de P "__firstlineno__" 543 (.int 162 542)),(de P "__static_attributes__" 544 (.ref 237)),(de P "__weakref__" 546 (.ref 240)),(de P "__doc__" 547 .none)] 3) #[])) ::
 (nat_lit 239,(.mk (.type "type") none (.cls (ClassData.mk "NoSuchGoal" [(.type "Exception")] [(.ref 239),(.type "Exception"),(.type "BaseException"),(.type "object")] 238 "NoSuchGoal" true [] [] false none false)) #[(some (.ref 230)),none,(some (.str "NoSuchGoal" 532)),(some (.str "NoSuchGoal" 540)),(some (.builtin "Exception.__new__")),(some (.bool true))])) ::
 (nat_lit 251,(.mk (.type "dict") none (.dict #[(de P "__module__" 559 (.str "chancechoices.chances" 489)),(de P "__firstlineno__" 563 (.int 164 562)),(de P "__static_attributes__" 564 (.ref 250)),(de P "__weakref__" 566 (.ref 253)),(de P "__doc__" 567 .none)] 3) #[])) ::
 (nat_lit 252,(.mk (.type "type") none (.cls (ClassData.mk "GainTooLow" [(.type "Exception")] [(.ref 252),(.type "Exception"),(.type "BaseException"),(.type "object")] 251 "GainTooLow" true [] [] false none false)) #[(some (.ref 243)),none,(some (.str "GainTooLow" 552)),(some (.str "GainTooLow" 560)),(some (.builtin "Exception.__new__")),(some (.bool true))])) ::
 (nat_lit 264,(.mk (.type "dict") none (.dict #[(de P "__module__" 579 (.str "chancechoices.chances" 489)),(de P "__firstlineno__" 583 (.int 166 582)),(de P "__static_attributes__" 584 (.ref 263)),(de P "__weakref__" 586 (.ref 266)),(de P "__doc__" 587 .none)] 3) #[])) ::
 (nat_lit 265,(.mk (.type "type") none (.cls (ClassData.mk "NoRoom" [(.type "Exception")] [(.ref 265),(.type "Exception"),(.type "BaseException"),(.type "object")] 264 "NoRoom" true [] [] false none false)) #[(some (.ref 256)),none,(some (.str "NoRoom" 572)),(some (.str "NoRoom" 580)),(some (.builtin "Exception.__new__")),(some (.bool true))])) ::
 (nat_lit 274,co "demand_range" "demand_range" 592 168 3 3 269 598 599) ::
 (nat_lit 275,fo "demand_range" "demand_range" ddr "chancechoices.chances" 489 274) ::
 (nat_lit 281,co "read_given" "read_given" 601 171 2 3 276 606 607) ::
 (nat_lit 282,fo "read_given" "read_given" drg10 "chancechoices.chances" 489 281) ::
 (nat_lit 288,co "read_given_goals" "read_given_goals" 609 175 3 3 283 616 617) ::
 (nat_lit 289,fo "read_given_goals" "read_given_goals" drg "chancechoices.chances" 489 288) ::
 (nat_lit 295,co "answer" "answer" 619 181 1 3 290 623 624) ::
 (nat_lit 296,fo "answer" "answer" da "chancechoices.chances" 489 295) ::
 (nat_lit 302,co "common_divisor" "common_divisor" 626 194 2 3 297 632 633) ::
 (nat_lit 303,fo "common_divisor" "common_divisor" dcd "chancechoices.chances" 489 302) ::
 (nat_lit 309,co "digits_of" "digits_of" 635 200 1 3 304 640 641) ::
 (nat_lit 310,fo "digits_of" "digits_of" ddo "chancechoices.chances" 489 309) ::
 (nat_lit 316,co "fraction_told" "fraction_told" 643 206 2 3 311 650 651) ::
 (nat_lit 317,fo "fraction_told" "fraction_told" dft "chancechoices.chances" 489 316) ::
 (nat_lit 323,co "tell" "tell" 653 212 3 3 318 662 663) ::
 (nat_lit 324,fo "tell" "tell" d_tell "chancechoices.chances" 489 323) ::
 (nat_lit 337,co "__init__" "Values.__init__" 677 221 3 3 332 683 684) ::
 (nat_lit 338,fo "__init__" "Values.__init__" dVi "chancechoices.chances" 489 337) ::
 (nat_lit 342,cn "negative" "Values.negative" 686 225 1 3 339 689 690) ::
 (nat_lit 343,fo "negative" "Values.negative" dVn "chancechoices.chances" 489 342) ::
 (nat_lit 347,cn "told" "Values.told" 692 228 1 3 344 695 696) ::
 (nat_lit 348,fo "told" "Values.told" dVt "chancechoices.chances" 489 347) ::
 (nat_lit 350,(.mk (.type "dict") none (.dict #[(de P "__module__" 672 (.str "chancechoices.chances" 489)),(de P "__firstlineno__" 676 (.int 219 675)),(de P "__init__" 685 (.ref 338)),(de P "negative" 691 (.ref 343)),(de P "told" 697 (.ref 348)),(de P "__static_attributes__" 700 (.ref 349)),(de P "__dict__" 702 (.ref 352)),(de P "__weakref__" 704 (.ref 353)),(de P "__doc__" 705 .none)] 4) #[])) ::
 (nat_lit 351,(.mk (.type "type") none (.cls (ClassData.mk "Values" [(.type "object")] [(.ref 351),(.type "object")] 350 "Values" true [] [] false none false)) #[none,none,(some (.str "Values" 665)),(some (.str "Values" 673)),(some (.builtin "object.__new__")),(some (.bool true))])) ::
 (nat_lit 359,cn "cleared" "cleared" 708 230 4 3 356 711 712) ::
 (nat_lit 360,fo "cleared" "cleared" dc10 "chancechoices.chances" 489 359) ::
 (nat_lit 364,cn "solve" "solve" 714 234 1 3 361 717 718) ::
 (nat_lit 365,fo "solve" "solve" d_solve "chancechoices.chances" 489 364) ::
 (nat_lit 378,co "__init__" "Quest.__init__" 732 243 3 3 373 738 739) ::
 (nat_lit 379,fo "__init__" "Quest.__init__" dQi11 "chancechoices.chances" 489 378) ::
 (nat_lit 385,co "equation" "Quest.equation" 741 247 3 3 380 750 751) ::
 (nat_lit 386,fo "equation" "Quest.equation" dQe "chancechoices.chances" 489 385) ::
 (nat_lit 390,cn "top_by" "Quest.top_by" 753 260 3 3 387 756 757) ::
 (nat_lit 391,fo "top_by" "Quest.top_by" dQt "chancechoices.chances" 489 390) ::
 (nat_lit 397,co "is_better" "Quest.is_better" 759 264 4 3 392 766 767) ::
 (nat_lit 398,fo "is_better" "Quest.is_better" dQi "chancechoices.chances" 489 397) ::
 (nat_lit 404,co "improved" "Quest.improved" 769 267 3 3 399 780 781) ::
 (nat_lit 405,fo "improved" "Quest.improved" dQi10 "chancechoices.chances" 489 404) ::
 (nat_lit 409,cn "greatest" "Quest.greatest" 783 275 2 3 406 786 787) ::
 (nat_lit 410,fo "greatest" "Quest.greatest" dQg "chancechoices.chances" 489 409) ::
 (nat_lit 426,(.mk (.type "dict") none (.dict #[(de P "__module__" 727 (.str "chancechoices.chances" 489)),(de P "__firstlineno__" 731 (.int 241 730)),(de P "__init__" 740 (.ref 379)),(de P "equation" 752 (.ref 386)),(de P "top_by" 758 (.ref 391)),(de P "is_better" 768 (.ref 398)),(de P "improved" 782 (.ref 405)),(de P "greatest" 788 (.ref 410)),(de P "step_ahead" 796 (.ref 417)),(de P "choice_told" 805 (.ref 424)),(de P "__static_attributes__" 808 (.ref 425)),(de P "__dict__" 810 (.ref 428)),(de P "__weakref__" 812 (.ref 429)),(de P "__doc__" 813 .none)] 4) #[])) ::
 (nat_lit 427,(.mk (.type "type") none (.cls (ClassData.mk "Quest" [(.type "object")] [(.ref 427),(.type "object")] 426 "Quest" true [] [] false none false)) #[none,none,(some (.str "Quest" 720)),(some (.str "Quest" 728)),(some (.builtin "object.__new__")),(some (.bool true))])) ::
 (nat_lit 435,cn "goal_marks" "goal_marks" 816 288 2 3 432 819 820) ::
 (nat_lit 436,fo "goal_marks" "goal_marks" dgm "chancechoices.chances" 489 435) ::
 (nat_lit 440,cn "gains_taken" "gains_taken" 822 290 2 3 437 825 826) ::
 (nat_lit 441,fo "gains_taken" "gains_taken" dgt "chancechoices.chances" 489 440) ::
 (nat_lit 445,cn "options_till" "options_till" 828 292 3 3 442 831 832) ::
 (nat_lit 446,fo "options_till" "options_till" dot10 "chancechoices.chances" 489 445) ::
 (nat_lit 450,cn "leads_into" "leads_into" 834 294 2 3 447 837 838) ::
 (nat_lit 451,fo "leads_into" "leads_into" dli "chancechoices.chances" 489 450) ::
 (nat_lit 455,cn "marks_ending" "marks_ending" 840 296 1 3 452 843 844) ::
 (nat_lit 456,fo "marks_ending" "marks_ending" dme "chancechoices.chances" 489 455) ::
 (nat_lit 460,cn "options_where" "options_where" 846 303 2 3 457 849 850) ::
 (nat_lit 461,fo "options_where" "options_where" dow "chancechoices.chances" 489 460) ::
 (nat_lit 465,cn "tell_worst" "tell_worst" 852 305 3 3 462 855 856) ::
 (nat_lit 466,fo "tell_worst" "tell_worst" dtw "chancechoices.chances" 489 465) ::
 (nat_lit 472,co "worst" "worst" 858 312 3 3 467 867 868) ::
 (nat_lit 473,fo "worst" "worst" dw "chancechoices.chances" 489 472)::[]
def Ka:List Addr:=[3,22,31,32,41,42,48,49,55,56,62,63,69,70,83,84,90,91,97,98,104,105,111,112,118,119,125,126,132,133,135,136,146,147,153,154,167,168,170,171,179,180,193,194,196,197,205,206,210,211,215,216,225,226,238,239,251,252,264,265,274,275,281,282,288,289,295,296,302,303,309,310,316,317,323,324,337,338,342,343,347,348,350,351,359,360,364,365,378,379,385,386,390,391,397,398,404,405,409,410,426,427,435,436,440,441,445,446,450,451,455,456,460,461,465,466,472,473]
def Kh:Hook:=kHook Kt Ka (fun _=>by kernel_rfl)
abbrev Xt0:Shared->Bool:=fun s=>xlAt pv [] s&&recOk [] s
theorem pre0(w:World):(fun os=>(topGo treeTable pg w 11 (some (.ref 6)) 12 ⟨boot_heap w.params,Array.mk [],boot_drawn,boot_toks,os⟩ (topStub pg)).map (·.2))=fun _=>some ⟨denote treeTable (.body bs0 ev),.body bs0 ev,p0,[topFrame p0]⟩:=by kernel_rfl
theorem blk0(w:World):(fun os=>(topGo treeTable pg w 11 (some (.ref 6)) 12 ⟨boot_heap w.params,Array.mk [],boot_drawn,boot_toks,os⟩ (topStub pg)).bind fun x=>segRun treeTable pg w 11 (some (.ref 6)) 1 1 x.1 (blockOf bs0 ev (.body bs0 ev) p0 [topFrame p0]))=fun os=>some (.next,(st0 w.params os).abs,.body bs0 ev,p0):=by kernel_rfl
abbrev rn0(w:World)(os:OsState):Option Shared:=runT pg w 11 (some (.ref 6)) 3778 2 (st0 w.params os) bs0 ev p0 p0
theorem run1(w:World):(fun os=>(rn0 w os).map fun s=>(staticsOk (importedModules pg.main.body) (boot_heap w.params) s.heap&&namesBound pg s.heap&&gensDone s&&laidKept (boot_heap w.params) s.heap,s.heap.bltView,tabsOk pv s,pinSeenD pv (drecsOf pv) s,Kh.obs s))=fun _=>some (true,bltViewBooted,true,pinGoodD (drecsOf pv),Kh.val w):=by kernel_rfl
theorem run2(w:World):(fun os=>(rn0 w os).map fun s=>seen ((recsOf pv).map (·.name)) (ownsOf pv) [] { s with gens:=#[] })=fun _=>some (expectedOf pv):=by kernel_rfl
theorem run3(w:World):(fun os=>(rn0 w os).map fun s=>s.heap.keysOk (looseW pv []) ((recsOf pv).map (·.name)) ((litsOf pv).map (·.1)) ((clssOf pv (looseW pv [])).map (·.name))&&s.heap.accountedOkI (importedModules pg.main.body))=fun _=>some true:=by kernel_rfl
theorem run4(w:World):(fun os=>(rn0 w os).map fun s=>s.heap.isNs mainGlobals&&s.heap.isNs builtinsNs&&tablesOk pv s.heap&&Xt0 s&&(s.gens.size==0))=fun _=>some true:=by kernel_rfl
theorem run5(w:World):(fun os=>(rn0 w os).map fun s=>(plainSeenE pv (looseW pv []) s,plainSeenD pv [] s,wideSeen pv s,clsSeenW pv [] s))=fun _=>some (plainGoodE pv (looseW pv []),plainGoodD pv [],wideGood pv,clsGoodW pv []):=by kernel_rfl
theorem left0:LeftO pg pv [] Xt0 Kh.obs Kh.val 7680:=
 left_tree (boot_open (by kernel_rfl) (by decide) (fun _=>by kernel_rfl)) (fun _=>by kernel_rfl) pre0 blk0 run1 run2 run3 run4 run5 (by decide)
theorem go10{K:Frag}{h:Heap}{mg:Str->Option Value}{x q:Str}{d:Stmt}{ps:List Str}{a:Addr}(X:K.In h)(G:h.Ns mainGlobals mg)(m:Str)(t c:Nat)(e:nsIn K mainGlobals x=some (some (.ref a)))(l:K.lookup a=some (fo x q d m t c))(hc:codeIn K (.ref c) q=true)
  (b:∀(kV doc pm:Value) (an:Option Addr) (cdv ct:Value) (us:List Value),us.length=ps.length->bindArgs (fnOf x q (defArgs d) (defBody d) (defScope d) .none kV doc pm an cdv ct) ⟨us,[]⟩=pure (ps.zip us)):Glo K mg x q d ps a (ff x q d m t c):=
 have F:=fun_mk (st:=d) l hc (by unfold keepIn;dsimp only;rw[l])
 ⟨F,F.binds b,mg_of X G e⟩
theorem mo{K:Frag}{x q:Str}{d:Stmt}{ps:List Str}{C a:Addr}(m:Str)(t c:Nat)(e:findIn K (.ref C) x=some (some (.ref a)))(l:K.lookup a=some (fo x q d m t c))(hc:codeIn K (.ref c) q=true)
  (b:∀(kV doc pm:Value) (an:Option Addr) (cdv ct:Value) (us:List Value),us.length=ps.length->bindArgs (fnOf x q (defArgs d) (defBody d) (defScope d) .none kV doc pm an cdv ct) ⟨us,[]⟩=pure (ps.zip us)):Met K x q d ps C a (ff x q d m t c):=
 have kp:keepIn K (.ref a)=true:=by unfold keepIn;dsimp only;rw[l]
 have F:=fun_mk (st:=d) l hc kp
 ⟨F,F.binds b,⟨e,by unfold isFn typeIn;dsimp only;rw[l];rfl,kp⟩⟩
theorem na_of{K:Frag}{C:Addr}{f:Str}(e:findIn K (.ref C) f=some none):NoAttr K C f:=e
theorem no10{K:Frag}{C D:Addr}(h:(match K.lookup C with | some ⟨_,_,.cls cd,_⟩=>!cd.mro.contains (.ref D) | _=>false)=true):NotSub K C D:=by
 split at h
 ·rename_i l
  exact⟨_,_,_,_,l,by simpa using h⟩
 ·cases h
theorem go11{K:Frag}{h:Heap}{mg:Str->Option Value}{x:Str}{v:Int}(X:K.In h)(G:h.Ns mainGlobals mg)(e:(match nsIn K mainGlobals x with | some (some (.int i _))=>i==v | _=>false)=true):GlV mg x (.int v):=by
 split at e
 ·rename_i l
  cases beq_iff_eq.mp e
  exact⟨_,mg_of X G l,⟨_,rfl⟩⟩
 ·cases e
theorem txt{h:Heap}{mg:Str->Option Value}{P:Params}(X:(Kt P).In h)(G:h.Ns mainGlobals mg):∃t,Txt (Kt P) mg t:=
 ⟨⟨42,_,49,_,56,_,63,_,70,_,147,_,154,_,180,_,206,_,211,_,216,_,275,_,282,_,289,_,296,_,303,_,310,_,317,_,324,_,360,_,365,_,436,_,441,_,446,_,451,_,456,_,461,_,466,_,473,_,84,_,91,_,98,_,105,_,112,_,119,_,126,_,133,_,168,_,194,_,338,_,343,_,348,_,379,_,386,_,391,_,398,_,405,_,410,_,136,171,197,351,427,32,226,239,252,265,22⟩,
 ⟨go10 X G "chancechoices.texts" 194 41 (by kernel_rfl) (by kernel_rfl) (by kernel_rfl) (fun _ _ _ _ _ _ us hl=>match us,hl with | [_],_=>rfl),
 go10 X G "chancechoices.texts" 194 48 (by kernel_rfl) (by kernel_rfl) (by kernel_rfl) (fun _ _ _ _ _ _ us hl=>match us,hl with | [_],_=>rfl),
 go10 X G "chancechoices.texts" 194 55 (by kernel_rfl) (by kernel_rfl) (by kernel_rfl) (fun _ _ _ _ _ _ us hl=>match us,hl with | [_],_=>rfl),
 go10 X G "chancechoices.texts" 194 62 (by kernel_rfl) (by kernel_rfl) (by kernel_rfl) (fun _ _ _ _ _ _ us hl=>match us,hl with | [_],_=>rfl),
 go10 X G "chancechoices.texts" 194 69 (by kernel_rfl) (by kernel_rfl) (by kernel_rfl) (fun _ _ _ _ _ _ us hl=>match us,hl with | [_],_=>rfl),
 go10 X G "chancechoices.texts" 194 146 (by kernel_rfl) (by kernel_rfl) (by kernel_rfl) (fun _ _ _ _ _ _ us hl=>match us,hl with | [_],_=>rfl),
 go10 X G "chancechoices.texts" 194 153 (by kernel_rfl) (by kernel_rfl) (by kernel_rfl) (fun _ _ _ _ _ _ us hl=>match us,hl with | [_],_=>rfl),
 go10 X G "chancechoices.texts" 194 179 (by kernel_rfl) (by kernel_rfl) (by kernel_rfl) (fun _ _ _ _ _ _ us hl=>match us,hl with | [_],_=>rfl),
 go10 X G "chancechoices.texts" 194 205 (by kernel_rfl) (by kernel_rfl) (by kernel_rfl) (fun _ _ _ _ _ _ us hl=>match us,hl with | [_],_=>rfl),
 go10 X G "chancechoices.texts" 194 210 (by kernel_rfl) (by kernel_rfl) (by kernel_rfl) (fun _ _ _ _ _ _ us hl=>match us,hl with | [_,_],_=>rfl),
 go10 X G "chancechoices.texts" 194 215 (by kernel_rfl) (by kernel_rfl) (by kernel_rfl) (fun _ _ _ _ _ _ us hl=>match us,hl with | [_],_=>rfl),
 go10 X G "chancechoices.chances" 489 274 (by kernel_rfl) (by kernel_rfl) (by kernel_rfl) (fun _ _ _ _ _ _ us hl=>match us,hl with | [_,_,_],_=>rfl),
 go10 X G "chancechoices.chances" 489 281 (by kernel_rfl) (by kernel_rfl) (by kernel_rfl) (fun _ _ _ _ _ _ us hl=>match us,hl with | [_,_],_=>rfl),
 go10 X G "chancechoices.chances" 489 288 (by kernel_rfl) (by kernel_rfl) (by kernel_rfl) (fun _ _ _ _ _ _ us hl=>match us,hl with | [_,_,_],_=>rfl),
 go10 X G "chancechoices.chances" 489 295 (by kernel_rfl) (by kernel_rfl) (by kernel_rfl) (fun _ _ _ _ _ _ us hl=>match us,hl with | [_],_=>rfl),
 go10 X G "chancechoices.chances" 489 302 (by kernel_rfl) (by kernel_rfl) (by kernel_rfl) (fun _ _ _ _ _ _ us hl=>match us,hl with | [_,_],_=>rfl),
 go10 X G "chancechoices.chances" 489 309 (by kernel_rfl) (by kernel_rfl) (by kernel_rfl) (fun _ _ _ _ _ _ us hl=>match us,hl with | [_],_=>rfl),
 go10 X G "chancechoices.chances" 489 316 (by kernel_rfl) (by kernel_rfl) (by kernel_rfl) (fun _ _ _ _ _ _ us hl=>match us,hl with | [_,_],_=>rfl),
 go10 X G "chancechoices.chances" 489 323 (by kernel_rfl) (by kernel_rfl) (by kernel_rfl) (fun _ _ _ _ _ _ us hl=>match us,hl with | [_,_,_],_=>rfl),
 go10 X G "chancechoices.chances" 489 359 (by kernel_rfl) (by kernel_rfl) (by kernel_rfl) (fun _ _ _ _ _ _ us hl=>match us,hl with | [_,_,_,_],_=>rfl),
 go10 X G "chancechoices.chances" 489 364 (by kernel_rfl) (by kernel_rfl) (by kernel_rfl) (fun _ _ _ _ _ _ us hl=>match us,hl with | [_],_=>rfl),
 go10 X G "chancechoices.chances" 489 435 (by kernel_rfl) (by kernel_rfl) (by kernel_rfl) (fun _ _ _ _ _ _ us hl=>match us,hl with | [_,_],_=>rfl),
 go10 X G "chancechoices.chances" 489 440 (by kernel_rfl) (by kernel_rfl) (by kernel_rfl) (fun _ _ _ _ _ _ us hl=>match us,hl with | [_,_],_=>rfl),
 go10 X G "chancechoices.chances" 489 445 (by kernel_rfl) (by kernel_rfl) (by kernel_rfl) (fun _ _ _ _ _ _ us hl=>match us,hl with | [_,_,_],_=>rfl),
 go10 X G "chancechoices.chances" 489 450 (by kernel_rfl) (by kernel_rfl) (by kernel_rfl) (fun _ _ _ _ _ _ us hl=>match us,hl with | [_,_],_=>rfl),
 go10 X G "chancechoices.chances" 489 455 (by kernel_rfl) (by kernel_rfl) (by kernel_rfl) (fun _ _ _ _ _ _ us hl=>match us,hl with | [_],_=>rfl),
 go10 X G "chancechoices.chances" 489 460 (by kernel_rfl) (by kernel_rfl) (by kernel_rfl) (fun _ _ _ _ _ _ us hl=>match us,hl with | [_,_],_=>rfl),
 go10 X G "chancechoices.chances" 489 465 (by kernel_rfl) (by kernel_rfl) (by kernel_rfl) (fun _ _ _ _ _ _ us hl=>match us,hl with | [_,_,_],_=>rfl),
 go10 X G "chancechoices.chances" 489 472 (by kernel_rfl) (by kernel_rfl) (by kernel_rfl) (fun _ _ _ _ _ _ us hl=>match us,hl with | [_,_,_],_=>rfl),
 mo "chancechoices.texts" 194 83 (by kernel_rfl) (by kernel_rfl) (by kernel_rfl) (fun _ _ _ _ _ _ us hl=>match us,hl with | [_,_],_=>rfl),
 mo "chancechoices.texts" 194 90 (by kernel_rfl) (by kernel_rfl) (by kernel_rfl) (fun _ _ _ _ _ _ us hl=>match us,hl with | [_],_=>rfl),
 mo "chancechoices.texts" 194 97 (by kernel_rfl) (by kernel_rfl) (by kernel_rfl) (fun _ _ _ _ _ _ us hl=>match us,hl with | [_],_=>rfl),
 mo "chancechoices.texts" 194 104 (by kernel_rfl) (by kernel_rfl) (by kernel_rfl) (fun _ _ _ _ _ _ us hl=>match us,hl with | [_],_=>rfl),
 mo "chancechoices.texts" 194 111 (by kernel_rfl) (by kernel_rfl) (by kernel_rfl) (fun _ _ _ _ _ _ us hl=>match us,hl with | [_],_=>rfl),
 mo "chancechoices.texts" 194 118 (by kernel_rfl) (by kernel_rfl) (by kernel_rfl) (fun _ _ _ _ _ _ us hl=>match us,hl with | [_,_],_=>rfl),
 mo "chancechoices.texts" 194 125 (by kernel_rfl) (by kernel_rfl) (by kernel_rfl) (fun _ _ _ _ _ _ us hl=>match us,hl with | [_],_=>rfl),
 mo "chancechoices.texts" 194 132 (by kernel_rfl) (by kernel_rfl) (by kernel_rfl) (fun _ _ _ _ _ _ us hl=>match us,hl with | [_],_=>rfl),
 mo "chancechoices.texts" 194 167 (by kernel_rfl) (by kernel_rfl) (by kernel_rfl) (fun _ _ _ _ _ _ us hl=>match us,hl with | [_,_,_,_,_],_=>rfl),
 mo "chancechoices.texts" 194 193 (by kernel_rfl) (by kernel_rfl) (by kernel_rfl) (fun _ _ _ _ _ _ us hl=>match us,hl with | [_,_,_],_=>rfl),
 mo "chancechoices.chances" 489 337 (by kernel_rfl) (by kernel_rfl) (by kernel_rfl) (fun _ _ _ _ _ _ us hl=>match us,hl with | [_,_,_],_=>rfl),
 mo "chancechoices.chances" 489 342 (by kernel_rfl) (by kernel_rfl) (by kernel_rfl) (fun _ _ _ _ _ _ us hl=>match us,hl with | [_],_=>rfl),
 mo "chancechoices.chances" 489 347 (by kernel_rfl) (by kernel_rfl) (by kernel_rfl) (fun _ _ _ _ _ _ us hl=>match us,hl with | [_],_=>rfl),
 mo "chancechoices.chances" 489 378 (by kernel_rfl) (by kernel_rfl) (by kernel_rfl) (fun _ _ _ _ _ _ us hl=>match us,hl with | [_,_,_],_=>rfl),
 mo "chancechoices.chances" 489 385 (by kernel_rfl) (by kernel_rfl) (by kernel_rfl) (fun _ _ _ _ _ _ us hl=>match us,hl with | [_,_,_],_=>rfl),
 mo "chancechoices.chances" 489 390 (by kernel_rfl) (by kernel_rfl) (by kernel_rfl) (fun _ _ _ _ _ _ us hl=>match us,hl with | [_,_,_],_=>rfl),
 mo "chancechoices.chances" 489 397 (by kernel_rfl) (by kernel_rfl) (by kernel_rfl) (fun _ _ _ _ _ _ us hl=>match us,hl with | [_,_,_,_],_=>rfl),
 mo "chancechoices.chances" 489 404 (by kernel_rfl) (by kernel_rfl) (by kernel_rfl) (fun _ _ _ _ _ _ us hl=>match us,hl with | [_,_,_],_=>rfl),
 mo "chancechoices.chances" 489 409 (by kernel_rfl) (by kernel_rfl) (by kernel_rfl) (fun _ _ _ _ _ _ us hl=>match us,hl with | [_,_],_=>rfl),
 ⟨⟨by kernel_rfl,by kernel_rfl,by kernel_rfl,by kernel_rfl⟩,mg_of X G (by kernel_rfl),by kernel_rfl,by kernel_rfl⟩,
 na_of (by kernel_rfl),
 na_of (by kernel_rfl),
 ⟨⟨by kernel_rfl,by kernel_rfl,by kernel_rfl,by kernel_rfl⟩,mg_of X G (by kernel_rfl),by kernel_rfl,by kernel_rfl⟩,
 na_of (by kernel_rfl),
 na_of (by kernel_rfl),
 na_of (by kernel_rfl),
 na_of (by kernel_rfl),
 ⟨⟨by kernel_rfl,by kernel_rfl,by kernel_rfl,by kernel_rfl⟩,mg_of X G (by kernel_rfl),by kernel_rfl,by kernel_rfl⟩,
 na_of (by kernel_rfl),
 na_of (by kernel_rfl),
 ⟨⟨by kernel_rfl,by kernel_rfl,by kernel_rfl,by kernel_rfl⟩,mg_of X G (by kernel_rfl),by kernel_rfl,by kernel_rfl⟩,
 na_of (by kernel_rfl),
 na_of (by kernel_rfl),
 ⟨⟨by kernel_rfl,by kernel_rfl,by kernel_rfl,by kernel_rfl⟩,mg_of X G (by kernel_rfl),by kernel_rfl,by kernel_rfl⟩,
 na_of (by kernel_rfl),
 na_of (by kernel_rfl),
 ⟨mg_of X G (by kernel_rfl),by kernel_rfl⟩,
 ⟨mg_of X G (by kernel_rfl),by kernel_rfl⟩,
 ⟨mg_of X G (by kernel_rfl),by kernel_rfl⟩,
 ⟨mg_of X G (by kernel_rfl),by kernel_rfl⟩,
 ⟨mg_of X G (by kernel_rfl),by kernel_rfl⟩,
 go11 X G (by kernel_rfl),
 go11 X G (by kernel_rfl),
 go11 X G (by kernel_rfl),
 go11 X G (by kernel_rfl),
 go11 X G (by kernel_rfl),
 go11 X G (by kernel_rfl),
 go11 X G (by kernel_rfl),
 go11 X G (by kernel_rfl),
 go11 X G (by kernel_rfl),
 go11 X G (by kernel_rfl),
 go11 X G (by kernel_rfl),
 go11 X G (by kernel_rfl),
 go11 X G (by kernel_rfl),
 go11 X G (by kernel_rfl),
 go11 X G (by kernel_rfl),
 go11 X G (by kernel_rfl),
 go11 X G (by kernel_rfl),
 go11 X G (by kernel_rfl),
 go11 X G (by kernel_rfl),
 go11 X G (by kernel_rfl),
 mg_of X G (by kernel_rfl),
 fun H=>.inr ⟨_,_,_,(show (Kt P).lookup 22=some ⟨.type "tuple",none,.seq #[(.int 115 236),(.int 116 237),(.int 97 238),(.int 116 239),(.int 101 240)] 0,#[]⟩ by kernel_rfl),rfl,rfl,(by show (5:Nat)<=sizeLine;decide),.cons ⟨_,rfl⟩ (.cons ⟨_,rfl⟩ (.cons ⟨_,rfl⟩ (.cons ⟨_,rfl⟩ (.cons ⟨_,rfl⟩ (.nil)))))⟩,
 go11 X G (by kernel_rfl),
 go11 X G (by kernel_rfl),
 go11 X G (by kernel_rfl),
 go11 X G (by kernel_rfl),
 go11 X G (by kernel_rfl),
 go11 X G (by kernel_rfl),
 go11 X G (by kernel_rfl),
 go11 X G (by kernel_rfl),
 mg_none_of X G (by kernel_rfl),
 mg_none_of X G (by kernel_rfl),
 mg_none_of X G (by kernel_rfl),
 mg_none_of X G (by kernel_rfl),
 mg_none_of X G (by kernel_rfl),
 mg_none_of X G (by kernel_rfl),
 mg_none_of X G (by kernel_rfl),
 mg_none_of X G (by kernel_rfl),
 mg_none_of X G (by kernel_rfl),
 mg_none_of X G (by kernel_rfl),
 mg_none_of X G (by kernel_rfl),
 mg_none_of X G (by kernel_rfl),
 no10 (by kernel_rfl),
 no10 (by kernel_rfl),
 no10 (by kernel_rfl),
 no10 (by kernel_rfl),
 no10 (by kernel_rfl),
 no10 (by kernel_rfl),
 no10 (by kernel_rfl),
 no10 (by kernel_rfl),
 no10 (by kernel_rfl),
 no10 (by kernel_rfl),
 no10 (by kernel_rfl),
 no10 (by kernel_rfl),
 no10 (by kernel_rfl),
 no10 (by kernel_rfl),
 no10 (by kernel_rfl),
 no10 (by kernel_rfl),
 no10 (by kernel_rfl),
 no10 (by kernel_rfl),
 no10 (by kernel_rfl),
 no10 (by kernel_rfl)⟩⟩
end Ck
end
noncomputable section
namespace Fq
open Ra61
def Is(x:Fr)(a b:Int):Prop:=0<x.den/\0<b/\x.num*b=a*(x.den:Int)
theorem fr_den{z:Int}{d:Nat}(h:0<d):0<(fr z d).den:=by
 show 0<d/max 1 (Nat.gcd z.natAbs d)
 have hg:0<Nat.gcd z.natAbs d:=Nat.gcd_pos_of_pos_right _ h
 rw[Nat.max_eq_right hg]
 exact Nat.div_pos (Nat.le_of_dvd h (Nat.gcd_dvd_right _ _)) hg
theorem is_fr{z:Int}{d:Nat}(h:0<d):Is (fr z d) z d:=by
 refine⟨fr_den h,by omega,?_⟩
 have hg:0<Nat.gcd z.natAbs d:=Nat.gcd_pos_of_pos_right _ h
 show z/((max 1 (Nat.gcd z.natAbs d):Nat):Int)*(d:Int)=z*((d/max 1 (Nat.gcd z.natAbs d):Nat):Int)
 rw[Nat.max_eq_right hg]
 have h1:((Nat.gcd z.natAbs d:Nat):Int) ∣ z:=Int.ofNat_dvd_left.mpr (Nat.gcd_dvd_left _ _)
 obtain⟨k,hk⟩:=h1
 obtain⟨m,hm⟩:=Nat.gcd_dvd_right z.natAbs d
 generalize Nat.gcd z.natAbs d=g at hk hm hg
 subst hk
 have hg':(g:Int)≠0:=by omega
 rw[Int.mul_ediv_cancel_left _ hg',hm,Nat.mul_div_cancel_left _ hg]
 push_cast
 rw[Int.mul_comm (g:Int) k,Int.mul_assoc]
end Fq
end
noncomputable section
namespace Fq
open Ra61
theorem frac_scale(z:Int){d k:Nat}(hk:0<k):frac (z*(k:Int)) (d*k)=frac z d:=by
 have e1:(z*(k:Int)).natAbs=z.natAbs*k:=by rw[Int.natAbs_mul];rfl
 have e2:(z*(k:Int)<0)↔z<0:=by
  constructor
  ·intro h
   rcases Int.lt_or_le z 0 with q | q
   ·exact q
   ·have:=Int.mul_nonneg q (show (0:Int)<=(k:Int) by omega);omega
  ·intro h
   exact Int.mul_neg_of_neg_of_pos h (by omega)
 unfold frac
 simp only[e1,e2,Nat.gcd_mul_right,Nat.mul_div_mul_right _ _ hk]
theorem frac_of{z z':Int}{d d':Nat}(hd:0<d)(hd':0<d')(e:z*(d':Int)=z'*(d:Int)):frac z d=frac z' d':=by
 rw[<-frac_scale z (d:=d) hd',<-frac_scale z' (d:=d') hd,e,Nat.mul_comm d d']
theorem Is.told{x:Fr}{a b:Int}(h:Is x a b):toldFr x=frac a b.toNat:=by
 obtain⟨h1,h2,h3⟩:=h
 refine frac_of h1 (by omega) ?_
 rw[Int.toNat_of_nonneg (by omega)]
 exact h3
def Row_(v:Row)(tops:List Int)(bot:Int):Prop:=v.length=tops.length/\∀i:Nat,i<tops.length->Is (at_ v i) (tops.getD i 0) bot
theorem Row_.at{v:Row}{tops:List Int}{bot:Int}(h:Row_ v tops bot){i:Nat}(hi:i<tops.length):Is (at_ v i) (tops.getD i 0) bot:=h.2 i hi
def ahead(ws:List (Nat×Nat))(tops:List Int):Int:=(ws.map fun w=>(w.2:Int)*tops.getD w.1 0).sum
end Fq
end
noncomputable section
namespace Fq
open Ra61
structure Opt where
 name:List Nat
 gain:Int
 ways:List (Nat×Nat)
 tot:Int
def Opt.top(o:Opt)(tops:List Int)(bot:Int):Int:=o.gain*o.tot*bot+ahead o.ways tops
def Opt.better(o p:Opt)(tops:List Int)(bot:Int):Bool:=decide (p.top tops bot*o.tot<o.top tops bot*p.tot)
def none0:Opt:=⟨[],0,[],1⟩
def pickFrom(os:List Opt)(tops:List Int)(bot:Int):Nat->List Opt->Nat->Nat
 |_,[],b=>b
 |i,o::r,b=>pickFrom os tops bot (i+1) r (if o.better (os.getD b none0) tops bot=true then i else b)
def pick(os:List Opt)(tops:List Int)(bot:Int)(b:Nat):Nat:=pickFrom os tops bot 0 os b
def OLe(o p:Opt)(tops:List Int)(bot:Int):Prop:=o.top tops bot*p.tot<=p.top tops bot*o.tot
theorem ole_trans{o p q:Opt}{tops:List Int}{bot:Int}(ho:0<o.tot)(hp:0<p.tot)(hq:0<q.tot)(h:OLe o p tops bot)(k:OLe p q tops bot):OLe o q tops bot:=by
 unfold OLe at *
 have h1:=Int.mul_le_mul_of_nonneg_right h (Int.le_of_lt hq)
 have h2:=Int.mul_le_mul_of_nonneg_right k (Int.le_of_lt ho)
 generalize o.top tops bot=a at *
 generalize p.top tops bot=b at *
 generalize q.top tops bot=c at *
 have e1:a*p.tot*q.tot=a*q.tot*p.tot:=by grind
 have e2:b*o.tot*q.tot=b*q.tot*o.tot:=by grind
 have e3:c*p.tot*o.tot=c*o.tot*p.tot:=by grind
 have e:a*q.tot*p.tot<=c*o.tot*p.tot:=by omega
 exact Int.le_of_mul_le_mul_right e hp
theorem pick_go{os:List Opt}{tops:List Int}{bot:Int}(ht:∀o∈os,0<o.tot):∀(r:List Opt) (i b:Nat),os.drop i=r->b<os.length ->
  pickFrom os tops bot i r b<os.length/\OLe (os.getD b none0) (os.getD (pickFrom os tops bot i r b) none0) tops bot/\∀o∈r,OLe o (os.getD (pickFrom os tops bot i r b) none0) tops bot
 |[],i,b,_,hb=>⟨hb,Int.le_refl _,by simp⟩
 |o::r,i,b,hd,hb=>by
  have hil:i<os.length:=by
   have:=congrArg List.length hd
   rw[List.length_drop] at this
   simp at this;omega
  have hoi:os[i]=o:=by
   rw[List.drop_eq_getElem_cons hil] at hd
   exact (List.cons.inj hd).1
  have hdr:os.drop (i+1)=r:=by
   rw[List.drop_eq_getElem_cons hil] at hd
   exact (List.cons.inj hd).2
  have gD:∀{j:Nat} (hj:j<os.length),os.getD j none0=os[j]:=fun hj=>by rw[List.getD_eq_getElem?_getD,List.getElem?_eq_getElem hj];rfl
  have tD:∀{j:Nat} (hj:j<os.length),0<(os.getD j none0).tot:=fun hj=>by rw[gD hj];exact ht _ (List.getElem_mem hj)
  show pickFrom os tops bot (i+1) r (if o.better (os.getD b none0) tops bot=true then i else b)<os.length/\OLe _ (os.getD (pickFrom os tops bot (i+1) r (if o.better (os.getD b none0) tops bot=true then i else b)) none0) tops bot/\_
  by_cases q:o.better (os.getD b none0) tops bot=true
  ·rw[if_pos q]
   obtain⟨i1,i2,i3⟩:=pick_go ht r (i+1) i hdr hil
   unfold Opt.better at q
   rw[decide_eq_true_eq] at q
   rw[gD hil,hoi] at i2
   refine⟨i1,?_,fun p hp=>?_⟩
   ·exact ole_trans (tD hb) (hoi ▸ ht _ (List.getElem_mem hil)) (tD i1) (Int.le_of_lt q) i2
   ·show OLe p (os.getD (pickFrom os tops bot (i+1) r (if o.better (os.getD b none0) tops bot=true then i else b)) none0) tops bot
    rw[if_pos (by unfold Opt.better;rw[decide_eq_true_eq];exact q)]
    rcases List.mem_cons.mp hp with rfl | hp
    ·exact i2
    ·exact i3 p hp
  ·rw[if_neg q]
   obtain⟨i1,i2,i3⟩:=pick_go ht r (i+1) b hdr hb
   have q':=q
   unfold Opt.better at q'
   rw[decide_eq_true_eq,Int.not_lt] at q'
   refine⟨i1,i2,fun p hp=>?_⟩
   show OLe p (os.getD (pickFrom os tops bot (i+1) r (if o.better (os.getD b none0) tops bot=true then i else b)) none0) tops bot
   rw[if_neg q]
   rcases List.mem_cons.mp hp with rfl | hp
   ·exact ole_trans (hoi ▸ ht _ (List.getElem_mem hil)) (tD hb) (tD i1) q' i2
   ·exact i3 p hp
theorem pick_max{os:List Opt}{tops:List Int}{bot:Int}{b:Nat}(ht:∀o∈os,0<o.tot)(hb:b<os.length):pick os tops bot b<os.length/\∀o∈os,OLe o (os.getD (pick os tops bot b) none0) tops bot:=
 let ⟨a,_,c⟩:=pick_go ht os 0 b rfl hb
 ⟨a,c⟩
end Fq
end
noncomputable section
namespace Fq
open Ra61
end Fq
end
noncomputable section
namespace Fq
open Ra61
structure Good(N:Net):Prop where
 len:1<=N.length/\N.length<=16
 few:∀s∈N,s.choices.length<=8
 ways:∀s∈N,∀c∈s.choices,c.ways≠[]/\c.ways.length<=16/\(∀w∈c.ways,w.1<N.length/\1<=w.2/\w.2<=1000)/\-1000<=c.gain/\c.gain<=1000
theorem cm11{N:Net}{s:Nat}{c:Choice}(h:c∈choicesOf N s):∃x∈N,c∈x.choices:=by
 unfold choicesOf at h
 cases e:N[s]? with
 |none=>rw[e] at h;simp at h
 |some x=>rw[e] at h;exact⟨x,List.mem_of_getElem? e,by simpa using h⟩
theorem weight_pos{c:Choice}(hn:c.ways≠[])(h:∀w∈c.ways,1<=w.2):0<c.weight:=by
 unfold Choice.weight
 cases e:c.ways with
 |nil=>exact absurd e hn
 |cons w r=>
  rw[List.map_cons,List.sum_cons]
  have:=h w (by rw[e];exact List.mem_cons_self)
  omega
def optOf(times:Int)(c:Choice):Opt:=⟨c.name,c.gain*times,c.ways,(c.weight:Int)⟩
def till(N:Net)(g:Nat)(times:Int):List (List Opt):=(List.range N.length).map fun s=>if isGoal g s=true then [] else (choicesOf N s).map (optOf times)
def marksOf(N:Net)(g:Nat):List Int:=(List.range N.length).map fun s=>if isGoal g s=true then 1 else 0
end Fq
end
noncomputable section
namespace Rd
open Ra61
theorem nl14{α:Type}[DecidableEq α]:∀(l m:List α),l.Nodup->(∀x∈l,x∈m)->l.length<=m.length
 |[],_,_,_=>Nat.zero_le _
 |x::l,m,hn,hs=>by
  rw[List.nodup_cons] at hn
  have hx:=hs x List.mem_cons_self
  have ih:=nl14 l (m.erase x) hn.2 fun y hy=>by
   have ne:y≠x:=fun e=>hn.1 (by rw[<-e];exact hy)
   exact (List.mem_erase_of_ne ne).mpr (hs y (List.mem_cons_of_mem _ hy))
  rw[List.length_erase_of_mem hx] at ih
  have:0<m.length:=List.length_pos_of_mem hx
  rw[List.length_cons];omega
theorem readWay_w{b:B}{x}(h:readWay b=some x):1<=x.1.2/\x.1.2<=1000:=by
 obtain⟨a,_,h⟩:=bind_some h
 obtain⟨y,_,h⟩:=bind_some h
 obtain⟨n,_,h⟩:=bind_some h
 obtain⟨q,h⟩:=is10 h
 cases h
 exact q
theorem MW_w:∀(n:Nat) (b:B),b.length<n->∀r,MW b=some r->∀w∈r.1,1<=w.2/\w.2<=1000
 |0,b,h,_,_=>by omega
 |n+1,b,h,r,e=>by
  rw[MW_step] at e
  have hp:=pl10 44 b
  split at e
  ·rename_i hx
   have hl:=pl15 (m:=44) (by decide) hx
   obtain⟨w,e1,e⟩:=bind_some e
   obtain⟨z,e2,rfl⟩:=map_some e
   have:=rl10 e1
   intro v hv
   rcases List.mem_cons.mp hv with rfl | hv
   ·exact readWay_w e1
   ·exact MW_w n w.2 (by omega) z e2 v hv
  ·cases e;simp
theorem t110{b:B}{x}(h:takeName b=some x):x.1.length<=16:=by
 unfold takeName at h
 dsimp only at h
 obtain⟨_,h⟩:=is10 h
 obtain⟨l,h⟩:=is10 h
 cases h
 exact l
structure CGood(c:RawChoice):Prop where
 ne:c.ways≠[]
 w:∀w∈c.ways,1<=w.2/\w.2<=1000
 nd:(c.ways.map fun w=>w.1).Nodup
 g:-1000<=c.gain/\c.gain<=1000
 nm:c.name.length<=16
theorem readGain_g{b:B}{x}(h:readGain b=some x):-1000<=x.1/\x.1<=1000:=by
 obtain⟨y,_,h⟩:=bind_some h
 obtain⟨n,_,h⟩:=bind_some h
 obtain⟨q,h⟩:=is10 h
 cases h
 show -1000<=(if y.1=true then -(n.1:Int) else (n.1:Int))/\(if y.1=true then -(n.1:Int) else (n.1:Int))<=1000
 split<;>omega
theorem rg{b:B}{x}(h:readChoice b=some x):CGood x.1:=by
 rw[re] at h
 obtain⟨a,h1,h⟩:=bind_some h
 obtain⟨g,h2,h⟩:=bind_some h
 obtain⟨_,h⟩:=is10 h
 obtain⟨y,h4,h⟩:=bind_some h
 obtain⟨r,h5,h⟩:=bind_some h
 obtain⟨_,h⟩:=is10 h
 obtain⟨nd,h⟩:=is10 h
 cases h
 refine⟨by simp,fun w hw=>?_,nd,readGain_g h2,t110 h1⟩
 rcases List.mem_cons.mp hw with rfl | hw
 ·exact readWay_w h4
 ·exact MW_w _ _ (Nat.lt_succ_self _) _ h5 w hw
theorem MC_g:∀(n:Nat) (b:B),b.length<n->∀r,MC b=some r->∀c∈r.1,CGood c
 |0,b,h,_,_=>by omega
 |n+1,b,h,r,e=>by
  rw[Ms] at e
  have hp:=pl10 125 b
  split at e
  ·cases e;simp
  ·obtain⟨w,e1,e⟩:=bind_some e
   obtain⟨z,e2,rfl⟩:=map_some e
   have:=rl11 e1
   intro c hc
   rcases List.mem_cons.mp hc with rfl | hc
   ·exact rg e1
   ·exact MC_g n w.2 (by omega) z e2 c hc
theorem readState_g{b:B}{x}(h:readState b=some x):x.1.choices.length<=8/\∀c∈x.1.choices,CGood c:=by
 rw[re10] at h
 obtain⟨a,h1,h⟩:=bind_some h
 obtain⟨_,h⟩:=is10 h
 obtain⟨y,h4,h⟩:=bind_some h
 obtain⟨_,h⟩:=is10 h
 obtain⟨r,h5,h⟩:=bind_some h
 obtain⟨l,h⟩:=is10 h
 obtain⟨_,h⟩:=is10 h
 cases h
 exact⟨l,MC_g _ _ (Nat.lt_succ_self _) _ h5⟩
theorem MS_g:∀(n:Nat) (b:B),b.length<n->∀r,MS b=some r->∀s∈r,s.choices.length<=8/\∀c∈s.choices,CGood c
 |0,b,h,_,_=>by omega
 |n+1,b,h,r,e=>by
  rw[MS_step] at e
  have hp:=sl10 false b
  split at e
  ·cases e;simp
  ·obtain⟨w,e1,e⟩:=bind_some e
   obtain⟨z,e2,rfl⟩:=map_some e
   have:=rl12 e1
   intro s hs
   rcases List.mem_cons.mp hs with rfl | hs
   ·exact readState_g e1
   ·exact MS_g n w.2 (by omega) z e2 s hs
theorem placeOf_lt{names:List B}{x:B}(h:names.contains x=true):placeOf names x<names.length:=by
 have hm:x∈names:=by simpa using h
 unfold placeOf
 cases e:names.findIdx? (fun y=>y==x) with
 |none=>
  rw[List.findIdx?_eq_none_iff] at e
  have:=e x hm
  simp at this
 |some j=>
  rw[List.findIdx?_eq_some_iff_getElem] at e
  obtain⟨h1,_⟩:=e
  exact h1
theorem net_good{b:B}{N:Net}(h:readStates b=some N):Fq.Good N:=by
 rw[re11] at h
 obtain⟨raw,h1,h⟩:=bind_some h
 obtain⟨hl,h⟩:=is10 h
 obtain⟨hn,h⟩:=is10 h
 obtain⟨hc,h⟩:=is10 h
 cases h
 have hg:=MS_g _ _ (Nat.lt_succ_self _) _ h1
 have len:(placed raw).length=raw.length:=by unfold placed;simp
 have mem:∀s∈placed raw,∃r∈raw,s=⟨r.name,r.choices.map fun c=>⟨c.name,c.gain,c.ways.map fun w=>(placeOf (raw.map fun s=>s.name) w.1,w.2)⟩⟩:=fun s hs=>by
  obtain⟨r,hr,e⟩:=List.mem_map.mp hs
  exact⟨r,hr,e.symm⟩
 refine⟨by rw[len];exact hl,fun s hs=>?_,fun s hs c hcm=>?_⟩
 ·obtain⟨r,hr,rfl⟩:=mem s hs
  have:=(hg r hr).1
  simpa using this
 ·obtain⟨r,hr,rfl⟩:=mem s hs
  obtain⟨c',hc',rfl⟩:=List.mem_map.mp hcm
  have G:=(hg r hr).2 c' hc'
  have hcont:∀w∈c'.ways,(raw.map fun s=>s.name).contains w.1=true:=fun w hw=>by
   have z1:=List.all_eq_true.mp hc r hr
   have z2:=List.all_eq_true.mp z1 c' hc'
   exact List.all_eq_true.mp z2 w hw
  have nl:(raw.map fun s=>s.name).length=raw.length:=by simp
  refine⟨fun z=>G.ne (by simpa using z),?_,fun w hw=>?_,G.g⟩
  ·have:=nl14 (c'.ways.map fun w=>w.1) (raw.map fun s=>s.name) G.nd fun x hx=>by
    obtain⟨w,hw,rfl⟩:=List.mem_map.mp hx
    simpa using hcont w hw
   simp only[List.length_map] at this ⊢
   omega
  ·obtain⟨w',hw',rfl⟩:=List.mem_map.mp hw
   refine⟨?_,G.w w' hw'⟩
   rw[len,<-nl]
   exact placeOf_lt (hcont w' hw')
end Rd
end
noncomputable section
namespace Rd
open Ra61
theorem readState_n{b:B}{x}(h:readState b=some x):x.1.name.length<=16:=by
 rw[re10] at h
 obtain⟨a,h1,h⟩:=bind_some h
 obtain⟨_,h⟩:=is10 h
 obtain⟨y,h4,h⟩:=bind_some h
 obtain⟨_,h⟩:=is10 h
 obtain⟨r,h5,h⟩:=bind_some h
 obtain⟨l,h⟩:=is10 h
 obtain⟨_,h⟩:=is10 h
 cases h
 exact t110 h4
theorem MS_n:∀(n:Nat) (b:B),b.length<n->∀r,MS b=some r->∀s∈r,s.name.length<=16
 |0,b,h,_,_=>by omega
 |n+1,b,h,r,e=>by
  rw[MS_step] at e
  have hp:=sl10 false b
  split at e
  ·cases e;simp
  ·obtain⟨w,e1,e⟩:=bind_some e
   obtain⟨z,e2,rfl⟩:=map_some e
   have:=rl12 e1
   intro s hs
   rcases List.mem_cons.mp hs with rfl | hs
   ·exact readState_n e1
   ·exact MS_n n w.2 (by omega) z e2 s hs
theorem net_names{b:B}{N:Net}(h:readStates b=some N):∀s∈N,s.name.length<=16:=by
 rw[re11] at h
 obtain⟨raw,h1,h⟩:=bind_some h
 obtain⟨hl,h⟩:=is10 h
 obtain⟨hn,h⟩:=is10 h
 obtain⟨hc,h⟩:=is10 h
 cases h
 intro s hs
 obtain⟨r,hr,rfl⟩:=List.mem_map.mp hs
 exact MS_n _ _ (Nat.lt_succ_self _) _ h1 r hr
end Rd
end
noncomputable section
namespace La
def sm:Nat->(Nat->Rat)->Rat
 |0,_=>0
 |n+1,f=>sm n f+f n
theorem sc10{n:Nat}{f g:Nat->Rat}(h:∀i,i<n->f i=g i):sm n f=sm n g:=by
 induction n with
 |zero=>rfl
 |succ n ih=>simp only[sm];rw[ih fun i hi=>h i (Nat.lt_succ_of_lt hi),h n (Nat.lt_succ_self n)]
theorem sm_add(n:Nat)(f g:Nat->Rat):sm n (fun i=>f i+g i)=sm n f+sm n g:=by
 induction n with
 |zero=>simp only[sm];grind
 |succ n ih=>simp only[sm];rw[ih];grind
theorem sm_mul(n:Nat)(k:Rat)(f:Nat->Rat):sm n (fun i=>k*f i)=k*sm n f:=by
 induction n with
 |zero=>simp[sm]
 |succ n ih=>simp only[sm];rw[ih];grind
theorem sm_sub(n:Nat)(k:Rat)(f g:Nat->Rat):sm n (fun i=>f i-k*g i)=sm n f-k*sm n g:=by
 induction n with
 |zero=>simp only[sm];grind
 |succ n ih=>simp only[sm];rw[ih];grind
theorem sm_zero{n:Nat}{f:Nat->Rat}(h:∀i,i<n->f i=0):sm n f=0:=by
 induction n with
 |zero=>rfl
 |succ n ih=>simp only[sm];rw[ih fun i hi=>h i (Nat.lt_succ_of_lt hi),h n (Nat.lt_succ_self n)];grind
theorem sm_one{n i:Nat}{f:Nat->Rat}(hi:i<n)(h:∀j,j<n->j≠i->f j=0):sm n f=f i:=by
 induction n with
 |zero=>omega
 |succ n ih=>
  simp only[sm]
  by_cases e:i=n
  ·subst e
   rw[sm_zero fun j hj=>h j (Nat.lt_succ_of_lt hj) (Nat.ne_of_lt hj)];grind
  ·rw[ih (by omega) fun j hj hn=>h j (Nat.lt_succ_of_lt hj) hn,h n (Nat.lt_succ_self n) fun z=>e z.symm];grind
theorem sm_le{n:Nat}{f g:Nat->Rat}(h:∀i,i<n->f i<=g i):sm n f<=sm n g:=by
 induction n with
 |zero=>simp[sm]
 |succ n ih=>
  simp only[sm]
  have a:=ih fun i hi=>h i (Nat.lt_succ_of_lt hi)
  have b:=h n (Nat.lt_succ_self n)
  grind
theorem sm_le_one{n i:Nat}{f:Nat->Rat}(hi:i<n)(h:∀j,j<n->j≠i->f j<=0):sm n f<=f i:=by
 have a:sm n f<=sm n (fun j=>if j=i then f j else 0):=sm_le fun j hj=>by
  by_cases e:j=i
  ·simp[e]
  ·simp only[e,if_false];exact h j hj e
 have b:sm n (fun j=>if j=i then f j else 0)=(if i=i then f i else 0):=sm_one (f:=fun j=>if j=i then f j else 0) hi fun j _ e=>by simp only[e,if_false]
 rw[b,if_pos rfl] at a
 exact a
theorem sm_ext{n m:Nat}(h:n<=m){f:Nat->Rat}(z:∀i,n<=i->i<m->f i=0):sm m f=sm n f:=by
 induction m with
 |zero=>
   have:n=0:=by omega
   subst this;rfl
 |succ m ih=>
  by_cases e:n=m+1
  ·subst e;rfl
  ·simp only[sm]
   rw[ih (by omega) fun i a b=>z i a (by omega),z m (by omega) (by omega)];grind
def G(A:Nat->Nat->Rat):Nat->Nat->Nat->Rat
 |0=>A
 |k+1=>fun i j=>if i=k then G A k k j/G A k k k else G A k i j-G A k i k*(G A k k j/G A k k k)
section
variable{A:Nat->Nat->Rat}{n:Nat}
theorem G_unit(hp:∀k,k<n->G A k k k≠0):∀k,k<=n->∀i m,m<k->G A k i m=if i=m then 1 else 0
 |0,_,i,m,h=>absurd h (Nat.not_lt_zero _)
 |k+1,hk,i,m,h=>by
  have p:=hp k hk
  have I:=G_unit hp k (Nat.le_of_lt hk)
  simp only[G]
  by_cases e:m=k
  ·subst e
   by_cases e2:i=m
   ·simp only[e2,if_true];grind
   ·simp only[e2,if_false];grind
  ·have hm:m<k:=by omega
   have z:=I k m hm
   rw[if_neg (by omega)] at z
   rw[z,I i m hm]
   by_cases e2:i=k
   ·subst e2;simp only[if_true]
    rw[if_neg (by omega)];grind
   ·simp only[e2,if_false];grind
theorem Gb(hp:∀k,k<n->G A k k k≠0):∀k,k<=n->∀i j,A i j=sm k (fun m=>A i m*G A k m j)+(if k<=i then G A k i j else 0)
 |0,_,i,j=>by simp only[sm,G,Nat.zero_le,if_true];grind
 |k+1,hk,i,j=>by
  have p:=hp k hk
  have I:=Gb hp k (Nat.le_of_lt hk) i
  have Ij:=I j
  have Ik:=I k
  have e1:sm k (fun m=>A i m*G A (k+1) m j)=sm k (fun m=>A i m*G A k m j)-(G A k k j/G A k k k)*sm k (fun m=>A i m*G A k m k):=by
   rw[<-sm_sub]
   refine sc10 fun m hm=>?_
   simp only[G,show m≠k from Nat.ne_of_lt hm,if_false]
   grind
  simp only[sm]
  rw[e1]
  have e2:G A (k+1) k j=G A k k j/G A k k k:=by simp[G]
  rw[e2]
  by_cases h:k+1<=i
  ·have h2:k<=i:=by omega
   simp only[h,h2,if_true] at Ij Ik ⊢
   have e3:G A (k+1) i j=G A k i j-G A k i k*(G A k k j/G A k k k):=by simp[G,show i≠k by omega]
   rw[e3]
   generalize G A k k j/G A k k k=x at *
   grind
  ·simp only[h,if_false]
   by_cases h2:k<=i
   ·have:i=k:=by omega
    subst this
    simp only[Nat.le_refl,if_true] at Ij Ik
    have:G A i i i*(G A i i j/G A i i i)=G A i i j:=by grind
    generalize G A i i j/G A i i i=x at *
    grind
   ·simp only[h2,if_false] at Ij Ik
    generalize G A k k j/G A k k k=x at *
    grind
structure Dom(A:Nat->Nat->Rat)(n:Nat)(u:Nat->Rat):Prop where
 off:∀i j,i<n->j<n->j≠i->A i j<=0
 pos:∀i,i<n->0<u i
 sum:∀i,i<n->0<sm n (fun j=>A i j*u j)
theorem dom_diag{u:Nat->Rat}{k:Nat}{B:Nat->Rat}(hk:k<n)(pos:∀i,i<n->0<u i)(off:∀j,j<n->j≠k->B j<=0)(s:0<sm n (fun j=>B j*u j)):0<B k:=by
 have a:sm n (fun j=>B j*u j)<=B k*u k:=sm_le_one (f:=fun j=>B j*u j) hk fun j hj e=>by
  have b:=off j hj e
  have c:=pos j hj
  have:0<=(-B j)*u j:=Rat.mul_nonneg (by grind) (by grind)
  grind
 have b:0<B k*u k:=by grind
 have c:=pos k hk
 by_cases h:0<B k
 ·exact h
 ·have:0<=(-B k)*u k:=Rat.mul_nonneg (by grind) (by grind)
  grind
theorem G_dom{u:Nat->Rat}(D:Dom A n u):∀k,k<=n->(∀m,m<k->0<G A m m m)/\(∀i,k<=i->i<n->(∀j,j<n->j≠i->G A k i j<=0)/\0<sm n (fun j=>G A k i j*u j))
 |0,_=>⟨fun _ h=>absurd h (Nat.not_lt_zero _),fun i _ hi=>⟨fun j hj e=>D.off i j hi hj e,D.sum i hi⟩⟩
 |k+1,hk=>by
  obtain⟨P,Q⟩:=G_dom D k (Nat.le_of_lt hk)
  obtain⟨qo,qs⟩:=Q k (Nat.le_refl k) hk
  have pk:0<G A k k k:=dom_diag (u:=u) hk D.pos qo qs
  refine⟨fun m hm=>?_,fun i hi hin=>?_⟩
  ·by_cases e:m=k
   ·subst e;exact pk
   ·exact P m (by omega)
  ·obtain⟨ro,rs⟩:=Q i (by omega) hin
   have f:=ro k hk (by omega)
   have x:0<=(-G A k i k)/G A k k k:=by
    rw[Rat.div_def]
    exact Rat.mul_nonneg (by grind) (Rat.le_of_lt (Rat.inv_pos.mpr pk))
   have step:∀j,G A (k+1) i j=G A k i j+((-G A k i k)/G A k k k)*G A k k j:=fun j=>by
    simp only[G,show i≠k by omega,if_false];grind
   refine⟨fun j hj e=>?_,?_⟩
   ·rw[step j]
    by_cases ej:j=k
    ·subst ej;grind
    ·have a:=ro j hj e
     have b:=qo j hj ej
     have:0<=((-G A k i k)/G A k k k)*(-G A k k j):=Rat.mul_nonneg x (by grind)
     grind
   ·have e:sm n (fun j=>G A (k+1) i j*u j)=sm n (fun j=>G A k i j*u j)+((-G A k i k)/G A k k k)*sm n (fun j=>G A k k j*u j):=by
     rw[<-sm_mul,<-sm_add]
     refine sc10 fun j _=>?_
     rw[step j];grind
    rw[e]
    have:0<=((-G A k i k)/G A k k k)*sm n (fun j=>G A k k j*u j):=Rat.mul_nonneg x (by grind)
    grind
end
theorem Dom.mono{A:Nat->Nat->Rat}{n:Nat}{u:Nat->Rat}(D:Dom A n u){x:Nat->Rat}(h:∀i,i<n->0<=sm n (fun j=>A i j*x j)):∀i,i<n->0<=x i:=by
 have least:∀m,m<=n->0<m->∃i,i<m/\∀j,j<m->x i*u j<=x j*u i:=by
  intro m
  induction m with
  |zero=>intro _ h;omega
  |succ m ih=>
   intro hm _
   by_cases e:m=0
   ·subst e;exact⟨0,by omega,fun j hj=>by
     have:j=0:=by omega
     subst this;exact Rat.le_refl⟩
   ·obtain⟨i,hi,hl⟩:=ih (by omega) (by omega)
    have ui:=D.pos i (by omega)
    have um:=D.pos m (by omega)
    by_cases c:x i*u m<=x m*u i
    ·refine⟨i,by omega,fun j hj=>?_⟩
     by_cases ej:j=m
     ·subst ej;exact c
     ·exact hl j (by omega)
    ·refine⟨m,by omega,fun j hj=>?_⟩
     by_cases ej:j=m
     ·subst ej;exact Rat.le_refl
     ·have a:=hl j (by omega)
      have uj:=D.pos j (by omega)
      have b:x m*u i*u j<=x i*u m*u j:=Rat.mul_le_mul_of_nonneg_right (by grind) (by grind)
      have d:x i*u j*u m<=x j*u i*u m:=Rat.mul_le_mul_of_nonneg_right a (by grind)
      have f:(x m*u j)*u i<=(x j*u m)*u i:=by grind
      exact Rat.le_of_mul_le_mul_right f ui
 intro i hi
 obtain⟨l,hl,low⟩:=least n (Nat.le_refl n) (by omega)
 have ul:=D.pos l hl
 have key:0<=x l:=by
  by_cases c:0<=x l
  ·exact c
  ·exfalso
   have a:=h l hl
   have s:=D.sum l hl
   have b:sm n (fun j=>u l*(A l j*x j))<=sm n (fun j=>x l*(A l j*u j)):=sm_le fun j hj=>by
    by_cases e:j=l
    ·subst e;grind
    ·have o:=D.off l j hl hj e
     have q:=low j hj
     have:0<=(-A l j)*(x j*u l-x l*u j):=Rat.mul_nonneg (by grind) (by grind)
     grind
   rw[sm_mul,sm_mul] at b
   have t1:0<=u l*sm n (fun j=>A l j*x j):=Rat.mul_nonneg (by grind) a
   have t2:0<(-x l)*sm n (fun j=>A l j*u j):=Rat.mul_pos (by grind) s
   grind
 have ui:=D.pos i hi
 have:=low i hi
 have t:0<=x l*u i:=Rat.mul_nonneg key (by grind)
 have t2:0<=x i*u l:=by grind
 by_cases c:0<=x i
 ·exact c
 ·have:0<(-x i)*u l:=Rat.mul_pos (by grind) ul
  grind
end La
end
noncomputable section
namespace La
def S(f:Nat->List Nat->Rat):List Nat->Rat
 |[]=>0
 |c::cs=>f c cs-S (fun d ds=>f d (c::ds)) cs
theorem Sc{f g:Nat->List Nat->Rat}(h:∀c cs,f c cs=g c cs)(C:List Nat):S f C=S g C:=by
 have:f=g:=funext fun c=>funext fun cs=>h c cs
 rw[this]
theorem S_add:∀(C:List Nat) (f g:Nat->List Nat->Rat),S (fun c cs=>f c cs+g c cs) C=S f C+S g C
 |[],f,g=>by simp only[S];grind
 |a::C,f,g=>by simp only[S];rw[S_add C];grind
theorem S_neg:∀(C:List Nat) (f:Nat->List Nat->Rat),S (fun c cs=>- f c cs) C = - S f C
 |[],f=>by simp only[S];grind
 |a::C,f=>by simp only[S];rw[S_neg C];grind
theorem S_zero:∀(C:List Nat) (f:Nat->List Nat->Rat),(∀c cs,f c cs=0)->S f C=0
 |[],f,h=>rfl
 |a::C,f,h=>by simp only[S];rw[h,S_zero C _ fun c cs=>h c _];grind
theorem S_two:∀(C:List Nat) (h:Nat->Nat->List Nat->Rat),(∀c d cs,h c d cs=h d c cs)->S (fun c C'=>S (h c) C') C=0
 |[],h,sym=>rfl
 |a::C,h,sym=>by
  have e:∀c C',S (h c) (a::C')=h c a C' + - S (fun d ds=>h c d (a::ds)) C':=fun c C'=>by simp only[S];grind
  have e2:S (fun c C'=>S (h c) (a::C')) C=S (fun c C'=>h c a C') C + - S (fun c C'=>S (fun d ds=>h c d (a::ds)) C') C:=by
   rw[Sc e,S_add,S_neg]
  show S (h a) C-S (fun c C'=>S (h c) (a::C')) C=0
  rw[e2,S_two C (fun c d ds=>h c d (a::ds)) fun c d cs=>sym c d _,Sc (f:=h a) (g:=fun c C'=>h c a C') fun c cs=>sym a c cs]
  grind
def D:List (Nat->Rat)->List Nat->Rat
 |[],_=>1
 |v::V,R=>S (fun r R'=>v r*D V R') R
theorem D_swap(v u:Nat->Rat)(V:List (Nat->Rat))(R:List Nat):D (v::u::V) R = - D (u::v::V) R:=by
 have z:=S_two R (fun c d cs=>(v c*u d+u c*v d)*D V cs) fun c d cs=>by grind
 have pull:∀(a b:Nat->Rat) c C',S (fun d cs=>a c*b d*D V cs) C'=a c*S (fun d cs=>b d*D V cs) C':=by
  intro a b c C'
  have:∀(k:Rat) (g:Nat->List Nat->Rat) (C:List Nat),S (fun d cs=>k*g d cs) C=k*S g C:=by
   intro k g C
   induction C generalizing g with
   |nil=>simp only[S];grind
   |cons x C ih=>simp only[S];rw[ih];grind
  rw[<-this]
  exact Sc (fun d cs=>by grind) C'
 have e:∀c C',S (fun d cs=>(v c*u d+u c*v d)*D V cs) C'=v c*S (fun d cs=>u d*D V cs) C'+u c*S (fun d cs=>v d*D V cs) C':=fun c C'=>by
  rw[<-pull v u,<-pull u v,<-S_add]
  exact Sc (fun d cs=>by grind) C'
 rw[Sc e,S_add] at z
 show S _ R = - S _ R
 simp only[D] at z ⊢
 grind
theorem D_rep(v:Nat->Rat):∀(V₁ V₂:List (Nat->Rat)) (R:List Nat),D (v::(V₁++v::V₂)) R=0
 |[],V₂,R=>by have:=D_swap v v V₂ R;rw[List.nil_append];grind
 |u::V₁,V₂,R=>by
  rw[List.cons_append,D_swap]
  have:D (u::v::(V₁++v::V₂)) R=0:=S_zero _ _ fun c cs=>by rw[D_rep v V₁ V₂];grind
  grind
theorem D_move(v:Nat->Rat):∀(V₁ V₂:List (Nat->Rat)),∃σ:Rat,(σ = 1\/σ = -1)/\∀R,D (v::(V₁++V₂)) R = σ*D (V₁++v::V₂) R
 |[],V₂=>⟨1,.inl rfl,fun R=>by rw[List.nil_append,List.nil_append];grind⟩
 |u::V₁,V₂=>by
  obtain⟨σ,hs,h⟩:=D_move v V₁ V₂
  refine⟨-σ,by rcases hs with rfl | rfl<;>grind,fun R=>?_⟩
  rw[List.cons_append,D_swap]
  have e:D (u::v::(V₁++V₂)) R=S (fun r R'=>(σ*(u r*D (V₁++v::V₂) R'))) R:=Sc (fun c cs=>by rw[h];grind) R
  have e2:S (fun r R'=>(σ*(u r*D (V₁++v::V₂) R'))) R = σ*D (u::(V₁++v::V₂)) R:=by
   rcases hs with rfl | rfl
   ·rw[Sc (g:=fun r R'=>u r*D (V₁++v::V₂) R') fun c cs=>by grind];simp only[D];grind
   ·rw[Sc (g:=fun r R'=>- (u r*D (V₁++v::V₂) R')) fun c cs=>by grind,S_neg];simp only[D];grind
  rw[e,e2,List.cons_append];grind
def IsZ(x:Rat):Prop:=∃z:Int,x=(z:Rat)
theorem IsZ.mul{x y:Rat}(a:IsZ x)(b:IsZ y):IsZ (x*y):=by
 obtain⟨p,rfl⟩:=a;obtain⟨q,rfl⟩:=b
 exact⟨p*q,by rw[Rat.intCast_mul]⟩
theorem IsZ.sub{x y:Rat}(a:IsZ x)(b:IsZ y):IsZ (x-y):=by
 obtain⟨p,rfl⟩:=a;obtain⟨q,rfl⟩:=b
 exact⟨p-q,by rw[Rat.intCast_sub]⟩
theorem IsZ.neg{x:Rat}(a:IsZ x):IsZ (-x):=by
 obtain⟨p,rfl⟩:=a
 exact⟨-p,by rw[Rat.intCast_neg]⟩
theorem S_whole:∀(C:List Nat) (f:Nat->List Nat->Rat),(∀c cs,IsZ (f c cs))->IsZ (S f C)
 |[],f,h=>⟨0,rfl⟩
 |a::C,f,h=>(h a C).sub (S_whole C _ fun c cs=>h c _)
theorem Dw:∀(V:List (Nat->Rat)) (R:List Nat),(∀v∈V,∀r,IsZ (v r))->IsZ (D V R)
 |[],R,h=>⟨1,rfl⟩
 |v::V,R,h=>S_whole R _ fun c cs=>(h v (by simp) c).mul (Dw V cs fun u hu=>h u (by simp[hu]))
theorem S_lin{k:Nat}:∀(R:List Nat),(∀r∈R,r<k)->∀F:Nat->List Nat->Rat,∃c:Nat->Rat,∀a:Nat->Rat,S (fun r R'=>a r*F r R') R=sm k (fun m=>a m*c m)
 |[],_,F=>⟨fun _=>0,fun a=>by simp only[S];rw[sm_zero fun i _=>by grind]⟩
 |r::R,h,F=>by
  obtain⟨c,hc⟩:=S_lin R (fun x hx=>h x (by simp[hx])) fun d ds=>F d (r::ds)
  refine⟨fun m=>(if m=r then F r R else 0)-c m,fun a=>?_⟩
  simp only[S]
  rw[hc]
  have e:sm k (fun m=>a m*((if m=r then F r R else 0)-c m))=sm k (fun m=>a m*(if m=r then F r R else 0))-1*sm k (fun m=>a m*c m):=by
   rw[<-sm_sub];exact sc10 fun m _=>by grind
  have e3:sm k (fun m=>a m*(if m=r then F r R else 0))=a r*(if r=r then F r R else 0):=sm_one (f:=fun m=>a m*(if m=r then F r R else 0)) (h r (by simp)) fun j _ hj=>by simp only[hj,if_false];grind
  rw[e,e3,if_pos rfl];grind
theorem sm_swap(n m:Nat)(f:Nat->Nat->Rat):sm n (fun i=>sm m (fun j=>f i j))=sm m (fun j=>sm n (fun i=>f i j)):=by
 induction n with
 |zero=>simp only[sm];rw[sm_zero fun _ _=>rfl]
 |succ n ih=>simp only[sm];rw[ih,<-sm_add]
def desc:Nat->List Nat
 |0=>[]
 |k+1=>k::desc k
theorem md:∀{k i:Nat},i∈desc k↔i<k
 |0,i=>by simp[desc]
 |k+1,i=>by simp only[desc,List.mem_cons,md];omega
def col(A:Nat->Nat->Rat)(j:Nat):Nat->Rat:=fun r=>A r j
def dd(A:Nat->Nat->Rat):Nat->Rat
 |0=>1
 |k+1=>dd A k*G A k k k
section
variable{A:Nat->Nat->Rat}{n:Nat}
theorem bf(hp:∀k,k<n->G A k k k≠0){k:Nat}(hk:k<=n)(c:Nat->Rat)(j:Nat):sm k (fun m=>A m j*c m)=sm k (fun l=>sm k (fun m=>A m l*c m)*G A k l j):=by
 have e:∀m,m<k->A m j*c m=sm k (fun l=>A m l*c m*G A k l j):=fun m hm=>by
  have b:=Gb hp k hk m j
  rw[if_neg (by omega)] at b
  have:sm k (fun l=>A m l*c m*G A k l j)=c m*sm k (fun l=>A m l*G A k l j):=by
   rw[<-sm_mul];exact sc10 fun l _=>by grind
  rw[this];grind
 rw[sc10 e,sm_swap]
 refine sc10 fun l _=>?_
 rw[show sm k (fun m=>A m l*c m)*G A k l j=G A k l j*sm k (fun m=>A m l*c m) by grind,<-sm_mul]
 exact sc10 fun m _=>by grind
theorem D_cols(hp:∀k,k<n->G A k k k≠0):∀k,k<=n->D ((desc k).map (col A)) (desc k)=dd A k/\∀i j,k<=i->D (col A j::(desc k).map (col A)) (i::desc k)=dd A k*G A k i j:=by
 intro k
 have two:∀k,k<=n->D ((desc k).map (col A)) (desc k)=dd A k->∀i j,k<=i->D (col A j::(desc k).map (col A)) (i::desc k)=dd A k*G A k i j:=by
  intro k hk one i j hi
  obtain⟨c,hc⟩:=S_lin (k:=k) (desc k) (fun r hr=>md.mp hr) fun r R'=>D ((desc k).map (col A)) (i::R')
  have y:∀l,D (col A l::(desc k).map (col A)) (i::desc k)=A i l*dd A k-sm k (fun m=>A m l*c m):=fun l=>by
   show S (fun r R'=>col A l r*D ((desc k).map (col A)) R') (i::desc k)=_
   simp only[S]
   rw[one]
   have:=hc (col A l)
   simp only[col] at this ⊢
   rw[this]
  have z:∀l,l<k->sm k (fun m=>A m l*c m)=A i l*dd A k:=fun l hl=>by
   obtain⟨s,t,e⟩:=List.append_of_mem (md.mpr hl)
   have q:=D_rep (col A l) (s.map (col A)) (t.map (col A)) (i::desc k)
   have e2:s.map (col A)++col A l::t.map (col A)=(desc k).map (col A):=by rw[e];simp
   rw[e2,y] at q
   grind
  rw[y,bf hp hk c j,sc10 (g:=fun l=>dd A k*(A i l*G A k l j)) fun l hl=>by rw[z l hl];grind,sm_mul]
  have b:=Gb hp k hk i j
  rw[if_pos hi] at b
  grind
 induction k with
 |zero=>exact fun hk=>⟨rfl,two 0 hk rfl⟩
 |succ k ih=>
  intro hk
  have h1:D ((desc (k+1)).map (col A)) (desc (k+1))=dd A (k+1):=(ih (by omega)).2 k k (Nat.le_refl k)
  exact⟨h1,two (k+1) hk h1⟩
theorem whole(hp:∀k,k<n->G A k k k≠0)(hz:∀i j,IsZ (A i j))(k:Nat)(hk:k<=n):IsZ (dd A k)/\∀i j,IsZ (dd A k*G A k i j):=by
 have colz:∀(l:List Nat),∀v∈l.map (col A),∀r,IsZ (v r):=fun l v hv r=>by
  obtain⟨j,_,rfl⟩:=List.mem_map.mp hv
  exact hz r j
 obtain⟨one,two⟩:=D_cols hp k hk
 have dz:IsZ (dd A k):=by rw[<-one];exact Dw _ _ (colz _)
 refine⟨dz,fun i j=>?_⟩
 by_cases hi:k<=i
 ·rw[<-two i j hi];exact Dw _ _ (colz (j::desc k))
 ·have hi:i<k:=by omega
  obtain⟨s,t,e⟩:=List.append_of_mem (md.mpr hi)
  obtain⟨c,hc⟩:=S_lin (k:=k) (desc k) (fun r hr=>md.mp hr) fun r R'=>D ((s++t).map (col A)) R'
  have y:∀l,D (col A l::(s++t).map (col A)) (desc k)=sm k (fun m=>A m l*c m):=fun l=>hc (col A l)
  obtain⟨σ,hs,mv⟩:=D_move (col A i) (s.map (col A)) (t.map (col A))
  have yi:sm k (fun m=>A m i*c m) = σ*dd A k:=by
   rw[<-y,List.map_append,mv,<-one,e]
   simp
  have y0:∀l,l<k->l≠i->sm k (fun m=>A m l*c m)=0:=fun l hl hne=>by
   rw[<-y]
   have hm:l∈s++t:=by
    have:=md.mpr hl
    rw[e] at this
    simp only[List.mem_append,List.mem_cons] at this ⊢
    rcases this with h | h | h
    ·exact .inl h
    ·exact absurd h hne
    ·exact .inr h
   obtain⟨a,b,e2⟩:=List.append_of_mem hm
   rw[e2,List.map_append,List.map_cons]
   exact D_rep _ _ _ _
  have yj:IsZ (D (col A j::(s++t).map (col A)) (desc k)):=Dw _ _ (colz (j::(s++t)))
  rw[y,bf hp hk c j,sm_one (i:=i) hi fun l hl hne=>by rw[y0 l hl hne];grind,yi] at yj
  rcases hs with rfl | rfl
  ·have:(1:Rat)*dd A k*G A k i j=dd A k*G A k i j:=by grind
   rwa [this] at yj
  ·have:dd A k*G A k i j = - (-1*dd A k*G A k i j):=by grind
   rw[this];exact yj.neg
theorem dd_pos(hp:∀k,k<n->0<G A k k k):∀k,k<=n->0<dd A k
 |0,_=>by simp only[dd];decide
 |k+1,h=>Rat.mul_pos (dd_pos hp k (Nat.le_of_lt h)) (hp k h)
theorem turn(hp:∀k,k<n->0<G A k k k){k:Nat}(hk:k<n)(i j:Nat):(dd A (k+1)*(dd A k*G A k i j)-(dd A k*G A k i k)*(dd A k*G A k k j))=dd A k*(if i=k then 0 else dd A (k+1)*G A (k+1) i j)/\dd A k*G A k k j=dd A (k+1)*G A (k+1) k j:=by
 have p:=hp k hk
 have d:=dd_pos hp k (Nat.le_of_lt hk)
 have e:G A k k k*(G A k k j/G A k k k)=G A k k j:=by grind
 constructor
 ·by_cases h:i=k
  ·subst h;simp only[if_true,dd];grind
  ·simp only[h,if_false,dd,G]
   generalize G A k k j/G A k k k=x at *
   grind
 ·simp only[dd,G,if_true];grind
end
end La
end
noncomputable section
namespace La
def wj:List (Nat×Rat)->Nat->Rat
 |[],_=>0
 |w::ws,j=>(if j=w.1 then w.2 else 0)+wj ws j
def wd:List (Nat×Rat)->(Nat->Rat)->Rat
 |[],_=>0
 |w::ws,x=>w.2*x w.1+wd ws x
theorem wd_sm{n:Nat}{x:Nat->Rat}:∀{ws:List (Nat×Rat)},(∀w∈ws,w.1<n)->sm n (fun j=>wj ws j*x j)=wd ws x
 |[],_=>sm_zero fun j _=>by simp only[wj];grind
 |w::ws,h=>by
  simp only[wd]
  rw[<-wd_sm (ws:=ws) fun u hu=>h u (by simp[hu])]
  have e:sm n (fun j=>wj (w::ws) j*x j)=sm n (fun j=>(if j=w.1 then w.2 else 0)*x j)+sm n (fun j=>wj ws j*x j):=by
   rw[<-sm_add];exact sc10 fun j _=>by simp only[wj];grind
  have e2:sm n (fun j=>(if j=w.1 then w.2 else 0)*x j)=(if w.1=w.1 then w.2 else 0)*x w.1:=sm_one (f:=fun j=>(if j=w.1 then w.2 else 0)*x j) (h w (by simp)) fun j _ hj=>by simp only[hj,if_false];grind
  rw[e,e2,if_pos rfl]
theorem wj_nonneg:∀{ws:List (Nat×Rat)},(∀w∈ws,0<=w.2)->∀j,0<=wj ws j
 |[],_,j=>by simp only[wj];exact Rat.le_refl
 |w::ws,h,j=>by
  have a:=wj_nonneg (ws:=ws) (fun u hu=>h u (by simp[hu])) j
  have b:=h w (by simp)
  simp only[wj]
  split<;>grind
theorem wd_mono{x y:Nat->Rat}{n:Nat}(h:∀i,i<n->x i<=y i):∀{ws:List (Nat×Rat)},(∀w∈ws,w.1<n)->(∀w∈ws,0<=w.2)->wd ws x<=wd ws y
 |[],_,_=>Rat.le_refl
 |w::ws,a,b=>by
  have i:=wd_mono h (ws:=ws) (fun u hu=>a u (by simp[hu])) fun u hu=>b u (by simp[hu])
  have c:=Rat.mul_le_mul_of_nonneg_left (h w.1 (a w (by simp))) (b w (by simp))
  simp only[wd];grind
theorem wd_sub{x y:Nat->Rat}:∀(ws:List (Nat×Rat)),wd ws (fun i=>x i-y i)=wd ws x-wd ws y
 |[]=>by simp only[wd];grind
 |w::ws=>by simp only[wd];rw[wd_sub ws];grind
structure Eqn where
 tot:Rat
 ways:List (Nat×Rat)
 rhs:Rat
def Eqn.lhs(r:Eqn)(s:Nat)(x:Nat->Rat):Rat:=r.tot*x s-wd r.ways x
def Eqn.am(r:Eqn)(s j:Nat):Rat:=(if j=s then r.tot else 0)-wj r.ways j
theorem Eqn.dot{n s:Nat}{r:Eqn}{x:Nat->Rat}(hs:s<n)(h:∀w∈r.ways,w.1<n):sm n (fun j=>r.am s j*x j)=r.lhs s x:=by
 have e:sm n (fun j=>r.am s j*x j)=sm n (fun j=>(if j=s then r.tot else 0)*x j)-1*sm n (fun j=>wj r.ways j*x j):=by
  rw[<-sm_sub];exact sc10 fun j _=>by simp only[Eqn.am];grind
 have e2:sm n (fun j=>(if j=s then r.tot else 0)*x j)=(if s=s then r.tot else 0)*x s:=sm_one (f:=fun j=>(if j=s then r.tot else 0)*x j) hs fun j _ hj=>by simp only[hj,if_false];grind
 rw[e,e2,if_pos rfl,wd_sm h]
 simp only[Eqn.lhs];grind
structure Keeps(R:Nat->Eqn)(n:Nat)(u:Nat->Rat):Prop where
 to:∀s,s<n->∀w∈(R s).ways,w.1<n
 nn:∀s,s<n->∀w∈(R s).ways,0<=w.2
 pos:∀s,s<n->0<u s
 sum:∀s,s<n->0<(R s).lhs s u
theorem Keeps.dom{R:Nat->Eqn}{n:Nat}{u:Nat->Rat}(K:Keeps R n u):Dom (fun s j=>(R s).am s j) n u where
 off:=fun i j hi hj e=>by
  have:=wj_nonneg (K.nn i hi) j
  simp only[Eqn.am,e,if_false];grind
 pos:=K.pos
 sum:=fun i hi=>by rw[Eqn.dot hi (K.to i hi)];exact K.sum i hi
theorem Keeps.up{R:Nat->Eqn}{n:Nat}{u:Nat->Rat}(K:Keeps R n u){x:Nat->Rat}(h:∀s,s<n->0<=(R s).lhs s x):∀s,s<n->0<=x s:=
 K.dom.mono fun i hi=>by rw[Eqn.dot hi (K.to i hi)];exact h i hi
theorem Eqn.lhs_sub(r:Eqn)(s:Nat)(x y:Nat->Rat):r.lhs s (fun i=>x i-y i)=r.lhs s x-r.lhs s y:=by
 simp only[Eqn.lhs];rw[wd_sub];grind
theorem Keeps.le{R:Nat->Eqn}{n:Nat}{u:Nat->Rat}(K:Keeps R n u){x y:Nat->Rat}(h:∀s,s<n->(R s).lhs s x<=(R s).lhs s y):∀s,s<n->x s<=y s:=fun s hs=>by
 have:=K.up (x:=fun i=>y i-x i) (fun s hs=>by rw[Eqn.lhs_sub];have:=h s hs;grind) s hs
 grind
theorem Keeps.tot_pos{R:Nat->Eqn}{n:Nat}{u:Nat->Rat}(K:Keeps R n u){s:Nat}(hs:s<n):0<(R s).tot:=by
 have a:=K.sum s hs
 have b:=K.pos s hs
 have c:0<=wd (R s).ways u:=by
  have:=wd_mono (x:=fun _=>0) (y:=u) (n:=n) (fun i hi=>Rat.le_of_lt (K.pos i hi)) (K.to s hs) (K.nn s hs)
  have z:∀ws:List (Nat×Rat),wd ws (fun _=>0)=0:=fun ws=>by
   induction ws with
   |nil=>rfl
   |cons w ws ih=>simp only[wd];rw[ih];grind
  rw[z] at this;exact this
 simp only[Eqn.lhs] at a
 by_cases h:0<(R s).tot
 ·exact h
 ·have:0<=(-(R s).tot)*u s:=Rat.mul_nonneg (by grind) (by grind)
  grind
theorem Keeps.better{R:Nat->Eqn}{n:Nat}{u:Nat->Rat}(K:Keeps R n u){x v:Nat->Rat}(hv:∀s,s<n->(R s).lhs s v=(R s).rhs)(hx:∀s,s<n->(R s).lhs s x<=(R s).rhs) :
  (∀s,s<n->x s<=v s)/\∀s,s<n->(R s).lhs s x<(R s).rhs->x s<v s:=by
 have le:=K.le (x:=x) (y:=v) fun s hs=>by rw[hv s hs];exact hx s hs
 refine⟨le,fun s hs h=>?_⟩
 have t:=K.tot_pos hs
 have m:=wd_mono le (K.to s hs) (K.nn s hs)
 have e:=hv s hs
 simp only[Eqn.lhs] at e h
 have:0<(R s).tot*(v s-x s):=by grind
 by_cases c:x s<v s
 ·exact c
 ·have:0<=(R s).tot*(x s-v s):=Rat.mul_nonneg (by grind) (by grind)
  grind
def iter{α:Type}(f:α->α):Nat->α->α
 |0,x=>x
 |k+1,x=>iter f k (f x)
theorem is11{α:Type}(f:α->α):∀(k:Nat) (x:α),iter f (k+1) x=f (iter f k x)
 |0,x=>rfl
 |k+1,x=>is11 f k (f x)
theorem iter_stops{α:Type}[DecidableEq α](f:α->α)(P:α->Prop)(lt:α->α->Prop)(L:List α)(x₀:α)(h₀:P x₀)(hP:∀x,P x->P (f x))(hL:∀x,P x->x∈L)
  (up:∀x,P x->f x≠x->lt x (f x)) (tr:∀x y z,P x->P y->P z->lt x y->lt y z->lt x z) (ir:∀x,P x->¬lt x x):∃k,k<=L.length/\f (iter f k x₀)=iter f k x₀:=by
 have Pi:∀k,P (iter f k x₀):=fun k=>by
  induction k with
  |zero=>exact h₀
  |succ k ih=>rw[is11];exact hP _ ih
 by_cases h:∃k,k<=L.length/\f (iter f k x₀)=iter f k x₀
 ·exact h
 ·exfalso
  have ne:∀k,k<=L.length->f (iter f k x₀)≠iter f k x₀:=fun k hk e=>h ⟨k,hk,e⟩
  have lt1:∀b a,a<b->b<=L.length+1->lt (iter f a x₀) (iter f b x₀):=by
   intro b
   induction b with
   |zero=>intro a h;omega
   |succ b ih=>
    intro a hab hb
    have s:=up _ (Pi b) (ne b (by omega))
    rw[<-is11 f] at s
    by_cases e:a=b
    ·subst e;exact s
    ·exact tr _ _ _ (Pi a) (Pi b) (Pi (b+1)) (ih a (by omega) (by omega)) s
  have nd:((List.range (L.length+1)).map fun k=>iter f k x₀).Nodup:=by
   rw[List.Nodup,List.pairwise_map]
   refine List.Pairwise.imp_of_mem ?_ (List.pairwise_lt_range (n:=L.length+1))
   intro a b ha hb hab e
   have:=lt1 b a hab (by have:=List.mem_range.mp hb;omega)
   rw[e] at this
   exact ir _ (Pi b) this
  have:=Rd.nl14 _ L nd fun x hx=>by
   obtain⟨k,_,rfl⟩:=List.mem_map.mp hx
   exact hL _ (Pi k)
  simp only[List.length_map,List.length_range] at this
  omega
def plans:List Nat->List (List Nat)
 |[]=>[[]]
 |b::bs=>(plans bs).flatMap fun r=>(List.range (max 1 b)).map fun i=>i::r
theorem mp11:∀{bs p:List Nat},p.length=bs.length->(∀s,s<bs.length->p.getD s 0<max 1 (bs.getD s 0))->p∈plans bs
 |[],[],_,_=>by simp[plans]
 |b::bs,i::p,hl,h=>by
  simp only[plans,List.mem_flatMap,List.mem_map,List.mem_range]
  exact⟨p,mp11 (by simpa using hl) fun s hs=>by have:=h (s+1) (by simp;omega);simpa using this,i,by have:=h 0 (by simp);simpa using this,rfl⟩
theorem plans_len:∀{bs:List Nat}{m:Nat},1<=m->(∀b∈bs,b<=m)->(plans bs).length<=m^bs.length
 |[],_,_,_=>by simp[plans]
 |b::bs,m,hm,h=>by
  have i:=plans_len (bs:=bs) hm fun x hx=>h x (by simp[hx])
  have hb:=h b (by simp)
  have e:(plans (b::bs)).length=(plans bs).length*max 1 b:=by
   simp only[plans,List.length_flatMap,List.length_map,List.length_range]
   generalize plans bs=l
   induction l with
   |nil=>simp
   |cons x l ih=>simp only[List.map_cons,List.sum_cons,List.length_cons,ih,Nat.succ_mul];omega
  rw[e,List.length_cons,Nat.pow_succ]
  exact Nat.mul_le_mul i (by omega)
end La
end
noncomputable section
namespace La
open Ra61
def clearedM(row prow:List Int)(t:Nat)(before:Int):List Int:=List.zipWith (fun x y=>(prow.getD t 0*x-row.getD t 0*y).fdiv before) row prow
def stepM(t:Nat)(st:List (List Int)×Int):List (List Int)×Int:=
 (st.1.zipIdx.map fun x=>if x.2=t then x.1 else clearedM x.1 (st.1.getD t []) t st.2,(st.1.getD t []).getD t 0)
def turnsM(rows:List (List Int)):Nat->List (List Int)×Int
 |0=>(rows,1)
 |k+1=>stepM k (turnsM rows k)
def ent(rows:List (List Int))(i j:Nat):Rat:=(((rows.getD i []).getD j 0:Int):Rat)
theorem ent_whole(rows:List (List Int))(i j:Nat):IsZ (ent rows i j):=⟨_,rfl⟩
theorem zip_getD{f:Int->Int->Int}{a b:List Int}{j:Nat}(ha:j<a.length)(hb:j<b.length):(List.zipWith f a b).getD j 0=f (a.getD j 0) (b.getD j 0):=by
 simp[List.getD_eq_getElem?_getD,List.getElem?_zipWith,List.getElem?_eq_getElem ha,List.getElem?_eq_getElem hb]
theorem exact_div{a b:Int}{y:Rat}(hb:(0:Rat)<(b:Rat))(hy:IsZ y)(h:((a:Int):Rat)=(b:Rat)*y):((a.fdiv b:Int):Rat)=y:=by
 obtain⟨z,rfl⟩:=hy
 have e:a=b*z:=by rw[<-Rat.intCast_mul] at h;exact Rat.intCast_inj.mp h
 have hb':b≠0:=fun q=>by rw[q] at hb;exact absurd hb (by decide)
 rw[e,Int.mul_fdiv_cancel_left _ hb']
theorem to10{rows:List (List Int)}{n:Nat}(hl:rows.length=n)(hw:∀r∈rows,r.length=n+1)(hp:∀k,k<n->0<G (ent rows) k k k) :
  ∀k,k<=n->(turnsM rows k).1.length=n/\(∀r∈(turnsM rows k).1,r.length=n+1)/\(((turnsM rows k).2:Int):Rat)=dd (ent rows) k/\∀i j,i<n->j<=n->ent (turnsM rows k).1 i j=dd (ent rows) k*G (ent rows) k i j
 |0,_=>⟨hl,hw,rfl,fun i j _ _=>by simp only[turnsM,dd,G];grind⟩
 |k+1,hk=>by
  obtain⟨a,b,c,d⟩:=to10 hl hw hp k (Nat.le_of_lt hk)
  have hp':∀k,k<n->G (ent rows) k k k≠0:=fun k hk=>by have:=hp k hk;grind
  have dk:=dd_pos hp k (Nat.le_of_lt hk)
  have lenR:∀i,i<n->((turnsM rows k).1.getD i []).length=n+1:=fun i hi=>by
   have:i<(turnsM rows k).1.length:=by omega
   rw[List.getD_eq_getElem?_getD,List.getElem?_eq_getElem this]
   exact b _ (List.getElem_mem this)
  have at1:∀i,i<n->(turnsM rows (k+1)).1.getD i []=if i=k then (turnsM rows k).1.getD i [] else clearedM ((turnsM rows k).1.getD i []) ((turnsM rows k).1.getD k []) k (turnsM rows k).2:=fun i hi=>by
   have h:i<(turnsM rows k).1.length:=by omega
   simp only[turnsM,stepM]
   simp[List.getD_eq_getElem?_getD,List.getElem?_zipIdx,List.getElem?_eq_getElem h]
  have piv:((((turnsM rows k).1.getD k []).getD k 0:Int):Rat)=dd (ent rows) (k+1):=by
   have:=d k k hk (Nat.le_of_lt hk)
   simp only[ent] at this
   rw[this];rfl
  refine⟨by simp only[turnsM,stepM];simp[a],fun r hr=>?_,piv,fun i j hi hj=>?_⟩
  ·obtain⟨i,hi,rfl⟩:=List.getElem_of_mem hr
   have hi':i<n:=by simp only[turnsM,stepM] at hi;simp[a] at hi;exact hi
   have e:=at1 i hi'
   rw[List.getD_eq_getElem?_getD,List.getElem?_eq_getElem hi] at e
   rw[show (turnsM rows (k+1)).1[i]=_ from e]
   split
   ·exact lenR i hi'
   ·simp only[clearedM,List.length_zipWith,lenR i hi',lenR k hk];omega
  ·have T:=turn hp hk i j
   simp only[ent]
   rw[at1 i hi]
   by_cases e:i=k
   ·subst e
    rw[if_pos rfl]
    have:=d i j hi hj
    simp only[ent] at this
    rw[this];exact T.2
   ·rw[if_neg e]
    simp only[clearedM]
    rw[zip_getD (by rw[lenR i hi];omega) (by rw[lenR k hk];omega)]
    have t1:=T.1
    rw[if_neg e] at t1
    refine exact_div (by rw[c];exact dk) ((whole hp' (ent_whole rows) (k+1) hk).2 i j) ?_
    rw[c,<-t1,Rat.intCast_sub,Rat.intCast_mul,Rat.intCast_mul,piv]
    have q1:=d i j hi hj
    have q2:=d i k hi (by omega)
    have q3:=d k j hk hj
    simp only[ent] at q1 q2 q3
    rw[q1,q2,q3]
def solveM(rows:List (List Int)):List Int×Int:=((turnsM rows rows.length).1.map fun r=>r.getD rows.length 0,(turnsM rows rows.length).2)
theorem solve_ok{rows:List (List Int)}{n:Nat}(hl:rows.length=n)(hw:∀r∈rows,r.length=n+1){u:Nat->Rat}(K:Dom (ent rows) n u) :
  (0:Rat)<((solveM rows).2:Rat)/\(solveM rows).1.length=n/\∀i,i<n->sm n (fun m=>ent rows i m*(((solveM rows).1.getD m 0:Int):Rat))=((solveM rows).2:Rat)*ent rows i n:=by
 have hp:=(G_dom K n (Nat.le_refl n)).1
 have hp':∀k,k<n->G (ent rows) k k k≠0:=fun k hk=>by have:=hp k hk;grind
 obtain⟨a,b,c,d⟩:=to10 hl hw hp n (Nat.le_refl n)
 subst hl
 refine⟨by show (0:Rat)<((turnsM rows rows.length).2:Rat);rw[c];exact dd_pos hp _ (Nat.le_refl _),by simp[solveM,a],fun i hi=>?_⟩
 have at1:∀m,m<rows.length->(((solveM rows).1.getD m 0:Int):Rat)=dd (ent rows) rows.length*G (ent rows) rows.length m rows.length:=fun m hm=>by
  have:=d m rows.length hm (Nat.le_refl _)
  rw[<-this]
  have hm':m<(turnsM rows rows.length).1.length:=by omega
  simp[solveM,ent,List.getD_eq_getElem?_getD,List.getElem?_eq_getElem hm']
 have bk:=Gb hp' rows.length (Nat.le_refl _) i rows.length
 rw[if_neg (by omega)] at bk
 rw[sc10 (g:=fun m=>dd (ent rows) rows.length*(ent rows i m*G (ent rows) rows.length m rows.length)) fun m hm=>by rw[at1 m hm];grind,sm_mul]
 show _=((turnsM rows rows.length).2:Rat)*_
 rw[c];grind
end La
end
noncomputable section
namespace La
open Ra61 Fq
def takeM(ws:List (Nat×Nat))(row:List Int):List Int:=ws.foldl (fun row w=>row.set w.1 (row.getD w.1 0-(w.2:Int))) row
def eqM(n place:Nat)(os:List Opt)(e:Int)(k:Nat):List Int:=
 if os.length=0 then ((List.replicate (n+1) (0:Int)).set place 1).set n e
 else (takeM (os.getD k none0).ways ((List.replicate (n+1) (0:Int)).set place (os.getD k none0).tot)).set n ((os.getD k none0).gain*(os.getD k none0).tot)
def castW(ws:List (Nat×Nat)):List (Nat×Rat):=ws.map fun w=>(w.1,(w.2:Rat))
def eqnO(o:Opt):Eqn:=⟨(o.tot:Rat),castW o.ways,((o.gain*o.tot:Int):Rat)⟩
def eqnOf(os:List Opt)(e:Int)(k:Nat):Eqn:=if os.length=0 then ⟨1,[],(e:Rat)⟩ else eqnO (os.getD k none0)
theorem gs10{row:List Int}{i j:Nat}{x:Int}(hi:i<row.length):(row.set i x).getD j 0=if j=i then x else row.getD j 0:=by
 by_cases e:j=i
 ·subst e;simp[List.getD_eq_getElem?_getD,List.getElem?_set,hi]
 ·rw[if_neg e];simp[List.getD_eq_getElem?_getD,List.getElem?_set,show i≠j from fun z=>e z.symm]
theorem tl11:∀(ws:List (Nat×Nat)) (row:List Int),(takeM ws row).length=row.length
 |[],row=>rfl
 |w::ws,row=>by show (takeM ws _).length=_;rw[tl11 ws];simp
theorem take_at:∀(ws:List (Nat×Nat)) (row:List Int),(∀w∈ws,w.1<row.length)->∀j,(((takeM ws row).getD j 0:Int):Rat)=((row.getD j 0:Int):Rat)-wj (castW ws) j
 |[],row,_,j=>by simp only[takeM,List.foldl_nil,castW,List.map_nil,wj];grind
 |w::ws,row,h,j=>by
  show (((takeM ws (row.set w.1 (row.getD w.1 0-(w.2:Int)))).getD j 0:Int):Rat)=_
  rw[take_at ws _ (fun u hu=>by rw[List.length_set];exact h u (by simp[hu])) j,gs10 (h w (by simp))]
  simp only[castW,List.map_cons,wj]
  by_cases e:j=w.1
  ·subst e
   simp only[if_true]
   rw[Rat.intCast_sub,Rat.intCast_natCast];grind
  ·simp only[e,if_false];grind
theorem eq_len(n place:Nat)(os:List Opt)(e:Int)(k:Nat):(eqM n place os e k).length=n+1:=by
 unfold eqM;split<;>simp[tl11]
theorem eq_at{n place:Nat}{os:List Opt}{e:Int}{k:Nat}(hp:place<n)(hw:∀w∈(os.getD k none0).ways,w.1<n) :
  (∀j,j<n->(((eqM n place os e k).getD j 0:Int):Rat)=(eqnOf os e k).am place j)/\(((eqM n place os e k).getD n 0:Int):Rat)=(eqnOf os e k).rhs:=by
 have rz:∀j,(List.replicate (n+1) (0:Int)).getD j 0=0:=fun j=>by
  rw[List.getD_eq_getElem?_getD,List.getElem?_replicate];split<;>rfl
 by_cases h:os.length=0
 ·simp only[eqM,eqnOf,h,if_true]
  constructor
  ·intro j hj
   rw[gs10 (by simp),if_neg (by omega),gs10 (by simp;omega),rz]
   simp only[Eqn.am,wj]
   split<;>simp<;>grind
  ·rw[gs10 (by simp),if_pos rfl]
 ·simp only[eqM,eqnOf,h,if_false]
  constructor
  ·intro j hj
   rw[gs10 (by rw[tl11];simp),if_neg (by omega),take_at _ _ (fun w hw'=>by simp;have:=hw w hw';omega),gs10 (by simp;omega),rz]
   simp only[Eqn.am,eqnO]
   split<;>simp
  ·rw[gs10 (by rw[tl11];simp),if_pos rfl];rfl
section
variable(opts:List (List Opt))(ends:List Int)(n:Nat)
def sysOf(plan:List Int)(s:Nat):Eqn:=eqnOf (opts.getD s []) (ends.getD s 0) (plan.getD s 0).toNat
def rowsM(plan:List Int):List (List Int):=(List.range n).map fun s=>eqM n s (opts.getD s []) (ends.getD s 0) (plan.getD s 0).toNat
def valM(plan:List Int):List Int×Int:=solveM (rowsM opts ends n plan)
def betterM(plan tops:List Int)(bot:Int):List Int:=(List.range n).map fun s=>if (opts.getD s []).length=0 then plan.getD s 0 else ((pick (opts.getD s []) tops bot (plan.getD s 0).toNat:Nat):Int)
def nextM(plan:List Int):List Int:=betterM opts n plan (valM opts ends n plan).1 (valM opts ends n plan).2
def ratOf(v:List Int×Int)(s:Nat):Rat:=((v.1.getD s 0:Int):Rat)/((v.2:Int):Rat)
end
structure Fits(opts:List (List Opt))(n:Nat)(plan:List Int):Prop where
 len:plan.length=n
 at_:∀s,s<n->(opts.getD s []).length≠0->0<=plan.getD s 0/\(plan.getD s 0).toNat<(opts.getD s []).length
theorem gm10{os:List Opt}{k:Nat}(h:k<os.length):os.getD k none0∈os:=by
 rw[List.getD_eq_getElem?_getD,List.getElem?_eq_getElem h];exact List.getElem_mem h
section
variable{opts:List (List Opt)}{ends:List Int}{n:Nat}{plan:List Int}
theorem ways_in(hw:∀os∈opts,∀o∈os,∀w∈o.ways,w.1<n)(F:Fits opts n plan):∀s,s<n->∀w∈((opts.getD s []).getD (plan.getD s 0).toNat none0).ways,w.1<n:=fun s hs w hw'=>by
 by_cases h:(opts.getD s []).length=0
 ·have:opts.getD s []=[]:=List.length_eq_zero_iff.mp h
  rw[this] at hw'
  simp[none0] at hw'
 ·have hk:=(F.at_ s hs h).2
  have hs':s<opts.length:=by
   by_cases q:s<opts.length
   ·exact q
   ·rw[List.getD_eq_getElem?_getD,List.getElem?_eq_none (by omega)] at h;exact absurd rfl h
  have m:opts.getD s []∈opts:=by rw[List.getD_eq_getElem?_getD,List.getElem?_eq_getElem hs'];exact List.getElem_mem hs'
  exact hw _ m _ (gm10 hk) w hw'
theorem row_at{i:Nat}(hi:i<n):(rowsM opts ends n plan).getD i []=eqM n i (opts.getD i []) (ends.getD i 0) (plan.getD i 0).toNat:=by
 simp[rowsM,List.getD_eq_getElem?_getD,List.getElem?_map,List.getElem?_range hi]
theorem row_len:(rowsM opts ends n plan).length=n/\∀r∈rowsM opts ends n plan,r.length=n+1:=
 ⟨by simp[rowsM],fun r hr=>by
  obtain⟨s,_,rfl⟩:=List.mem_map.mp hr
  exact eq_len _ _ _ _ _⟩
theorem row_ent(hw:∀os∈opts,∀o∈os,∀w∈o.ways,w.1<n)(F:Fits opts n plan){i j:Nat}(hi:i<n)(hj:j<n):ent (rowsM opts ends n plan) i j=(sysOf opts ends plan i).am i j:=by
 unfold ent
 rw[row_at hi];exact (eq_at hi (ways_in hw F i hi)).1 j hj
theorem val_dom(hw:∀os∈opts,∀o∈os,∀w∈o.ways,w.1<n)(F:Fits opts n plan){u:Nat->Rat}(K:Keeps (sysOf opts ends plan) n u):Dom (ent (rowsM opts ends n plan)) n u where
 off:=fun i j hi hj e=>by rw[row_ent hw F hi hj];exact K.dom.off i j hi hj e
 pos:=K.pos
 sum:=fun i hi=>by
  rw[sc10 (g:=fun j=>(sysOf opts ends plan i).am i j*u j) fun j hj=>by rw[row_ent hw F hi hj]]
  exact K.dom.sum i hi
end
theorem val_ok{opts:List (List Opt)}{ends:List Int}{n:Nat}{plan:List Int}(hw:∀os∈opts,∀o∈os,∀w∈o.ways,w.1<n)(F:Fits opts n plan){u:Nat->Rat}(K:Keeps (sysOf opts ends plan) n u) :
  0<(valM opts ends n plan).2/\(valM opts ends n plan).1.length=n/\∀s,s<n->(sysOf opts ends plan s).lhs s (ratOf (valM opts ends n plan))=(sysOf opts ends plan s).rhs:=by
 obtain⟨a,b,c⟩:=solve_ok row_len.1 row_len.2 (val_dom hw F K)
 have pos:0<(valM opts ends n plan).2:=by
  have:((0:Int):Rat)<((solveM (rowsM opts ends n plan)).2:Rat):=a
  exact Rat.intCast_lt_intCast.mp this
 refine⟨pos,b,fun s hs=>?_⟩
 have c':=c s hs
 unfold ent at c'
 rw[row_at hs,(eq_at hs (ways_in hw F s hs)).2,sc10 (g:=fun m=>(sysOf opts ends plan s).am s m*(((solveM (rowsM opts ends n plan)).1.getD m 0:Int):Rat)) fun m hm=>by have:=row_ent (ends:=ends) hw F hs hm;unfold ent at this;rw[row_at hs] at this;rw[this],Eqn.dot hs (K.to s hs)] at c'
 have sc:∀(r:Eqn) (x:Nat->Rat) (k:Rat),r.lhs s (fun t=>x t/k)=r.lhs s x/k:=fun r x k=>by
  have wdk:∀ws:List (Nat×Rat),wd ws (fun t=>x t/k)=wd ws x/k:=fun ws=>by
   induction ws with
   |nil=>simp only[wd];grind
   |cons w ws ih=>simp only[wd];rw[ih];grind
  simp only[Eqn.lhs];rw[wdk];grind
 show (sysOf opts ends plan s).lhs s (fun t=>(((solveM (rowsM opts ends n plan)).1.getD t 0:Int):Rat)/((solveM (rowsM opts ends n plan)).2:Rat))=_
 rw[sc,c']
 show _*(sysOf opts ends plan s).rhs/_=_
 grind
end La
end
noncomputable section
namespace La
open Ra61 Fq
theorem olt_trans{o p q:Opt}{tops:List Int}{bot:Int}(ho:0<o.tot)(hp:0<p.tot)(hq:0<q.tot)(h:o.top tops bot*p.tot<p.top tops bot*o.tot)(k:OLe p q tops bot):o.top tops bot*q.tot<q.top tops bot*o.tot:=by
 unfold OLe at k
 have h1:=Int.mul_lt_mul_of_pos_right h hq
 have h2:=Int.mul_le_mul_of_nonneg_right k (Int.le_of_lt ho)
 generalize o.top tops bot=a at *
 generalize p.top tops bot=b at *
 generalize q.top tops bot=c at *
 have e1:a*p.tot*q.tot=a*q.tot*p.tot:=by grind
 have e2:b*o.tot*q.tot=b*q.tot*o.tot:=by grind
 have e3:c*p.tot*o.tot=c*o.tot*p.tot:=by grind
 have e:a*q.tot*p.tot<c*o.tot*p.tot:=by omega
 exact Int.lt_of_mul_lt_mul_right e (Int.le_of_lt hp)
theorem psg{os:List Opt}{tops:List Int}{bot:Int}(ht:∀o∈os,0<o.tot):∀(r:List Opt) (i b:Nat),os.drop i=r->b<os.length ->
  pickFrom os tops bot i r b=b\/(os.getD b none0).top tops bot*(os.getD (pickFrom os tops bot i r b) none0).tot<(os.getD (pickFrom os tops bot i r b) none0).top tops bot*(os.getD b none0).tot
 |[],i,b,_,hb=>.inl rfl
 |o::r,i,b,hd,hb=>by
  have hil:i<os.length:=by
   have:=congrArg List.length hd
   rw[List.length_drop] at this
   simp at this;omega
  have hoi:os[i]=o:=by
   rw[List.drop_eq_getElem_cons hil] at hd
   exact (List.cons.inj hd).1
  have hdr:os.drop (i+1)=r:=by
   rw[List.drop_eq_getElem_cons hil] at hd
   exact (List.cons.inj hd).2
  have gD:∀{j:Nat} (hj:j<os.length),os.getD j none0=os[j]:=fun hj=>by rw[List.getD_eq_getElem?_getD,List.getElem?_eq_getElem hj];rfl
  have tD:∀{j:Nat} (hj:j<os.length),0<(os.getD j none0).tot:=fun hj=>by rw[gD hj];exact ht _ (List.getElem_mem hj)
  have un:pickFrom os tops bot i (o::r) b=pickFrom os tops bot (i+1) r (if o.better (os.getD b none0) tops bot=true then i else b):=rfl
  rw[un]
  by_cases q:o.better (os.getD b none0) tops bot=true
  ·rw[if_pos q]
   obtain⟨i1,i2,i3⟩:=pick_go ht r (i+1) i hdr hil
   unfold Opt.better at q
   rw[decide_eq_true_eq] at q
   exact .inr (olt_trans (tD hb) (tD hil) (tD i1) (by rw[gD hil,hoi];exact q) i2)
  ·rw[if_neg q]
   exact psg ht r (i+1) b hdr hb
theorem ahead_rat{tops:List Int}{bot:Int}(hb:0<bot):∀ws:List (Nat×Nat),((ahead ws tops:Int):Rat)=(bot:Rat)*wd (castW ws) (ratOf (tops,bot))
 |[]=>by show ((0:Int):Rat)=_;simp only[castW,List.map_nil,wd];grind
 |w::ws=>by
  have i:=ahead_rat (tops:=tops) hb ws
  have e:ahead (w::ws) tops=(w.2:Int)*tops.getD w.1 0+ahead ws tops:=by simp[ahead]
  rw[e,Rat.intCast_add,Rat.intCast_mul,i]
  have hb':(bot:Rat)≠0:=fun z=>by
   have:((bot:Int):Rat)=((0:Int):Rat):=z
   rw[Rat.intCast_inj] at this;omega
  simp only[castW,List.map_cons,wd,ratOf,Rat.intCast_natCast]
  grind
def bel(o:Opt)(v:Nat->Rat):Rat:=(eqnO o).rhs+wd (castW o.ways) v
theorem top_rat{o:Opt}{tops:List Int}{bot:Int}(hb:0<bot):((o.top tops bot:Int):Rat)=(bot:Rat)*bel o (ratOf (tops,bot)):=by
 unfold Opt.top bel
 rw[Rat.intCast_add,ahead_rat hb,Rat.intCast_mul]
 simp only[eqnO];grind
theorem rp11{z:Int}(h:0<z):(0:Rat)<(z:Rat):=by
 have:((0:Int):Rat)<(z:Rat):=Rat.intCast_lt_intCast.mpr h
 exact this
theorem cmp_rat{o p:Opt}{tops:List Int}{bot:Int}(hb:0<bot):(o.top tops bot*p.tot<p.top tops bot*o.tot↔bel o (ratOf (tops,bot))*(p.tot:Rat)<bel p (ratOf (tops,bot))*(o.tot:Rat)) /\
  (OLe o p tops bot↔bel o (ratOf (tops,bot))*(p.tot:Rat)<=bel p (ratOf (tops,bot))*(o.tot:Rat)):=by
 have hb':=rp11 hb
 have e1:((o.top tops bot*p.tot:Int):Rat)=(bot:Rat)*(bel o (ratOf (tops,bot))*(p.tot:Rat)):=by rw[Rat.intCast_mul,top_rat hb];grind
 have e2:((p.top tops bot*o.tot:Int):Rat)=(bot:Rat)*(bel p (ratOf (tops,bot))*(o.tot:Rat)):=by rw[Rat.intCast_mul,top_rat hb];grind
 constructor
 ·rw[<-Rat.intCast_lt_intCast,e1,e2]
  exact⟨fun h=>Rat.lt_of_mul_lt_mul_left h (Rat.le_of_lt hb'),fun h=>Rat.mul_lt_mul_of_pos_left h hb'⟩
 ·unfold OLe
  rw[<-Rat.intCast_le_intCast,e1,e2]
  exact⟨fun h=>Rat.le_of_mul_le_mul_left h hb',fun h=>Rat.mul_le_mul_of_nonneg_left h (Rat.le_of_lt hb')⟩
section
variable{opts:List (List Opt)}{ends:List Int}{n:Nat}
theorem opts_mem{s:Nat}(h:(opts.getD s []).length≠0):opts.getD s []∈opts:=by
 have hs':s<opts.length:=by
  by_cases q:s<opts.length
  ·exact q
  ·rw[List.getD_eq_getElem?_getD,List.getElem?_eq_none (by omega)] at h;exact absurd rfl h
 rw[List.getD_eq_getElem?_getD,List.getElem?_eq_getElem hs'];exact List.getElem_mem hs'
theorem na{plan:List Int}{s:Nat}(hs:s<n):(nextM opts ends n plan).getD s 0=if (opts.getD s []).length=0 then plan.getD s 0 else ((pick (opts.getD s []) (valM opts ends n plan).1 (valM opts ends n plan).2 (plan.getD s 0).toNat:Nat):Int):=by
 simp[nextM,betterM,List.getD_eq_getElem?_getD,List.getElem?_map,List.getElem?_range hs]
theorem next_fits(ht:∀os∈opts,∀o∈os,0<o.tot){plan:List Int}(F:Fits opts n plan):Fits opts n (nextM opts ends n plan) where
 len:=by simp[nextM,betterM]
 at_:=fun s hs h=>by
  rw[na hs,if_neg h]
  exact⟨by omega,by rw[Int.toNat_natCast];exact (pick_max (ht _ (opts_mem h)) (F.at_ s hs h).2).1⟩
theorem nr(hw:∀os∈opts,∀o∈os,∀w∈o.ways,w.1<n)(ht:∀os∈opts,∀o∈os,0<o.tot){plan:List Int}(F:Fits opts n plan){u:Nat->Rat}(K:Keeps (sysOf opts ends plan) n u)(s:Nat)(hs:s<n) :
  (sysOf opts ends (nextM opts ends n plan) s).lhs s (ratOf (valM opts ends n plan))<=(sysOf opts ends (nextM opts ends n plan) s).rhs /\
  ((nextM opts ends n plan).getD s 0≠plan.getD s 0->(sysOf opts ends (nextM opts ends n plan) s).lhs s (ratOf (valM opts ends n plan))<(sysOf opts ends (nextM opts ends n plan) s).rhs):=by
 obtain⟨hb,hl,hv⟩:=val_ok hw F K
 have v:=hv s hs
 by_cases h:(opts.getD s []).length=0
 ·have e:(nextM opts ends n plan).getD s 0=plan.getD s 0:=by rw[na hs,if_pos h]
  have e2:sysOf opts ends (nextM opts ends n plan) s=sysOf opts ends plan s:=by simp only[sysOf];rw[e]
  rw[e2,v]
  exact⟨Rat.le_refl,fun q=>absurd e q⟩
 ·have fit:=F.at_ s hs h
  have m:=opts_mem h
  have nx:=na (opts:=opts) (ends:=ends) (n:=n) (plan:=plan) hs
  rw[if_neg h] at nx
  obtain⟨p1,p2⟩:=pick_max (tops:=(valM opts ends n plan).1) (bot:=(valM opts ends n plan).2) (ht _ m) fit.2
  have st:=psg (tops:=(valM opts ends n plan).1) (bot:=(valM opts ends n plan).2) (ht _ m) (opts.getD s []) 0 (plan.getD s 0).toNat rfl fit.2
  generalize hk:pick (opts.getD s []) (valM opts ends n plan).1 (valM opts ends n plan).2 (plan.getD s 0).toNat=k at *
  have hk':pickFrom (opts.getD s []) (valM opts ends n plan).1 (valM opts ends n plan).2 0 (opts.getD s []) (plan.getD s 0).toNat=k:=hk
  rw[hk'] at st
  have cur:=ht _ m _ (gm10 fit.2)
  have new:=ht _ m _ (gm10 p1)
  have sy:sysOf opts ends plan s=eqnO ((opts.getD s []).getD (plan.getD s 0).toNat none0):=by simp only[sysOf,eqnOf,h,if_false]
  have sy':sysOf opts ends (nextM opts ends n plan) s=eqnO ((opts.getD s []).getD k none0):=by simp only[sysOf,eqnOf,h,if_false];rw[nx,Int.toNat_natCast]
  rw[sy] at v
  rw[sy',nx]
  generalize hc:(opts.getD s []).getD (plan.getD s 0).toNat none0=c at *
  generalize hd:(opts.getD s []).getD k none0=d at *
  have le:=(cmp_rat hb).2.mp (p2 c (by rw[<-hc];exact gm10 fit.2))
  have cq:=rp11 cur
  have dq:=rp11 new
  have vv:ratOf ((valM opts ends n plan).1,(valM opts ends n plan).2)=ratOf (valM opts ends n plan):=rfl
  rw[vv] at le
  have bc:bel c (ratOf (valM opts ends n plan))=(c.tot:Rat)*ratOf (valM opts ends n plan) s:=by
   unfold bel;simp only[Eqn.lhs,eqnO] at v;simp only[eqnO];grind
  have bd:(eqnO d).lhs s (ratOf (valM opts ends n plan))=(d.tot:Rat)*ratOf (valM opts ends n plan) s-bel d (ratOf (valM opts ends n plan))+(eqnO d).rhs:=by
   unfold bel;simp only[Eqn.lhs,eqnO];grind
  constructor
  ·rw[bd]
   have:(c.tot:Rat)*((d.tot:Rat)*ratOf (valM opts ends n plan) s)<=(c.tot:Rat)*bel d (ratOf (valM opts ends n plan)):=by rw[bc] at le;grind
   have:=Rat.le_of_mul_le_mul_left this cq
   grind
  ·intro q
   have ne:k≠(plan.getD s 0).toNat:=fun z=>q (by rw[z];omega)
   have lt:=(cmp_rat hb).1.mp (st.resolve_left ne)
   rw[vv,bc] at lt
   rw[bd]
   have:(c.tot:Rat)*((d.tot:Rat)*ratOf (valM opts ends n plan) s)<(c.tot:Rat)*bel d (ratOf (valM opts ends n plan)):=by grind
   have:=Rat.lt_of_mul_lt_mul_left this (Rat.le_of_lt cq)
   grind
theorem fixed_opt(hw:∀os∈opts,∀o∈os,∀w∈o.ways,w.1<n)(ht:∀os∈opts,∀o∈os,0<o.tot){plan:List Int}(F:Fits opts n plan){u:Nat->Rat}(K:Keeps (sysOf opts ends plan) n u)(e:nextM opts ends n plan=plan)(s:Nat)(hs:s<n) :
  ∀o∈opts.getD s [],bel o (ratOf (valM opts ends n plan))<=(o.tot:Rat)*ratOf (valM opts ends n plan) s:=by
 intro o ho
 obtain⟨hb,hl,hv⟩:=val_ok hw F K
 have v:=hv s hs
 have h:(opts.getD s []).length≠0:=fun z=>by rw[List.length_eq_zero_iff.mp z] at ho;cases ho
 have fit:=F.at_ s hs h
 have m:=opts_mem h
 have nx:=na (opts:=opts) (ends:=ends) (n:=n) (plan:=plan) hs
 rw[if_neg h,e] at nx
 obtain⟨p1,p2⟩:=pick_max (tops:=(valM opts ends n plan).1) (bot:=(valM opts ends n plan).2) (ht _ m) fit.2
 have nx':(plan.getD s 0).toNat=pick (opts.getD s []) (valM opts ends n plan).1 (valM opts ends n plan).2 (plan.getD s 0).toNat:=by omega
 have le:=p2 o ho
 rw[<-nx'] at le
 have sy:sysOf opts ends plan s=eqnO ((opts.getD s []).getD (plan.getD s 0).toNat none0):=by simp only[sysOf,eqnOf,h,if_false]
 rw[sy] at v
 have cq:=rp11 (ht _ m _ (gm10 fit.2))
 generalize hc:(opts.getD s []).getD (plan.getD s 0).toNat none0=c at *
 have le:=(cmp_rat hb).2.mp le
 have bc:bel c (ratOf (valM opts ends n plan))=(c.tot:Rat)*ratOf (valM opts ends n plan) s:=by
  unfold bel;simp only[Eqn.lhs,eqnO] at v;simp only[eqnO];grind
 have le':bel o (ratOf (valM opts ends n plan))*(c.tot:Rat)<=bel c (ratOf (valM opts ends n plan))*(o.tot:Rat):=le
 rw[bc] at le'
 have:(c.tot:Rat)*bel o (ratOf (valM opts ends n plan))<=(c.tot:Rat)*((o.tot:Rat)*ratOf (valM opts ends n plan) s):=by grind
 exact Rat.le_of_mul_le_mul_left this cq
theorem great_stops(hw:∀os∈opts,∀o∈os,∀w∈o.ways,w.1<n)(ht:∀os∈opts,∀o∈os,0<o.tot){π₀:List Int}(P:List Int->Prop)(h₀:P π₀)(hF:∀π,P π->Fits opts n π)(hE:∀π,P π->∀s,s<n->(opts.getD s []).length=0->π.getD s 0 = π₀.getD s 0)
  (hK:∀π,P π->∃u,Keeps (sysOf opts ends π) n u) (hN:∀π,P π->P (nextM opts ends n π)) :
  ∃k,nextM opts ends n (iter (nextM opts ends n) k π₀)=iter (nextM opts ends n) k π₀/\P (iter (nextM opts ends n) k π₀):=by
 let V:=fun π=>ratOf (valM opts ends n π)
 have Pi:∀k,P (iter (nextM opts ends n) k π₀):=fun k=>by
  induction k with
  |zero=>exact h₀
  |succ k ih=>rw[is11];exact hN _ ih
 obtain⟨k,_,e⟩:=iter_stops (nextM opts ends n) P (fun a b=>(∀s,s<n->V a s<=V b s)/\∃s,s<n/\V a s<V b s)
  ((plans ((List.range n).map fun s=>(opts.getD s []).length)).map fun p=>(List.range n).map fun s=>if (opts.getD s []).length=0 then π₀.getD s 0 else ((p.getD s 0:Nat):Int)) π₀ h₀ hN
  (fun π hp=>by
   have F:=hF π hp
   refine List.mem_map.mpr ⟨(List.range n).map fun s=>if (opts.getD s []).length=0 then 0 else (π.getD s 0).toNat,mp11 (by simp) fun s hs=>?_,?_⟩
   ·have hs:s<n:=by simpa using hs
    by_cases h:(opts.getD s []).length=0
    ·simp[List.getD_eq_getElem?_getD,List.getElem?_map,List.getElem?_range hs] at h ⊢
     simp[h]
    ·have:=(F.at_ s hs h).2
     simp[List.getD_eq_getElem?_getD,List.getElem?_map,List.getElem?_range hs] at h this ⊢
     simp[h];omega
   ·refine List.ext_getElem (by simp[F.len]) fun s h1 h2=>?_
    have hs:s<n:=by simpa using h1
    have gp:π.getD s 0 = π[s]:=by rw[List.getD_eq_getElem?_getD,List.getElem?_eq_getElem h2];rfl
    rw[<-gp]
    by_cases h:(opts.getD s []).length=0
    ·have:=hE π hp s hs h
     simp only[List.getElem_map,List.getElem_range,h,if_true];exact this.symm
    ·have:=(F.at_ s hs h).1
     have e:((List.range n).map fun s=>if (opts.getD s []).length=0 then 0 else (π.getD s 0).toNat).getD s 0=(π.getD s 0).toNat:=by
      rw[List.getD_eq_getElem?_getD,List.getElem?_map,List.getElem?_range hs]
      simp only[Option.map_some,Option.getD_some,h,if_false]
     simp only[List.getElem_map,List.getElem_range,h,if_false]
     rw[e];omega)
  (fun π hp ne=>by
   obtain⟨u,K⟩:=hK π hp
   obtain⟨u',K'⟩:=hK _ (hN π hp)
   obtain⟨hb',hl',hv'⟩:=val_ok hw (hF _ (hN π hp)) K'
   obtain⟨g1,g2⟩:=K'.better (x:=V π) hv' fun s hs=>(nr hw ht (hF π hp) K s hs).1
   refine⟨g1,?_⟩
   have:∃s,s<n/\(nextM opts ends n π).getD s 0≠π.getD s 0:=by
    by_cases q:∃s,s<n/\(nextM opts ends n π).getD s 0≠π.getD s 0
    ·exact q
    ·exfalso
     refine ne (List.ext_getElem (by rw[(hF π hp).len,(hF _ (hN π hp)).len]) fun s h1 h2=>?_)
     have hs:s<n:=by rw[(hF π hp).len] at h2;exact h2
     have gp:π.getD s 0 = π[s]:=by rw[List.getD_eq_getElem?_getD,List.getElem?_eq_getElem h2];rfl
     have gq:(nextM opts ends n π).getD s 0=(nextM opts ends n π)[s]:=by rw[List.getD_eq_getElem?_getD,List.getElem?_eq_getElem h1];rfl
     rw[<-gp,<-gq]
     by_cases z:(nextM opts ends n π).getD s 0 = π.getD s 0
     ·exact z
     ·exact absurd ⟨s,hs,z⟩ q
   obtain⟨s,hs,z⟩:=this
   exact⟨s,hs,g2 s hs ((nr hw ht (hF π hp) K s hs).2 z)⟩)
  (fun a b c _ _ _ h k=>⟨fun s hs=>Rat.le_trans (h.1 s hs) (k.1 s hs),by
   obtain⟨s,hs,lt⟩:=h.2
   have:=k.1 s hs
   exact⟨s,hs,by grind⟩⟩)
  (fun a _ h=>by obtain⟨s,_,lt⟩:=h.2;exact absurd lt Rat.lt_irrefl)
 exact⟨k,e,Pi k⟩
end
end La
end
noncomputable section
namespace La
open Ra61 Fq
def val(x:Fr):Rat:=(x.num:Rat)/((x.den:Int):Rat)
structure Low(x:Fr):Prop where
 pos:0<x.den
 cop:Nat.gcd x.num.natAbs x.den=1
theorem dr10{x:Fr}(h:0<x.den):(0:Rat)<((x.den:Int):Rat):=rp11 (by omega)
theorem Low.eq{x y:Fr}(hx:Low x)(hy:Low y)(h:val x=val y):x=y:=by
 have dx:=dr10 hx.pos
 have dy:=dr10 hy.pos
 have e:x.num*(y.den:Int)=y.num*(x.den:Int):=by
  unfold val at h
  have:(x.num:Rat)*((y.den:Int):Rat)=(y.num:Rat)*((x.den:Int):Rat):=by
   have a:(x.num:Rat)=(x.num:Rat)/((x.den:Int):Rat)*((x.den:Int):Rat):=by grind
   have b:(y.num:Rat)=(y.num:Rat)/((y.den:Int):Rat)*((y.den:Int):Rat):=by grind
   rw[h] at a
   grind
  rw[<-Rat.intCast_mul,<-Rat.intCast_mul] at this
  exact Rat.intCast_inj.mp this
 have e2:x.num.natAbs*y.den=y.num.natAbs*x.den:=by
  have:=congrArg Int.natAbs e
  rwa [Int.natAbs_mul,Int.natAbs_mul,Int.natAbs_natCast,Int.natAbs_natCast] at this
 have d1:x.den ∣ y.den:=by
  have:x.den ∣ x.num.natAbs*y.den:=⟨y.num.natAbs,by rw[e2,Nat.mul_comm]⟩
  exact (Nat.Coprime.symm hx.cop).dvd_of_dvd_mul_left this
 have d2:y.den ∣ x.den:=by
  have:y.den ∣ y.num.natAbs*x.den:=⟨x.num.natAbs,by rw[<-e2,Nat.mul_comm]⟩
  exact (Nat.Coprime.symm hy.cop).dvd_of_dvd_mul_left this
 have de:x.den=y.den:=Nat.dvd_antisymm d1 d2
 have ne:x.num=y.num:=by
  rw[de] at e
  exact Int.eq_of_mul_eq_mul_right (by have:=hy.pos;omega) e
 cases x;cases y;simp only at de ne;rw[de,ne]
theorem fr_low{z:Int}{d:Nat}(h:0<d):Low (fr z d):=by
 have g0:0<Nat.gcd z.natAbs d:=Nat.gcd_pos_of_pos_right _ h
 have gm:max 1 (Nat.gcd z.natAbs d)=Nat.gcd z.natAbs d:=by omega
 refine⟨fr_den h,?_⟩
 unfold fr
 simp only[gm]
 have:(z/((Nat.gcd z.natAbs d:Nat):Int)).natAbs=z.natAbs/Nat.gcd z.natAbs d:=by
  have dv:((Nat.gcd z.natAbs d:Nat):Int) ∣ z:=by
   have:=Nat.gcd_dvd_left z.natAbs d
   exact Int.ofNat_dvd_left.mpr this
  rw[Int.natAbs_ediv_of_dvd dv,Int.natAbs_natCast]
 rw[this]
 exact Nat.gcd_div_gcd_div_gcd_of_pos_right h
theorem val_is{x:Fr}{a b:Int}(h:Is x a b):val x=(a:Rat)/(b:Rat):=by
 have dx:=dr10 h.1
 have db:=rp11 h.2.1
 have e:(x.num:Rat)*(b:Rat)=(a:Rat)*((x.den:Int):Rat):=by rw[<-Rat.intCast_mul,<-Rat.intCast_mul,h.2.2]
 unfold val
 have:(x.num:Rat)=(a:Rat)*((x.den:Int):Rat)/(b:Rat):=by grind
 rw[this];grind
theorem is_val{x:Fr}{a b:Int}(hx:0<x.den)(hb:0<b)(h:val x=(a:Rat)/(b:Rat)):Is x a b:=by
 have dx:=dr10 hx
 have db:=rp11 hb
 refine⟨hx,hb,?_⟩
 unfold val at h
 have:(x.num:Rat)*(b:Rat)=(a:Rat)*((x.den:Int):Rat):=by
  have a1:(x.num:Rat)=(x.num:Rat)/((x.den:Int):Rat)*((x.den:Int):Rat):=by grind
  rw[h] at a1
  grind
 rw[<-Rat.intCast_mul,<-Rat.intCast_mul] at this
 exact Rat.intCast_inj.mp this
theorem vf{z:Int}{d:Nat}(h:0<d):val (fr z d)=(z:Rat)/((d:Int):Rat):=val_is (is_fr h)
theorem low_add{x y:Fr}(hx:0<x.den)(hy:0<y.den):Low (x.add y):=fr_low (Nat.mul_pos hx hy)
theorem low_sub{x y:Fr}(hx:0<x.den)(hy:0<y.den):Low (x.sub y):=fr_low (Nat.mul_pos hx hy)
theorem low_mul{x y:Fr}(hx:0<x.den)(hy:0<y.den):Low (x.mul y):=fr_low (Nat.mul_pos hx hy)
theorem val_add{x y:Fr}(hx:0<x.den)(hy:0<y.den):val (x.add y)=val x+val y:=by
 have a:=dr10 hx;have b:=dr10 hy
 unfold Fr.add
 rw[vf (Nat.mul_pos hx hy),Rat.intCast_add,Rat.intCast_mul,Rat.intCast_mul,Int.natCast_mul,Rat.intCast_mul]
 unfold val;grind
theorem val_sub{x y:Fr}(hx:0<x.den)(hy:0<y.den):val (x.sub y)=val x-val y:=by
 have a:=dr10 hx;have b:=dr10 hy
 unfold Fr.sub
 rw[vf (Nat.mul_pos hx hy),Rat.intCast_sub,Rat.intCast_mul,Rat.intCast_mul,Int.natCast_mul,Rat.intCast_mul]
 unfold val;grind
theorem val_mul{x y:Fr}(hx:0<x.den)(hy:0<y.den):val (x.mul y)=val x*val y:=by
 have a:=dr10 hx;have b:=dr10 hy
 unfold Fr.mul
 rw[vf (Nat.mul_pos hx hy),Rat.intCast_mul,Int.natCast_mul,Rat.intCast_mul]
 unfold val;grind
theorem nz{x:Fr}(hx:0<x.den):x.num=0↔val x=0:=by
 have a:=dr10 hx
 unfold val
 constructor
 ·intro h;rw[h];show ((0:Int):Rat)/_=0;grind
 ·intro h
  have:(x.num:Rat)=((0:Int):Rat):=by
   have e:(x.num:Rat)=(x.num:Rat)/((x.den:Int):Rat)*((x.den:Int):Rat):=by grind
   rw[h] at e;rw[e];show 0*_=(0:Rat);grind
  exact Rat.intCast_inj.mp this
theorem low_div{x y:Fr}(hx:0<x.den)(hy:0<y.den)(h:val y≠0):Low (x.div y):=by
 have:y.num≠0:=fun z=>h ((nz hy).mp z)
 exact fr_low (Nat.mul_pos hx (by omega))
theorem val_div{x y:Fr}(hx:0<x.den)(hy:0<y.den)(h:val y≠0):val (x.div y)=val x/val y:=by
 have n0:y.num≠0:=fun z=>h ((nz hy).mp z)
 have a:=dr10 hx;have b:=dr10 hy
 unfold Fr.div
 rw[vf (Nat.mul_pos hx (by omega)),Int.natCast_mul,Rat.intCast_mul,Rat.intCast_mul,Rat.intCast_mul]
 have n1:(y.num:Rat)≠0:=fun z=>n0 (by have:(y.num:Rat)=((0:Int):Rat):=z;exact Rat.intCast_inj.mp this)
 rcases Int.lt_trichotomy y.num 0 with l | l | l
 ·rw[Int.sign_eq_neg_one_of_neg l,show ((y.num.natAbs:Nat):Int) = - y.num by omega,Rat.intCast_neg]
  show _*((-1:Int):Rat)/_=_
  rw[show ((-1:Int):Rat) = -1 from rfl]
  unfold val;grind
 ·exact absurd l n0
 ·rw[Int.sign_eq_one_of_pos l,show ((y.num.natAbs:Nat):Int)=y.num by omega]
  show _*((1:Int):Rat)/_=_
  rw[show ((1:Int):Rat)=1 from rfl]
  unfold val;grind
theorem val_less{x y:Fr}(hx:0<x.den)(hy:0<y.den):x.less y=decide (val x<val y):=by
 have a:=dr10 hx;have b:=dr10 hy
 unfold Fr.less
 refine decide_eq_decide.mpr ?_
 rw[<-Rat.intCast_lt_intCast,Rat.intCast_mul,Rat.intCast_mul]
 have ex:(x.num:Rat)=val x*((x.den:Int):Rat):=by unfold val;grind
 have ey:(y.num:Rat)=val y*((y.den:Int):Rat):=by unfold val;grind
 rw[ex,ey]
 have pq:(0:Rat)<((x.den:Int):Rat)*((y.den:Int):Rat):=Rat.mul_pos a b
 constructor
 ·intro h
  have:(((x.den:Int):Rat)*((y.den:Int):Rat))*val x<(((x.den:Int):Rat)*((y.den:Int):Rat))*val y:=by grind
  exact Rat.lt_of_mul_lt_mul_left this (Rat.le_of_lt pq)
 ·intro h
  have:=Rat.mul_lt_mul_of_pos_left h pq
  grind
theorem ln11:Low none_:=⟨by decide,by decide⟩
theorem low_one:Low one_:=⟨by decide,by decide⟩
theorem vn:val none_=0:=by unfold val none_;show ((0:Int):Rat)/_=0;grind
theorem val_one:val one_=1:=by
 unfold val one_
 show ((1:Int):Rat)/((1:Int):Rat)=1
 rw[show ((1:Int):Rat)=1 from rfl];grind
def entF(m:List Row)(i j:Nat):Rat:=val (at_ (m.getD i []) j)
def LowRows(m:List Row)(n:Nat):Prop:=m.length=n/\∀r∈m,r.length=n+1/\∀x∈r,Low x
theorem at_mem{r:Row}{j:Nat}(h:j<r.length):at_ r j∈r:=by
 unfold at_
 rw[List.getD_eq_getElem?_getD,List.getElem?_eq_getElem h];exact List.getElem_mem h
theorem LowRows.row{m:List Row}{n i:Nat}(L:LowRows m n)(hi:i<n):m.getD i []∈m:=by
 have:i<m.length:=by rw[L.1];exact hi
 rw[List.getD_eq_getElem?_getD,List.getElem?_eq_getElem this];exact List.getElem_mem this
theorem LowRows.low{m:List Row}{n i j:Nat}(L:LowRows m n)(hi:i<n)(hj:j<=n):Low (at_ (m.getD i []) j):=by
 obtain⟨a,b⟩:=L.2 _ (L.row hi)
 exact b _ (at_mem (by omega))
theorem find_self{p:Nat->Bool}{n i:Nat}(hi:i<n)(h1:p i=true)(h2:∀j,j<i->p j=false):(List.range n).find? p=some i:=by
 rw[List.find?_range_eq_some]
 exact⟨h1,by simpa using hi,fun j hj=>by rw[h2 j hj];rfl⟩
theorem at_zip{f:Fr->Fr->Fr}{a b:Row}{j:Nat}(ha:j<a.length)(hb:j<b.length):at_ (List.zipWith f a b) j=f (at_ a j) (at_ b j):=by
 simp[at_,List.getD_eq_getElem?_getD,List.getElem?_zipWith,List.getElem?_eq_getElem ha,List.getElem?_eq_getElem hb]
theorem at_map{f:Fr->Fr}{a:Row}{j:Nat}(ha:j<a.length):at_ (a.map f) j=f (at_ a j):=by
 simp[at_,List.getD_eq_getElem?_getD,List.getElem?_map,List.getElem?_eq_getElem ha]
theorem cleared_ok{m:List Row}{n k:Nat}(L:LowRows m n)(hk:k<n)(hp:entF m k k≠0) :
  LowRows (cleared m k) n/\∀i j,i<n->j<=n->entF (cleared m k) i j=if i=k then entF m k j/entF m k k else entF m i j-entF m i k*(entF m k j/entF m k k):=by
 have lk:=L.low hk (Nat.le_of_lt hk)
 have lenk:=(L.2 _ (L.row hk)).1
 have fd:((List.range m.length).find? fun j=>decide (k<=j)&&(at_ (m.getD j []) k).num != 0)=some k:=by
  rw[L.1]
  refine find_self hk ?_ fun j hj=>?_
  ·have:(at_ (m.getD k []) k).num≠0:=fun z=>hp ((nz lk.pos).mp z)
   simp only[Nat.le_refl,decide_true,Bool.true_and,bne_iff_ne,ne_eq];exact this
  ·simp;omega
 have un:cleared m k=(((m.set k (m.getD k [])).set k ((m.getD k []).map fun a=>a.div (at_ (m.getD k []) k))).zipIdx.map fun x=>if x.2=k then x.1 else less x.1 (at_ x.1 k) ((m.getD k []).map fun a=>a.div (at_ (m.getD k []) k))):=by
  unfold cleared
  rw[fd]
 have at1:∀i,i<n->(cleared m k).getD i []=if i=k then (m.getD k []).map fun a=>a.div (at_ (m.getD k []) k) else less (m.getD i []) (at_ (m.getD i []) k) ((m.getD k []).map fun a=>a.div (at_ (m.getD k []) k)):=fun i hi=>by
  have hm:i<m.length:=by rw[L.1];exact hi
  have hkm:k<m.length:=by rw[L.1];exact hk
  rw[un]
  by_cases e:i=k
  ·subst e
   simp[List.getD_eq_getElem?_getD,List.getElem?_zipIdx,List.getElem?_set,hm]
  ·have e':k≠i:=fun z=>e z.symm
   simp[List.getD_eq_getElem?_getD,List.getElem?_zipIdx,List.getElem?_set,hm,e,e']
 have clen:(cleared m k).length=n:=by rw[un];simp[L.1]
 refine⟨⟨clen,fun r hr=>?_⟩,fun i j hi hj=>?_⟩
 ·obtain⟨i,hi,rfl⟩:=List.getElem_of_mem hr
  have hi':i<n:=by rw[clen] at hi;exact hi
  have e:=at1 i hi'
  rw[List.getD_eq_getElem?_getD,List.getElem?_eq_getElem hi] at e
  rw[show (cleared m k)[i]=_ from e]
  have ql:∀x∈(m.getD k []).map fun a=>a.div (at_ (m.getD k []) k),Low x:=fun x hx=>by
   obtain⟨a,ha,rfl⟩:=List.mem_map.mp hx
   exact low_div ((L.2 _ (L.row hk)).2 a ha).pos lk.pos hp
  split
  ·exact⟨by rw[List.length_map,lenk],ql⟩
  ·have li:=L.2 _ (L.row hi')
   refine⟨by simp only[less,List.length_zipWith,List.length_map,li.1,lenk];omega,fun x hx=>?_⟩
   obtain⟨t,ht,rfl⟩:=List.getElem_of_mem hx
   have hx2:Low ((less (m.getD i []) (at_ (m.getD i []) k) ((m.getD k []).map fun a=>a.div (at_ (m.getD k []) k)))[t]):=by
    simp only[less,List.getElem_zipWith]
    have ht':=ht
    simp only[less,List.length_zipWith,List.length_map] at ht'
    have l1:=li.2 _ (List.getElem_mem (show t<(m.getD i []).length by omega))
    have l2:=ql _ (List.getElem_mem (show t<((m.getD k []).map fun a=>a.div (at_ (m.getD k []) k)).length by rw[List.length_map];omega))
    exact low_sub l1.pos (low_mul (L.low hi' (Nat.le_of_lt hk)).pos l2.pos).pos
   exact hx2
 ·simp only[entF]
  rw[at1 i hi]
  by_cases e:i=k
  ·rw[if_pos e,if_pos e,at_map (by rw[lenk];omega),val_div (L.low hk hj).pos lk.pos hp]
  ·rw[if_neg e,if_neg e]
   have li:=(L.2 _ (L.row hi)).1
   unfold less
   rw[at_zip (by rw[li];omega) (by rw[List.length_map,lenk];omega),at_map (by rw[lenk];omega)]
   have dv:=low_div (L.low hk hj).pos lk.pos hp
   rw[val_sub (L.low hi hj).pos (low_mul (L.low hi (Nat.le_of_lt hk)).pos dv.pos).pos,val_mul (L.low hi (Nat.le_of_lt hk)).pos dv.pos,val_div (L.low hk hj).pos lk.pos hp]
theorem clears_ok{m:List Row}{n:Nat}(L:LowRows m n)(hp:∀k,k<n->G (entF m) k k k≠0):∀k,k<=n->LowRows ((List.range k).foldl cleared m) n/\∀i j,i<n->j<=n->entF ((List.range k).foldl cleared m) i j=G (entF m) k i j
 |0,_=>⟨L,fun _ _ _ _=>rfl⟩
 |k+1,hk=>by
  obtain⟨a,b⟩:=clears_ok L hp k (Nat.le_of_lt hk)
  rw[List.range_succ,List.foldl_append,List.foldl_cons,List.foldl_nil]
  obtain⟨c,d⟩:=cleared_ok a hk (by rw[b k k hk (Nat.le_of_lt hk)];exact hp k hk)
  refine⟨c,fun i j hi hj=>?_⟩
  rw[d i j hi hj,b k j hk hj,b k k hk (Nat.le_of_lt hk),b i j hi hj,b i k hi (Nat.le_of_lt hk)]
  rfl
theorem solved_ok{m:List Row}{n:Nat}(L:LowRows m n){u:Nat->Rat}(K:Dom (entF m) n u):(solved m).length=n/\(∀i,i<n->Low (at_ (solved m) i))/\∀i,i<n->sm n (fun t=>entF m i t*val (at_ (solved m) t))=entF m i n:=by
 have hp:=(G_dom K n (Nat.le_refl n)).1
 have hp':∀k,k<n->G (entF m) k k k≠0:=fun k hk=>by have:=hp k hk;grind
 obtain⟨a,b⟩:=clears_ok L hp' n (Nat.le_refl n)
 have sv:∀i,i<n->at_ (solved m) i=at_ (((List.range n).foldl cleared m).getD i []) n:=fun i hi=>by
  have:i<((List.range n).foldl cleared m).length:=by rw[a.1];exact hi
  unfold solved
  rw[L.1]
  simp[at_,List.getD_eq_getElem?_getD,List.getElem?_map,List.getElem?_eq_getElem this]
 refine⟨by unfold solved;rw[L.1,List.length_map,a.1],fun i hi=>by rw[sv i hi];exact a.low hi (Nat.le_refl n),fun i hi=>?_⟩
 have bk:=Gb hp' n (Nat.le_refl n) i n
 rw[if_neg (by omega)] at bk
 rw[sc10 (g:=fun t=>entF m i t*G (entF m) n t n) fun t ht=>by
  have:=b t n ht (Nat.le_refl n)
  simp only[entF] at this ⊢
  rw[sv t ht,this]]
 grind
end La
end
noncomputable section
namespace La
open Ra61 Fq
def eqnF(x:Fr×List (Nat×Fr)):Eqn:=⟨1,x.2.map fun y=>(y.1,val y.2),val x.1⟩
theorem fv{t:Nat}:∀(ys:List (Nat×Fr)) (a:Fr),0<a.den->(∀y∈ys,0<y.2.den)->0<((ys.filter fun y=>y.1==t).foldl (fun a y=>a.add y.2) a).den/\val ((ys.filter fun y=>y.1==t).foldl (fun a y=>a.add y.2) a)=val a+wj (ys.map fun y=>(y.1,val y.2)) t
 |[],a,ha,_=>⟨ha,by simp only[List.filter_nil,List.foldl_nil,List.map_nil,wj];grind⟩
 |y::ys,a,ha,h=>by
  have hy:=h y (by simp)
  by_cases e:(y.1==t)=true
  ·rw[List.filter_cons_of_pos (p:=fun y:Nat×Fr=>y.1==t) e,List.foldl_cons]
   obtain⟨p,q⟩:=fv (t:=t) ys (a.add y.2) (low_add ha hy).pos fun z hz=>h z (by simp[hz])
   refine⟨p,?_⟩
   rw[q,val_add ha hy]
   simp only[List.map_cons,wj]
   rw[if_pos (beq_iff_eq.mp e).symm];grind
  ·rw[List.filter_cons_of_neg (p:=fun y:Nat×Fr=>y.1==t) e]
   obtain⟨p,q⟩:=fv (t:=t) ys a ha fun z hz=>h z (by simp[hz])
   refine⟨p,?_⟩
   rw[q]
   simp only[List.map_cons,wj]
   rw[if_neg (fun z=>e (beq_iff_eq.mpr z.symm))];grind
theorem standing_ok{n:Nat}{f:Nat->Fr×List (Nat×Fr)}{u:Nat->Rat}(hl:∀s,s<n->Low (f s).1/\∀y∈(f s).2,0<y.2.den)(K:Keeps (fun s=>eqnF (f s)) n u) :
  (standing n f).length=n/\(∀s,s<n->Low (at_ (standing n f) s))/\∀s,s<n->(eqnF (f s)).lhs s (fun t=>val (at_ (standing n f) t))=(eqnF (f s)).rhs:=by
 let m:List Row:=(List.range n).map fun s=>((List.range n).map fun t=>(if t=s then one_ else none_).sub (((f s).2.filter fun y=>y.1==t).foldl (fun a y=>a.add y.2) none_))++[(f s).1]
 have hst:standing n f=solved m:=rfl
 have rowAt:∀s,s<n->m.getD s []=((List.range n).map fun t=>(if t=s then one_ else none_).sub (((f s).2.filter fun y=>y.1==t).foldl (fun a y=>a.add y.2) none_))++[(f s).1]:=fun s hs=>by
  simp[m,List.getD_eq_getElem?_getD,List.getElem?_map,List.getElem?_range hs]
 have e0:∀t s:Nat,Low (if t=s then one_ else none_):=fun t s=>by split;exact low_one;exact ln11
 have L:LowRows m n:=by
  refine⟨by simp[m],fun r hr=>?_⟩
  obtain⟨s,hs,rfl⟩:=List.mem_map.mp hr
  have hs:=List.mem_range.mp hs
  refine⟨by simp,fun x hx=>?_⟩
  rcases List.mem_append.mp hx with h | h
  ·obtain⟨t,_,rfl⟩:=List.mem_map.mp h
   exact low_sub (e0 t s).pos (fv _ _ ln11.pos (hl s hs).2).1
  ·rw[List.mem_singleton.mp h];exact (hl s hs).1
 have eA:∀s t,s<n->t<n->entF m s t=(eqnF (f s)).am s t:=fun s t hs ht=>by
  simp only[entF]
  rw[rowAt s hs]
  have:at_ (((List.range n).map fun t=>(if t=s then one_ else none_).sub (((f s).2.filter fun y=>y.1==t).foldl (fun a y=>a.add y.2) none_))++[(f s).1]) t=(if t=s then one_ else none_).sub (((f s).2.filter fun y=>y.1==t).foldl (fun a y=>a.add y.2) none_):=by
   unfold at_
   rw[List.getD_eq_getElem?_getD,List.getElem?_append_left (by simpa using ht),List.getElem?_map,List.getElem?_range ht];rfl
  obtain⟨p,q⟩:=fv (t:=t) _ _ ln11.pos (hl s hs).2
  rw[this,val_sub (e0 t s).pos p,q,vn]
  simp only[Eqn.am,eqnF]
  by_cases e:t=s
  ·simp only[e,if_true,val_one];grind
  ·simp only[e,if_false,vn];grind
 have eN:∀s,s<n->entF m s n=(eqnF (f s)).rhs:=fun s hs=>by
  simp only[entF]
  rw[rowAt s hs]
  have:at_ (((List.range n).map fun t=>(if t=s then one_ else none_).sub (((f s).2.filter fun y=>y.1==t).foldl (fun a y=>a.add y.2) none_))++[(f s).1]) n=(f s).1:=by
   unfold at_
   rw[List.getD_eq_getElem?_getD,List.getElem?_append_right (by simp)];simp
  rw[this];rfl
 have D:Dom (entF m) n u:={
  off:=fun i j hi hj e=>by rw[eA i j hi hj];exact K.dom.off i j hi hj e
  pos:=K.pos
  sum:=fun i hi=>by
   rw[sc10 (g:=fun j=>(eqnF (f i)).am i j*u j) fun j hj=>by rw[eA i j hi hj]]
   exact K.dom.sum i hi }
 obtain⟨a,b,c⟩:=solved_ok L D
 rw[hst]
 refine⟨a,b,fun s hs=>?_⟩
 have c':=c s hs
 rw[eN s hs,sc10 (g:=fun t=>(eqnF (f s)).am s t*val (at_ (solved m) t)) fun t ht=>by rw[eA s t hs ht],Eqn.dot hs (K.to s hs)] at c'
 exact c'
theorem if10{α:Type}{f:α->α}{x:α}(h:f x=x):∀k,iter f k x=x
 |0=>rfl
 |k+1=>by show iter f k (f x)=x;rw[h];exact if10 h k
theorem io(value:Plan->Row)(change:Plan->Row->Plan):∀(fuel k:Nat) (p:Plan),k<=fuel->change (iter (fun p=>change p (value p)) k p) (value (iter (fun p=>change p (value p)) k p))=iter (fun p=>change p (value p)) k p ->
  improved value change fuel p=value (iter (fun p=>change p (value p)) k p)
 |0,k,p,hk,_=>by
  have:k=0:=by omega
  subst this;rfl
 |fuel+1,0,p,_,h=>by
  have h':change p (value p)=p:=h
  show (if change p (value p)=p then value p else improved value change fuel (change p (value p)))=value p
  rw[if_pos h']
 |fuel+1,k+1,p,hk,h=>by
  show (if change p (value p)=p then value p else improved value change fuel (change p (value p)))=_
  by_cases e:change p (value p)=p
  ·rw[if_pos e,if10 (f:=fun p=>change p (value p)) e]
  ·rw[if_neg e]
   exact io value change fuel k (change p (value p)) (by omega) h
theorem bv{v:Row}{n:Nat}(hv:∀s,s<n->0<(at_ v s).den):∀(ps:List (Nat×Fr)) (a:Fr),0<a.den->(∀y∈ps,0<y.2.den/\y.1<n) ->
  0<(ps.foldl (fun a w=>a.add (w.2.mul (at_ v w.1))) a).den/\val (ps.foldl (fun a w=>a.add (w.2.mul (at_ v w.1))) a)=val a+wd (ps.map fun y=>(y.1,val y.2)) (fun t=>val (at_ v t))
 |[],a,ha,_=>⟨ha,by simp only[List.foldl_nil,List.map_nil,wd];grind⟩
 |y::ys,a,ha,h=>by
  obtain⟨h1,h2⟩:=h y (by simp)
  have hm:=low_mul h1 (hv y.1 h2)
  obtain⟨p,q⟩:=bv hv ys (a.add (y.2.mul (at_ v y.1))) (low_add ha hm.pos).pos fun z hz=>h z (by simp[hz])
  rw[List.foldl_cons]
  refine⟨p,?_⟩
  rw[q,val_add ha hm.pos,val_mul h1 (hv y.1 h2)]
  simp only[List.map_cons,wd];grind
theorem parts_low{c:Choice}(hW:0<c.weight):∀y∈c.parts,Low y.2:=fun y hy=>by
 obtain⟨w,_,rfl⟩:=List.mem_map.mp hy
 exact fr_low hW
end La
end
noncomputable section
namespace La
open Ra61 Fq
theorem wd_parts{c:Choice}(hW:0<c.weight)(x:Nat->Rat):(((c.weight:Nat):Int):Rat)*wd (c.parts.map fun y=>(y.1,val y.2)) x=wd (castW c.ways) x:=by
 have hq:=rp11 (show (0:Int)<(c.weight:Int) by omega)
 have:∀ws:List (Nat×Nat),(((c.weight:Nat):Int):Rat)*wd ((ws.map fun w=>(w.1,fr (w.2:Nat) c.weight)).map fun y=>(y.1,val y.2)) x=wd (castW ws) x:=fun ws=>by
  induction ws with
  |nil=>simp only[List.map_nil,wd,castW];grind
  |cons w ws ih=>
   simp only[List.map_cons,wd,castW] at ih ⊢
   rw[<-ih,vf hW,Rat.intCast_natCast,Rat.intCast_natCast]
   rw[Rat.intCast_natCast] at hq
   grind
 exact this c.ways
theorem wd_ones{c:Choice}(hW:0<c.weight):wd (c.parts.map fun y=>(y.1,val y.2)) (fun _=>1)=1:=by
 have hq:=rp11 (show (0:Int)<(c.weight:Int) by omega)
 have e:=wd_parts hW (fun _=>1)
 have:∀ws:List (Nat×Nat),wd (castW ws) (fun _=>1)=((((ws.map fun w=>w.2).sum:Nat):Int):Rat):=fun ws=>by
  induction ws with
  |nil=>simp only[castW,List.map_nil,wd,List.sum_nil];rfl
  |cons w ws ih=>
   simp only[castW,List.map_cons,wd,List.sum_cons] at ih ⊢
   rw[ih,Int.natCast_add,Rat.intCast_add,Rat.intCast_natCast w.2];grind
 rw[this] at e
 have e':(((c.weight:Nat):Int):Rat)*wd (c.parts.map fun y=>(y.1,val y.2)) (fun _=>1)=(((c.weight:Nat):Int):Rat):=e
 clear e this
 generalize wd (c.parts.map fun y=>(y.1,val y.2)) (fun _=>1)=x at *
 generalize (((c.weight:Nat):Int):Rat)=a at *
 have h1:a*x<=a*1:=by grind
 have h2:a*1<=a*x:=by grind
 have:=Rat.le_of_mul_le_mul_left h1 hq
 have:=Rat.le_of_mul_le_mul_left h2 hq
 grind
section
variable{N:Net}{p q:Nat}
theorem ga(G:Good N){s:Nat}{c:Choice}(h:c∈choicesOf N s):0<c.weight/\(∀w∈c.ways,w.1<N.length)/\(choicesOf N s).length<=8:=by
 obtain⟨x,hx,hc⟩:=cm11 h
 obtain⟨a,b,d,_⟩:=G.ways x hx c hc
 refine⟨weight_pos a fun w hw=>(d w hw).2.1,fun w hw=>(d w hw).1,?_⟩
 unfold choicesOf at h ⊢
 cases e:N[s]? with
 |none=>simp
 |some y=>simp only[Option.map_some,Option.getD_some];exact G.few y (List.mem_of_getElem? e)
end
end La
end
noncomputable section
namespace La
open Ra61 Fq
section
variable{N:Net}{p q:Nat}
end
end La
end
noncomputable section
namespace La
open Ra61 Fq
theorem le_sub_of{a b c:Rat}(h:a+b<=c):a<=c-b:=by grind
section
variable{N:Net}{p q:Nat}
def zeros(n:Nat):List Int:=(List.range n).map fun _=>0
theorem za(n s:Nat):(zeros n).getD s 0=0:=by
 simp only[zeros,List.getD_eq_getElem?_getD,List.getElem?_map]
 cases (List.range n)[s]? <;> rfl
end
end La
end
noncomputable section
namespace La
def In(x b:Rat):Prop:=-b<=x/\x<=b
theorem In.mul{x y a b:Rat}(ha:In x a)(hb:In y b)(a0:0<=a)(b0:0<=b):In (x*y) (a*b):=by
 obtain⟨p,q⟩:=ha
 obtain⟨r,s⟩:=hb
 have h1:0<=(a-x)*(b+y):=Rat.mul_nonneg (by grind) (by grind)
 have h2:0<=(a+x)*(b-y):=Rat.mul_nonneg (by grind) (by grind)
 have h3:0<=(a-x)*(b-y):=Rat.mul_nonneg (by grind) (by grind)
 have h4:0<=(a+x)*(b+y):=Rat.mul_nonneg (by grind) (by grind)
 constructor<;>grind
theorem S_in{X:Rat}:∀(C:List Nat) (f:Nat->List Nat->Rat),(∀c cs,c∈C->(∀x∈cs,x∈C)->cs.length+1=C.length->In (f c cs) X)->In (S f C) ((C.length:Rat)*X)
 |[],f,_=>by
  show In 0 (((0:Nat):Rat)*X)
  have:((0:Nat):Rat)=0:=rfl
  rw[this]
  constructor<;>grind
 |a::C,f,h=>by
  have i:=S_in C (fun d ds=>f d (a::ds)) fun c cs hc hcs hl=>h c (a::cs) (by simp[hc]) (fun x hx=>by
   rcases List.mem_cons.mp hx with rfl | hx
   ·simp
   ·simp[hcs x hx]) (by simp[hl])
  have j:=h a C (by simp) (fun x hx=>by simp[hx]) rfl
  have e:(((a::C).length:Nat):Rat)=(C.length:Rat)+1:=by rw[List.length_cons,Rat.natCast_add];rfl
  simp only[S]
  rw[e]
  obtain⟨p,q⟩:=i
  obtain⟨r,s⟩:=j
  constructor<;>grind
theorem D_in{M L:Rat}(hM:0<=M)(hL:0<=L)(h1:1<=L*M):∀(V:List (Nat->Rat)) (R:List Nat),(R.length:Rat)<=L->(∀v∈V,∀r∈R,In (v r) M)->In (D V R) ((L*M)^V.length)
 |[],R,_,_=>by
  show In 1 ((L*M)^0)
  rw[Rat.pow_zero]
  constructor<;>grind
 |v::V,R,hR,h=>by
  have X0:0<=(L*M)^V.length:=by
   have:0<L*M:=by grind
   induction V.length with
   |zero=>rw[Rat.pow_zero];grind
   |succ k ih=>rw[Rat.pow_succ];exact Rat.mul_nonneg ih (by grind)
  have s:=S_in (X:=M*(L*M)^V.length) R (fun r R'=>v r*D V R') fun c cs hc hcs hl=>by
   refine In.mul (h v (by simp) c hc) (D_in hM hL h1 V cs ?_ fun u hu r hr=>h u (by simp[hu]) r (hcs r hr)) hM X0
   have:(cs.length:Rat)<=(R.length:Rat):=Rat.natCast_le_natCast.mpr (by omega)
   grind
  rw[List.length_cons,Rat.pow_succ]
  have m:(R.length:Rat)*(M*(L*M)^V.length)<=L*(M*(L*M)^V.length):=Rat.mul_le_mul_of_nonneg_right hR (Rat.mul_nonneg hM X0)
  show In (S (fun r R'=>v r*D V R') R) _
  obtain⟨p,q⟩:=s
  constructor<;>grind
theorem dl11:∀k,(desc k).length=k
 |0=>rfl
 |k+1=>by simp[desc,dl11 k]
section
variable{A:Nat->Nat->Rat}{n:Nat}
theorem pow_mono'{x:Rat}(h:1<=x):∀{a b:Nat},a<=b->x^a<=x^b:=fun {a b} hab=>by
 induction b with
 |zero=>
   have:a=0:=by omega
   subst this;exact Rat.le_refl
 |succ b ih=>
  by_cases e:a=b+1
  ·subst e;exact Rat.le_refl
  ·have i:=ih (by omega)
   have p:0<=x^b:=by
    clear i ih hab e
    induction b with
    |zero=>rw[Rat.pow_zero];grind
    |succ b ih=>rw[Rat.pow_succ];exact Rat.mul_nonneg ih (by grind)
   have q:=Rat.mul_le_mul_of_nonneg_left h p
   rw[Rat.pow_succ]
   grind
theorem rows_in{M L:Rat}(hM:0<=M)(hL:0<=L)(h1:1<=L*M)(hn:((n+1:Nat):Rat)<=L)(hA:∀i j,i<n->j<=n->In (A i j) M)(hp:∀k,k<n->G A k k k≠0)(k:Nat)(hk:k<=n) :
  In (dd A k) ((L*M)^(n+1))/\∀i j,i<n->j<=n->In (dd A k*G A k i j) ((L*M)^(n+1)):=by
 have up:∀{x:Rat} {a:Nat},a<=n+1->In x ((L*M)^a)->In x ((L*M)^(n+1)):=fun {x a} ha h=>by
  have:=pow_mono' h1 ha
  obtain⟨p,q⟩:=h
  constructor<;>grind
 have len:∀m:Nat,m<=n+1->((m:Nat):Rat)<=L:=fun m hm=>Rat.le_trans (Rat.natCast_le_natCast.mpr hm) hn
 obtain⟨one,two⟩:=D_cols hp k hk
 have colB:∀(l:List Nat),(∀x∈l,x<=n)->∀(R:List Nat),(∀r∈R,r<n)->∀v∈l.map (col A),∀r∈R,In (v r) M:=fun l hl R hR v hv r hr=>by
  obtain⟨j,hj,rfl⟩:=List.mem_map.mp hv
  exact hA r j (hR r hr) (hl j hj)
 have dk:∀x∈desc k,x<n:=fun x hx=>Nat.lt_of_lt_of_le (md.mp hx) hk
 refine⟨?_,fun i j hi hj=>?_⟩
 ·rw[<-one]
  refine up (a:=((desc k).map (col A)).length) (by rw[List.length_map,dl11];omega) (D_in hM hL h1 _ _ (by rw[dl11];exact len k (by omega)) (colB _ (fun x hx=>Nat.le_of_lt (dk x hx)) _ dk))
 ·by_cases hik:k<=i
  ·rw[<-two i j hik]
   refine up (a:=(col A j::(desc k).map (col A)).length) (by rw[List.length_cons,List.length_map,dl11];omega) (D_in hM hL h1 _ _ (by rw[List.length_cons,dl11];exact len (k+1) (by omega)) (colB (j::desc k) (fun x hx=>?_) _ fun r hr=>?_))
   ·rcases List.mem_cons.mp hx with rfl | hx
    ·exact hj
    ·exact Nat.le_of_lt (dk x hx)
   ·rcases List.mem_cons.mp hr with rfl | hr
    ·exact hi
    ·exact dk r hr
  ·have hi':i<k:=by omega
   obtain⟨s,t,e⟩:=List.append_of_mem (md.mpr hi')
   obtain⟨c,hc⟩:=S_lin (k:=k) (desc k) (fun r hr=>md.mp hr) fun r R'=>D ((s++t).map (col A)) R'
   have y:∀l,D (col A l::(s++t).map (col A)) (desc k)=sm k (fun m=>A m l*c m):=fun l=>hc (col A l)
   obtain⟨σ,hs,mv⟩:=D_move (col A i) (s.map (col A)) (t.map (col A))
   have yi:sm k (fun m=>A m i*c m) = σ*dd A k:=by
    rw[<-y,List.map_append,mv,<-one,e]
    simp
   have y0:∀l,l<k->l≠i->sm k (fun m=>A m l*c m)=0:=fun l hl hne=>by
    rw[<-y]
    have hm:l∈s++t:=by
     have:=md.mpr hl
     rw[e] at this
     simp only[List.mem_append,List.mem_cons] at this ⊢
     rcases this with h | h | h
     ·exact .inl h
     ·exact absurd h hne
     ·exact .inr h
    obtain⟨a,b,e2⟩:=List.append_of_mem hm
    rw[e2,List.map_append,List.map_cons]
    exact D_rep _ _ _ _
   have stl:∀x∈s++t,x∈desc k:=fun x hx=>by
    rw[e]
    rcases List.mem_append.mp hx with h | h
    ·exact List.mem_append.mpr (.inl h)
    ·exact List.mem_append.mpr (.inr (List.mem_cons_of_mem _ h))
   have ln:(s++t).length+1=k:=by
    have:=congrArg List.length e
    rw[dl11] at this
    simp at this ⊢;omega
   have yj:In (D (col A j::(s++t).map (col A)) (desc k)) ((L*M)^(n+1)):=by
    refine up (a:=(col A j::(s++t).map (col A)).length) (by rw[List.length_cons,List.length_map,ln];omega) (D_in hM hL h1 _ _ (by rw[dl11];exact len k (by omega)) (colB (j::(s++t)) (fun x hx=>?_) _ dk))
    rcases List.mem_cons.mp hx with rfl | hx
    ·exact hj
    ·exact Nat.le_of_lt (dk x (stl x hx))
   rw[y,bf hp hk c j,sm_one (i:=i) hi' fun l hl hne=>by rw[y0 l hl hne];grind,yi] at yj
   rcases hs with rfl | rfl
   ·have:(1:Rat)*dd A k*G A k i j=dd A k*G A k i j:=by grind
    rwa [this] at yj
   ·have:dd A k*G A k i j = - (-1*dd A k*G A k i j):=by grind
    rw[this]
    obtain⟨p,q⟩:=yj
    constructor<;>grind
end
theorem turns_in{rows:List (List Int)}{n:Nat}(hl:rows.length=n)(hw:∀r∈rows,r.length=n+1)(hn:n<=16)(hA:∀i j,i<n->j<=n->((rows.getD i []).getD j 0).natAbs<2^40)(hp:∀k,k<n->0<G (ent rows) k k k)(k:Nat)(hk:k<=n) :
  (turnsM rows k).2.natAbs<2^1000/\∀i j,i<n->j<=n->(((turnsM rows k).1.getD i []).getD j 0).natAbs<2^1000:=by
 obtain⟨a,b,c,d⟩:=to10 hl hw hp k hk
 have hp':∀k,k<n->G (ent rows) k k k≠0:=fun k hk=>by have:=hp k hk;grind
 have toIn:∀{z:Int} {m:Nat},z.natAbs<m->In (z:Rat) ((m:Nat):Rat):=fun {z m} h=>by
  constructor
  ·have:(((-(m:Int)):Int):Rat)<=(z:Rat):=Rat.intCast_le_intCast.mpr (by omega)
   rw[Rat.intCast_neg,Rat.intCast_natCast] at this
   exact this
  ·have:(z:Rat)<=(((m:Nat):Int):Rat):=Rat.intCast_le_intCast.mpr (by omega)
   rw[Rat.intCast_natCast] at this
   exact this
 have fromIn:∀{z:Int} {m:Nat},In (z:Rat) ((m:Nat):Rat)->z.natAbs<=m:=fun {z m} h=>by
  obtain⟨p,q⟩:=h
  rw[<-Rat.intCast_natCast] at p q
  rw[<-Rat.intCast_neg] at p
  have:=Rat.intCast_le_intCast.mp p
  have:=Rat.intCast_le_intCast.mp q
  omega
 obtain⟨e,f⟩:=rows_in (A:=ent rows) (n:=n) (M:=((2^40:Nat):Rat)) (L:=((17:Nat):Rat)) Rat.natCast_nonneg Rat.natCast_nonneg (by
  rw[<-Rat.natCast_mul]
  have:((1:Nat):Rat)<=((17*2^40:Nat):Rat):=Rat.natCast_le_natCast.mpr (by decide)
  exact this) (Rat.natCast_le_natCast.mpr (by omega)) (fun i j hi hj=>toIn (hA i j hi hj)) hp' k hk
 have pw:(((17:Nat):Rat)*((2^40:Nat):Rat))^(n+1)=(((17*2^40)^(n+1):Nat):Rat):=by
  rw[<-Rat.natCast_mul]
  generalize 17*2^40=q
  induction (n+1) with
  |zero=>rw[Rat.pow_zero,Nat.pow_zero];rfl
  |succ m ih=>rw[Rat.pow_succ,Nat.pow_succ,Rat.natCast_mul,ih]
 rw[pw] at e f
 have small:(17*2^40)^(n+1)<2^1000:=by
  have:(17*2^40)^(n+1)<=(17*2^40)^17:=Nat.pow_le_pow_right (by decide) (by omega)
  exact Nat.lt_of_le_of_lt this (by decide +kernel)
 rw[<-c] at e
 refine⟨Nat.lt_of_le_of_lt (fromIn e) small,fun i j hi hj=>?_⟩
 have g:=f i j hi hj
 rw[<-d i j hi hj] at g
 exact Nat.lt_of_le_of_lt (fromIn g) small
end La
end
noncomputable section
namespace La
theorem wd_ge{n:Nat}{u:Nat->Rat}{U d:Rat}:∀{ws:List (Nat×Rat)}{w₀:Nat×Rat},w₀∈ws->(∀w∈ws,w.1<n/\0<=w.2)->(∀t,t<n->u t<=U)->u w₀.1<=U-d->wd ws u<=wd ws (fun _=>1)*U-w₀.2*d
 |w::ws,w₀,h,a,b,c=>by
  have rest:wd ws u<=wd ws (fun _=>1)*U:=by
   have e:wd ws (fun _=>U)=wd ws (fun _=>1)*U:=by
    clear a h
    induction ws with
    |nil=>simp only[wd];grind
    |cons x ws ih=>simp only[wd];rw[ih];grind
   rw[<-e]
   exact wd_mono (n:=n) b (fun x hx=>(a x (by simp[hx])).1) fun x hx=>(a x (by simp[hx])).2
  have w0:=(a w (by simp)).2
  simp only[wd]
  by_cases e:w₀ = w
  ·subst e
   have:=Rat.mul_le_mul_of_nonneg_left c w0
   grind
  ·have hm:w₀∈ws:=by
    rcases List.mem_cons.mp h with z | z
    ·exact absurd z e
    ·exact z
   have i:=wd_ge hm (fun x hx=>a x (by simp[hx])) b c
   have:=Rat.mul_le_mul_of_nonneg_left (b w.1 (a w (by simp)).1) w0
   grind
structure Lead(R:Nat->Eqn)(n K:Nat):Prop where
 row:∀s,s<n->((R s).tot=1/\(R s).ways=[])\/((R s).ways≠[]/\0<(R s).tot/\wd (R s).ways (fun _=>1)=(R s).tot)
 way:∀s,s<n->∀w∈(R s).ways,w.1<n/\0<w.2/\(R s).tot<=(K:Rat)*w.2
theorem pp{x:Rat}(h:0<x):∀k:Nat,0<x^k
 |0=>by rw[Rat.pow_zero];decide
 |k+1=>by rw[Rat.pow_succ];exact Rat.mul_pos (pp h k) h
theorem rank_keeps{R:Nat->Eqn}{n K B:Nat}(L:Lead R n K)(rk:Nat->Nat)(hB:∀s,s<n->rk s<=B)(hr:∀s,s<n->(R s).ways≠[]->∃w∈(R s).ways,rk w.1<rk s) :
  ∃u,Keeps R n u:=by
 let x:Rat:=(K:Rat)+1
 have k0:(0:Rat)<=(K:Rat):=Rat.natCast_nonneg
 have x0:0<x:=by show 0<(K:Rat)+1;grind
 have x1:1<=x:=by show 1<=(K:Rat)+1;grind
 let g:Nat->Rat:=fun s=>x^(B-rk s)
 have g0:∀s,0<g s:=fun s=>pp x0 _
 have mono:∀a b:Nat,a<=b->x^a<=x^b:=fun a b h=>by
  induction b with
  |zero=>
    have:a=0:=by omega
    subst this;exact Rat.le_refl
  |succ b ih=>
   by_cases e:a=b+1
   ·subst e;exact Rat.le_refl
   ·have:=ih (by omega)
    rw[Rat.pow_succ]
    have q:=Rat.mul_le_mul_of_nonneg_left x1 (Rat.le_of_lt (pp x0 b))
    grind
 let U:Rat:=x^B+1
 have gU:∀s,g s<U:=fun s=>by
  have:=mono (B-rk s) B (by omega)
  show x^(B-rk s)<x^B+1
  grind
 refine⟨fun s=>U-g s,fun s hs w hw=>(L.way s hs w hw).1,fun s hs w hw=>Rat.le_of_lt (L.way s hs w hw).2.1,fun s _=>by have:=gU s;grind,fun s hs=>?_⟩
 rcases L.row s hs with ⟨e1,e2⟩ | ⟨ne,t0,e1⟩
 ·simp only[Eqn.lhs]
  rw[e1,e2]
  have:=gU s
  simp only[wd];grind
 ·obtain⟨w,hw,lt⟩:=hr s hs ne
  obtain⟨wn,wp,wk⟩:=L.way s hs w hw
  have b:=wd_ge (n:=n) (u:=fun s=>U-g s) (U:=U) (d:=g w.1) hw (fun y hy=>⟨(L.way s hs y hy).1,Rat.le_of_lt (L.way s hs y hy).2.1⟩) (fun t _=>by have:=g0 t;grind) Rat.le_refl
  rw[e1] at b
  simp only[Eqn.lhs]
  have step:(K:Rat)*g s<g w.1:=by
   have h1:x^(B-rk s+1)<=x^(B-rk w.1):=mono _ _ (by have:=hB s hs;omega)
   rw[Rat.pow_succ] at h1
   have:=g0 s
   show (K:Rat)*x^(B-rk s)<x^(B-rk w.1)
   have e:x^(B-rk s)*x=(K:Rat)*x^(B-rk s)+x^(B-rk s):=by show _*((K:Rat)+1)=_;grind
   have:0<x^(B-rk s):=g0 s
   grind
  have s1:=Rat.mul_lt_mul_of_pos_left step wp
  have s2:(R s).tot*g s<=((K:Rat)*w.2)*g s:=Rat.mul_le_mul_of_nonneg_right wk (Rat.le_of_lt (g0 s))
  grind
def Proper(R:Nat->Eqn)(n:Nat):Prop:=∀C:Nat->Prop,(∃s,C s)->(∀s,C s->s<n/\(R s).ways≠[])->∃s,C s/\∃w∈(R s).ways,¬C w.1
theorem least{p:Nat->Prop}:∀k,p k->∃j,p j/\∀i,i<j->¬p i:=by
 intro k
 induction k using Nat.strongRecOn with
 |_ k ih=>
  intro h
  by_cases e:∃i,i<k/\p i
  ·obtain⟨i,hi,hp⟩:=e
   exact ih i hi hp
  ·exact⟨k,h,fun i hi hp=>e ⟨i,hi,hp⟩⟩
def lev(R:Nat->Eqn):Nat->Nat->Prop
 |0,s=>(R s).ways=[]
 |k+1,s=>lev R k s\/∃w∈(R s).ways,lev R k w.1
theorem rank_of{R:Nat->Eqn}{n:Nat}(P:Proper R n)(hw:∀s,s<n->∀w∈(R s).ways,w.1<n):∃(rk:Nat->Nat) (B:Nat),(∀s,s<n->rk s<=B)/\∀s,s<n->(R s).ways≠[]->∃w∈(R s).ways,rk w.1<rk s:=by
 have all:∀s,s<n->∃k,lev R k s:=by
  by_cases h:∃s,s<n/\∀k,¬lev R k s
  ·exfalso
   obtain⟨s₀,h0,h1⟩:=h
   obtain⟨s,⟨hs,hc⟩,w,hw',hn⟩:=P (fun s=>s<n/\∀k,¬lev R k s) ⟨s₀,h0,h1⟩ fun s hs=>⟨hs.1,fun z=>hs.2 0 z⟩
   refine hn ⟨hw s hs w hw',fun k hk=>hc (k+1) (.inr ⟨w,hw',hk⟩)⟩
  ·intro s hs
   by_cases e:∃k,lev R k s
   ·exact e
   ·exact absurd ⟨s,hs,fun k hk=>e ⟨k,hk⟩⟩ h
 have pick:∀s,∃j,s<n->lev R j s/\∀i,i<j->¬lev R i s:=fun s=>by
  by_cases hs:s<n
  ·obtain⟨k,hk⟩:=all s hs
   obtain⟨j,a,b⟩:=least (p:=fun k=>lev R k s) k hk
   exact⟨j,fun _=>⟨a,b⟩⟩
  ·exact⟨0,fun h=>absurd h hs⟩
 let rk:Nat->Nat:=fun s=>Classical.choose (pick s)
 have hrk:∀s,s<n->lev R (rk s) s/\∀i,i<rk s->¬lev R i s:=fun s hs=>Classical.choose_spec (pick s) hs
 have bound:∀m,∃B,∀s,s<m->rk s<=B:=fun m=>by
  induction m with
  |zero=>exact⟨0,fun s h=>absurd h (Nat.not_lt_zero s)⟩
  |succ m ih=>
   obtain⟨B,hB⟩:=ih
   refine⟨max B (rk m),fun s hs=>?_⟩
   by_cases e:s=m
   ·subst e;omega
   ·have:=hB s (by omega);omega
 obtain⟨B,hB⟩:=bound n
 refine⟨rk,B,hB,fun s hs ne=>?_⟩
 obtain⟨a,b⟩:=hrk s hs
 cases e:rk s with
 |zero=>rw[e] at a;exact absurd a ne
 |succ k=>
  rw[e] at a b
  rcases a with a | ⟨w,hw',hk⟩
  ·exact absurd a (b k (Nat.lt_succ_self k))
  ·refine⟨w,hw',?_⟩
   have:=(hrk w.1 (hw s hs w hw')).2
   by_cases z:rk w.1<k+1
   ·exact z
   ·exact absurd hk (this k (by omega))
theorem Proper.keeps{R:Nat->Eqn}{n K:Nat}(P:Proper R n)(L:Lead R n K):∃u,Keeps R n u:=by
 obtain⟨rk,B,h1,h2⟩:=rank_of P fun s hs w hw=>(L.way s hs w hw).1
 exact rank_keeps L rk h1 h2
theorem exists_max{v:Nat->Rat}:∀(n:Nat) (C:Nat->Prop),(∃s,s<n/\C s)->∃m,m<n/\C m/\∀s,s<n->C s->v s<=v m
 |0,C,h=>by obtain⟨s,hs,_⟩:=h;omega
 |n+1,C,h=>by
  by_cases e:∃s,s<n/\C s
  ·obtain⟨m,hm,cm,hx⟩:=exists_max (v:=v) n C e
   by_cases q:C n/\v m<v n
   ·refine⟨n,by omega,q.1,fun s hs hc=>?_⟩
    by_cases z:s=n
    ·subst z;exact Rat.le_refl
    ·have:=hx s (by omega) hc
     have:=q.2
     grind
   ·refine⟨m,by omega,cm,fun s hs hc=>?_⟩
    by_cases z:s=n
    ·subst z
     have:¬v m<v s:=fun y=>q ⟨hc,y⟩
     grind
    ·exact hx s (by omega) hc
  ·obtain⟨s,hs,hc⟩:=h
   have:s=n:=by
    by_cases z:s=n
    ·exact z
    ·exact absurd ⟨s,by omega,hc⟩ e
   subst this
   refine⟨s,hs,hc,fun t ht hct=>?_⟩
   have:t=s:=by
    by_cases z:t=s
    ·exact z
    ·exact absurd ⟨t,by omega,hct⟩ e
   subst this;exact Rat.le_refl
theorem wd_most{v:Nat->Rat}{M:Rat}:∀{ws:List (Nat×Rat)},(∀w∈ws,0<w.2/\v w.1<=M)->wd ws v<=wd ws (fun _=>1)*M/\(wd ws v=wd ws (fun _=>1)*M->∀w∈ws,v w.1=M)
 |[],_=>⟨by simp only[wd];grind,fun _ w hw=>by cases hw⟩
 |x::ws,h=>by
  obtain⟨a,b⟩:=wd_most (ws:=ws) fun w hw=>h w (by simp[hw])
  obtain⟨p,q⟩:=h x (by simp)
  have m:=Rat.mul_le_mul_of_nonneg_left q (Rat.le_of_lt p)
  refine⟨by simp only[wd];grind,fun e w hw=>?_⟩
  simp only[wd] at e
  have e1:x.2*v x.1=x.2*M:=by grind
  have e2:wd ws v=wd ws (fun _=>1)*M:=by grind
  rcases List.mem_cons.mp hw with rfl | hw
  ·have l1:=Rat.le_of_mul_le_mul_left (a:=M) (b:=v w.1) (c:=w.2) (by rw[e1];exact Rat.le_refl) p
   grind
  ·exact b e2 w hw
end La
end
noncomputable section
namespace La
open Ra61 Fq
theorem ir10{α:Type}(f:α->α)(μ:α->Nat)(n:Nat)(P:α->Prop)(hP:∀x,P x->P (f x))(hb:∀x,P x->μ x<=n)(hm:∀x,P x->f x≠x->μ x<μ (f x)) :
  ∀(k:Nat) (x:α),P x->n<=μ x+k->f (iter f k x)=iter f k x
 |0,x,p,h=>by
  apply Classical.byContradiction
  intro e
  have:=hm x p e
  have:=hb _ (hP x p)
  omega
 |k+1,x,p,h=>by
  apply Classical.byCases (p:=f x=x)
  ·intro e
   rw[if10 e,e]
  ·intro e
   have:=hm x p e
   exact ir10 f μ n P hP hb hm k (f x) (hP x p) (by omega)
theorem ik{α:Type}{f:α->α}{P:α->Prop}(hP:∀x,P x->P (f x)):∀(k:Nat) (x:α),P x->P (iter f k x)
 |0,_,p=>p
 |k+1,x,p=>ik hP k (f x) (hP x p)
def eqnG(r:Rat)(c:Choice):Eqn:=⟨1,c.parts.map fun y=>(y.1,val y.2),r⟩
theorem opt_scale{c:Choice}(hW:0<c.weight)(m:Int)(r:Rat)(s:Nat)(x:Nat->Rat) :
  (eqnO (optOf m c)).lhs s x=(((c.weight:Nat):Int):Rat)*(eqnG r c).lhs s x/\(eqnO (optOf m c)).rhs=(((c.weight:Nat):Int):Rat)*((c.gain*m:Int):Rat)/\(0:Rat)<(((c.weight:Nat):Int):Rat):=by
 refine⟨?_,?_,rp11 (by omega)⟩
 ·have e:=wd_parts hW x
  show (((c.weight:Nat):Int):Rat)*x s-wd (castW c.ways) x=(((c.weight:Nat):Int):Rat)*(1*x s-wd (c.parts.map fun y=>(y.1,val y.2)) x)
  rw[<-e];grind
 ·show ((c.gain*m*((c.weight:Nat):Int):Int):Rat)=_
  rw[Rat.intCast_mul];grind
theorem Eqn.lhs_neg(r:Eqn)(s:Nat)(x:Nat->Rat):r.lhs s (fun i=>- x i) = - r.lhs s x:=by
 have:∀ws:List (Nat×Rat),wd ws (fun i=>- x i) = - wd ws x:=fun ws=>by
  induction ws with
  |nil=>simp only[wd];grind
  |cons w ws ih=>simp only[wd];rw[ih];grind
 simp only[Eqn.lhs];rw[this];grind
theorem weight_le{N:Net}(G:Good N){s:Nat}{c:Choice}(hc:c∈choicesOf N s):c.weight<=16000/\∀w∈c.ways,1<=w.2:=by
 obtain⟨x,hx,hc'⟩:=cm11 hc
 obtain⟨a,b,d,_⟩:=G.ways x hx c hc'
 have:∀ws:List (Nat×Nat),(∀w∈ws,w.2<=1000)->(ws.map fun w=>w.2).sum<=ws.length*1000:=fun ws=>by
  induction ws with
  |nil=>intro _;simp
  |cons w ws ih=>
   intro h
   have i:=ih fun x hx=>h x (by simp[hx])
   have:=h w (by simp)
   rw[List.map_cons,List.sum_cons,List.length_cons];omega
 have t:=this c.ways fun w hw=>(d w hw).2.2
 refine⟨?_,fun w hw=>(d w hw).2.1⟩
 show (c.ways.map fun w=>w.2).sum<=16000
 omega
theorem ways_ne{N:Net}(G:Good N){s:Nat}{c:Choice}(hc:c∈choicesOf N s):c.ways≠[]:=by
 obtain⟨x,hx,hc'⟩:=cm11 hc
 exact (G.ways x hx c hc').1
structure RowOk(N:Net)(r:Eqn):Prop where
 row:(r.tot=1/\r.ways=[])\/(r.ways≠[]/\0<r.tot/\wd r.ways (fun _=>1)=r.tot)
 way:∀w∈r.ways,w.1<N.length/\0<w.2/\r.tot<=((16000:Nat):Rat)*w.2
theorem row_fix(N:Net)(x:Rat):RowOk N ⟨1,[],x⟩:=⟨.inl ⟨rfl,rfl⟩,fun w hw=>by cases hw⟩
theorem rc10{N:Net}(G:Good N){s:Nat}{c:Choice}(hc:c∈choicesOf N s)(r:Rat):RowOk N (eqnG r c):=by
 obtain⟨hW,hn,_⟩:=ga G hc
 obtain⟨w16,w1⟩:=weight_le G hc
 refine⟨.inr ⟨?_,by show (0:Rat)<1;decide,wd_ones hW⟩,fun w hw=>?_⟩
 ·intro e
  have e:(c.parts.map fun y=>(y.1,val y.2))=[]:=e
  have:c.ways=[]:=by
   unfold Choice.parts at e
   rw[List.map_map] at e
   exact List.map_eq_nil_iff.mp e
  exact ways_ne G hc this
 ·obtain⟨y,hy,rfl⟩:=List.mem_map.mp hw
  obtain⟨w',hw',rfl⟩:=List.mem_map.mp hy
  have a:=w1 w' hw'
  have q:=rp11 (show (0:Int)<((c.weight:Nat):Int) by omega)
  have p:=rp11 (show (0:Int)<((w'.2:Nat):Int) by omega)
  refine⟨hn w' hw',?_,?_⟩
  ·show 0<val (fr (w'.2:Nat) c.weight)
   rw[vf hW,Rat.div_def]
   exact Rat.mul_pos p (Rat.inv_pos.mpr q)
  ·show 1<=_*val (fr (w'.2:Nat) c.weight)
   rw[vf hW]
   have le:((c.weight:Nat):Rat)<=((16000*w'.2:Nat):Rat):=Rat.natCast_le_natCast.mpr (by omega)
   rw[Rat.natCast_mul] at le
   rw[Rat.intCast_natCast] at p q ⊢
   rw[Rat.intCast_natCast]
   generalize ((c.weight:Nat):Rat)=x at *
   generalize ((w'.2:Nat):Rat)=y at *
   generalize ((16000:Nat):Rat)=k at *
   have e:x*(k*(y/x))=k*y:=by grind
   exact Rat.le_of_mul_le_mul_left (a:=1) (b:=k*(y/x)) (c:=x) (by rw[e];grind) q
theorem row_opt{N:Net}(G:Good N){s:Nat}{c:Choice}(hc:c∈choicesOf N s)(m:Int):RowOk N (eqnO (optOf m c)):=by
 obtain⟨hW,hn,_⟩:=ga G hc
 obtain⟨w16,w1⟩:=weight_le G hc
 have q:=rp11 (show (0:Int)<((c.weight:Nat):Int) by omega)
 refine⟨.inr ⟨?_,q,?_⟩,fun w hw=>?_⟩
 ·intro e
  exact ways_ne G hc (List.map_eq_nil_iff.mp (show (c.ways.map fun w=>(w.1,(w.2:Rat)))=[] from e))
 ·have e:=wd_parts hW (fun _=>1)
  rw[wd_ones hW] at e
  show wd (castW c.ways) (fun _=>1)=(((c.weight:Nat):Int):Rat)
  rw[<-e];grind
 ·obtain⟨w',hw',rfl⟩:=List.mem_map.mp hw
  have a:=w1 w' hw'
  refine⟨hn w' hw',?_,?_⟩
  ·have p:=rp11 (show (0:Int)<((w'.2:Nat):Int) by omega)
   rw[Rat.intCast_natCast] at p
   exact p
  ·show (((c.weight:Nat):Int):Rat)<=_*((w'.2:Nat):Rat)
   rw[Rat.intCast_natCast,<-Rat.natCast_mul]
   exact Rat.natCast_le_natCast.mpr (by omega)
theorem lead_of{N:Net}{R:Nat->Eqn}(h:∀s,s<N.length->RowOk N (R s)):Lead R N.length 16000:=⟨fun s hs=>(h s hs).row,fun s hs w hw=>(h s hs).way w hw⟩
theorem changed_at{N:Net}{l:Plan}{stay:Nat->Bool}{ok:Choice->Bool}{better:Nat->Choice->Bool}{s:Nat}(hs:s<N.length) :
  (stay s=true/\(changed N l stay ok better).getD s 0=l.getD s 0)\/(stay s=false/\(((changed N l stay ok better).getD s 0=l.getD s 0/\∀c∈choicesOf N s,(ok c&&better s c)=false) \/
   ∃c,(choicesOf N s)[(changed N l stay ok better).getD s 0]? = some c/\(ok c&&better s c)=true)):=by
 have e:(changed N l stay ok better).getD s 0=if stay s=true then l.getD s 0 else ((choicesOf N s).findIdx? fun c=>ok c&&better s c).getD (l.getD s 0):=by
  simp[changed,List.getD_eq_getElem?_getD,List.getElem?_map,List.getElem?_range hs]
 rw[e]
 cases h:stay s with
 |true=>exact .inl ⟨rfl,by rw[if_pos rfl]⟩
 |false=>
  refine .inr ⟨rfl,?_⟩
  rw[if_neg (by simp)]
  cases q:(choicesOf N s).findIdx? fun c=>ok c&&better s c with
  |none=>
   rw[List.findIdx?_eq_none_iff] at q
   exact .inl ⟨rfl,q⟩
  |some j=>
   rw[List.findIdx?_eq_some_iff_getElem] at q
   obtain⟨hj,h1,_⟩:=q
   exact .inr ⟨(choicesOf N s)[j],List.getElem?_eq_getElem hj,h1⟩
structure FitP(N:Net)(l:Plan):Prop where
 len:l.length=N.length
 at_:∀s,s<N.length->l.getD s 0<max 1 (choicesOf N s).length
theorem FitP.some{N:Net}{l:Plan}(F:FitP N l){s:Nat}(hs:s<N.length)(h:choicesOf N s≠[]):∃c∈choicesOf N s,(choicesOf N s)[l.getD s 0]? = some c:=by
 have hl:l.getD s 0<(choicesOf N s).length:=by
  have:=F.at_ s hs
  have:=List.length_pos_iff.mpr h
  omega
 exact⟨(choicesOf N s)[l.getD s 0],List.getElem_mem hl,List.getElem?_eq_getElem hl⟩
theorem FitP.change{N:Net}{l:Plan}(F:FitP N l)(stay:Nat->Bool)(ok:Choice->Bool)(better:Nat->Choice->Bool):FitP N (changed N l stay ok better) where
 len:=by simp[changed]
 at_:=fun s hs=>by
  rcases changed_at (l:=l) (stay:=stay) (ok:=ok) (better:=better) hs with ⟨_,e⟩ | ⟨_,⟨e,_⟩ | ⟨c,e,_⟩⟩
  ·rw[e];exact F.at_ s hs
  ·rw[e];exact F.at_ s hs
  ·have:=(List.getElem?_eq_some_iff.mp e).1
   omega
theorem fit_first(N:Net):FitP N (first N):=by
 have z:∀s,(first N).getD s 0=0:=fun s=>by
  simp only[first,List.getD_eq_getElem?_getD,List.getElem?_map]
  cases N[s]? <;> rfl
 exact⟨by simp[first],fun s hs=>by rw[z];omega⟩
theorem plan_stops{N:Net}(G:Good N)(value:Plan->Row)(change:Plan->Row->Plan)(start:Plan)(P:Plan->Prop)(V:Plan->Nat->Rat)(h0:P start)(hf:∀l,P l->FitP N l)(hs:∀l,P l->P (change l (value l)))
  (up:∀l,P l->(∀s,s<N.length->V l s<=V (change l (value l)) s)/\∀s,s<N.length->(change l (value l)).getD s 0≠l.getD s 0->V l s<V (change l (value l)) s) :
  ∃l,P l/\improved value change PLANS start=value l/\change l (value l)=l:=by
 let f:=fun l=>change l (value l)
 obtain⟨k,hk,e⟩:=iter_stops f P (fun a b=>(∀s,s<N.length->V a s<=V b s)/\∃s,s<N.length/\V a s<V b s) (plans ((List.range N.length).map fun s=>(choicesOf N s).length)) start h0 hs
  (fun l p=>mp11 (by rw[(hf l p).len];simp) fun s hs=>by
   have hs:s<N.length:=by simpa using hs
   have e:((List.range N.length).map fun s=>(choicesOf N s).length).getD s 0=(choicesOf N s).length:=by
    rw[List.getD_eq_getElem?_getD,List.getElem?_map,List.getElem?_range hs];rfl
   rw[e]
   exact (hf l p).at_ s hs)
  (fun l p ne=>by
   obtain⟨g1,g2⟩:=up l p
   refine⟨g1,?_⟩
   by_cases z:∃s,s<N.length/\(f l).getD s 0≠l.getD s 0
   ·obtain⟨s,hs,z⟩:=z
    exact⟨s,hs,g2 s hs z⟩
   ·exfalso
    have F:=hf l p
    have F':=hf _ (hs l p)
    refine ne (List.ext_getElem (by rw[F.len];exact F'.len) fun s h1 h2=>?_)
    have hs:s<N.length:=by rw[F.len] at h2;exact h2
    have gp:l.getD s 0=l[s]:=by rw[List.getD_eq_getElem?_getD,List.getElem?_eq_getElem h2];rfl
    have gq:(f l).getD s 0=(f l)[s]:=by rw[List.getD_eq_getElem?_getD,List.getElem?_eq_getElem h1];rfl
    rw[<-gp,<-gq]
    by_cases y:(f l).getD s 0=l.getD s 0
    ·exact y
    ·exact absurd ⟨s,hs,y⟩ z)
  (fun a b c _ _ _ h k=>⟨fun s hs=>Rat.le_trans (h.1 s hs) (k.1 s hs),by
   obtain⟨s,hs,lt⟩:=h.2
   have:=k.1 s hs
   exact⟨s,hs,by grind⟩⟩)
  (fun a _ h=>by obtain⟨s,_,lt⟩:=h.2;exact absurd lt Rat.lt_irrefl)
 have few:(plans ((List.range N.length).map fun s=>(choicesOf N s).length)).length<=PLANS:=by
  refine Nat.le_trans (plans_len (m:=8) (by decide) fun b hb=>?_) ?_
  ·obtain⟨s,hs,rfl⟩:=List.mem_map.mp hb
   have hs:=List.mem_range.mp hs
   unfold choicesOf
   cases e:N[s]? with
   |none=>simp
   |some y=>simp only[Option.map_some,Option.getD_some];exact G.few y (List.mem_of_getElem? e)
  ·rw[List.length_map,List.length_range]
   have:8^N.length<=8^16:=Nat.pow_le_pow_right (by decide) G.len.2
   exact Nat.le_trans this (by decide)
 exact⟨iter f k start,ik hs k start h0,io value change PLANS k start (Nat.le_trans hk few) e,e⟩
theorem behind_at{N:Net}(G:Good N){v:Row}(hv:∀s,s<N.length->Low (at_ v s)){s:Nat}{c:Choice}(hc:c∈choicesOf N s) :
  0<(c.behind v).den/\val (c.behind v)=wd (c.parts.map fun y=>(y.1,val y.2)) (fun t=>val (at_ v t)):=by
 obtain⟨hW,hw,_⟩:=ga G hc
 obtain⟨b1,b2⟩:=bv (v:=v) (n:=N.length) (fun s hs=>(hv s hs).pos) c.parts none_ ln11.pos fun y hy=>⟨(parts_low hW y hy).pos,by
  obtain⟨w,hw',rfl⟩:=List.mem_map.mp hy
  exact hw w hw'⟩
 have b2':val (c.behind v)=val none_+wd (c.parts.map fun y=>(y.1,val y.2)) (fun t=>val (at_ v t)):=b2
 exact⟨b1,by rw[b2',vn];grind⟩
theorem part_way{c:Choice}{r:Rat}{w:Nat×Rat}(h:w∈(eqnG r c).ways):∃w'∈c.ways,w.1=w'.1:=by
 obtain⟨y,hy,rfl⟩:=List.mem_map.mp h
 obtain⟨w',hw',rfl⟩:=List.mem_map.mp hy
 exact⟨w',hw',rfl⟩
theorem way_part{c:Choice}{r:Rat}{w:Nat×Nat}(h:w∈c.ways):∃w'∈(eqnG r c).ways,w'.1=w.1:=
 ⟨(w.1,val (fr (w.2:Nat) c.weight)),List.mem_map.mpr ⟨(w.1,fr (w.2:Nat) c.weight),List.mem_map.mpr ⟨w,h,rfl⟩,rfl⟩,rfl⟩
end La
end
noncomputable section
namespace La
open Ra61 Fq
theorem filter_len{p q:Nat->Bool}:∀l:List Nat,(∀x∈l,p x=true->q x=true)->(l.filter p).length<=(l.filter q).length/\((∃x∈l,q x=true/\p x=false)->(l.filter p).length<(l.filter q).length)
 |[],_=>⟨by simp,fun ⟨x,hx,_⟩=>by cases hx⟩
 |y::l,h=>by
  obtain⟨a,b⟩:=filter_len (p:=p) (q:=q) l fun x hx=>h x (by simp[hx])
  have hy:=h y (by simp)
  constructor
  ·cases hp:p y with
   |true=>simp[List.filter_cons,hp,hy hp];exact a
   |false=>
    cases hq:q y with
    |true=>simp[List.filter_cons,hp,hq];omega
    |false=>simp[List.filter_cons,hp,hq];exact a
  ·rintro⟨x,hx,q1,p1⟩
   rcases List.mem_cons.mp hx with rfl | hx
   ·simp[List.filter_cons,p1,q1];omega
   ·have:=b ⟨x,hx,q1,p1⟩
    cases hp:p y with
    |true=>simp[List.filter_cons,hp,hy hp];exact this
    |false=>
     cases hq:q y with
     |true=>simp[List.filter_cons,hp,hq];omega
     |false=>simp[List.filter_cons,hp,hq];exact this
theorem fg{α β:Type}(step:α->β->α)(le:α->α->Prop)(rf:∀x,le x x)(tr:∀x y z,le x y->le y z->le x z)(infl:∀x b,le x (step x b)) :
  ∀(l:List β) (x:α),le x (l.foldl step x)/\∀b∈l,∃y,le x y/\le (step y b) (l.foldl step x)
 |[],x=>⟨rf x,fun b hb=>by cases hb⟩
 |a::l,x=>by
  obtain⟨h1,h2⟩:=fg step le rf tr infl l (step x a)
  refine⟨tr _ _ _ (infl x a) h1,fun b hb=>?_⟩
  rcases List.mem_cons.mp hb with rfl | hb
  ·exact⟨x,rf x,h1⟩
  ·obtain⟨y,g1,g2⟩:=h2 b hb
   exact⟨y,tr _ _ _ (infl x a) g1,g2⟩
theorem fi{α β:Type}{step:α->β->α}{P:α->Prop}:∀(l:List β) (x:α),(∀x b,b∈l->P x->P (step x b))->P x->P (l.foldl step x)
 |[],_,_,p=>p
 |a::l,x,h,p=>fi l (step x a) (fun x b hb=>h x b (by simp[hb])) (h x a (by simp) p)
def on(m:List Int)(s:Nat):Prop:=m.getD s 0≠0
def mle(m m':List Int):Prop:=∀s,on m s->on m' s
def grow(m m':List Int):Prop:=m'.length=m.length/\mle m m'
theorem gr(m:List Int):grow m m:=⟨rfl,fun _ h=>h⟩
theorem grow_trans(x y z:List Int)(h:grow x y)(k:grow y z):grow x z:=⟨k.1.trans h.1,fun s q=>k.2 s (h.2 s q)⟩
structure Bits(m:List Int)(n:Nat):Prop where
 len:m.length=n
 bit:∀s,m.getD s 0=0\/m.getD s 0=1
theorem Bits.set{m:List Int}{n s:Nat}(B:Bits m n):Bits (m.set s 1) n:=
 ⟨by rw[List.length_set];exact B.len,fun t=>by
  by_cases hs:s<m.length
  ·rw[gs10 hs];split
   ·exact .inr rfl
   ·exact B.bit t
  ·rw[List.set_eq_of_length_le (by omega)];exact B.bit t⟩
theorem Bits.ext{m m':List Int}{n:Nat}(B:Bits m n)(B':Bits m' n)(h:mle m m')(k:mle m' m):m=m':=by
 refine List.ext_getElem (by rw[B.len,B'.len]) fun s h1 h2=>?_
 have e1:m.getD s 0=m[s]:=by rw[List.getD_eq_getElem?_getD,List.getElem?_eq_getElem h1];rfl
 have e2:m'.getD s 0=m'[s]:=by rw[List.getD_eq_getElem?_getD,List.getElem?_eq_getElem h2];rfl
 rw[<-e1,<-e2]
 have a:=h s
 have b:=k s
 unfold on at a b
 have c:=B.bit s
 have c':=B'.bit s
 omega
theorem mle_set{m:List Int}{s:Nat}:mle m (m.set s 1):=fun t h=>by
 unfold on at h ⊢
 by_cases hs:s<m.length
 ·rw[gs10 hs];split
  ·decide
  ·exact h
 ·rw[List.set_eq_of_length_le (by omega)];exact h
def cnt(n:Nat)(m:List Int):Nat:=((List.range n).filter fun s=>decide (m.getD s 0≠0)).length
theorem cnt_le(n:Nat)(m:List Int):cnt n m<=n:=by
 have:=List.length_filter_le (fun s=>decide (m.getD s 0≠0)) (List.range n)
 rw[List.length_range] at this;exact this
theorem cnt_lt{n:Nat}{m m':List Int}(B:Bits m n)(B':Bits m' n)(h:mle m m')(ne:m'≠m):cnt n m<cnt n m':=by
 refine (filter_len (List.range n) fun x _ hx=>?_).2 ?_
 ·exact decide_eq_true (p:=m'.getD x 0≠0) (h x (of_decide_eq_true (p:=m.getD x 0≠0) hx))
 ·apply Classical.byContradiction
  intro no
  refine ne (Bits.ext B' B (fun s hs=>?_) h)
  apply Classical.byContradiction
  intro q
  have hn:s<n:=by
   rw[<-B'.len]
   apply Classical.byContradiction
   intro z
   unfold on at hs
   rw[List.getD_eq_getElem?_getD,List.getElem?_eq_none (by omega)] at hs
   exact hs rfl
  exact no ⟨s,List.mem_range.mpr hn,decide_eq_true (p:=m'.getD s 0≠0) hs,decide_eq_false (p:=m.getD s 0≠0) q⟩
def leadsM(o:Opt)(m:List Int):Bool:=o.ways.any fun w=>decide (m.getD w.1 0≠0)
theorem li10{o:Opt}{m:List Int}:leadsM o m=true↔∃w∈o.ways,on m w.1:=by
 unfold leadsM on
 simp
def endStep(opts:List (List Opt))(m:List Int)(s:Nat):List Int:=if ((opts.getD s []).all fun o=>leadsM o m)=true then m.set s 1 else m
def endTurn(opts:List (List Opt))(n:Nat)(m:List Int):List Int:=(List.range n).foldl (endStep opts) m
def endM(opts:List (List Opt))(n:Nat):List Int:=iter (endTurn opts n) n (zeros n)
section
variable{opts:List (List Opt)}{n:Nat}
theorem bz(n:Nat):Bits (zeros n) n:=⟨by simp[zeros],fun s=>.inl (za n s)⟩
theorem eb11{m:List Int}{s:Nat}(B:Bits m n):Bits (endStep opts m s) n:=by
 unfold endStep;split
 ·exact B.set
 ·exact B
theorem endStep_le(m:List Int)(s:Nat):grow m (endStep opts m s):=by
 unfold endStep;split
 ·exact⟨List.length_set,mle_set⟩
 ·exact gr m
theorem eb10{m:List Int}(B:Bits m n):Bits (endTurn opts n m) n:=fi (P:=fun m=>Bits m n) _ _ (fun _ _ _ b=>eb11 b) B
theorem endM_bits:Bits (endM opts n) n:=ik (P:=fun m=>Bits m n) (fun _ B=>eb10 B) _ _ (bz n)
theorem end_rest:endTurn opts n (endM opts n)=endM opts n:=
 ir10 (endTurn opts n) (cnt n) n (fun m=>Bits m n) (fun _ B=>eb10 B) (fun m _=>cnt_le n m)
  (fun m B ne=>cnt_lt B (eb10 B) (fg (endStep opts) grow gr grow_trans endStep_le _ _).1.2 ne) n (zeros n) (bz n) (by omega)
theorem leads_mono{o:Opt}{m m':List Int}(h:mle m m')(k:leadsM o m=true):leadsM o m'=true:=by
 obtain⟨w,hw,q⟩:=li10.mp k
 exact li10.mpr ⟨w,hw,h _ q⟩
theorem end_not{s:Nat}(hs:s<n)(h:¬on (endM opts n) s):∃o∈opts.getD s [],leadsM o (endM opts n)=false:=by
 apply Classical.byContradiction
 intro no
 have all:((opts.getD s []).all fun o=>leadsM o (endM opts n))=true:=List.all_eq_true.mpr fun o ho=>by
  cases e:leadsM o (endM opts n) with
  |true=>rfl
  |false=>exact absurd ⟨o,ho,e⟩ no
 obtain⟨y,h1,h2⟩:=(fg (endStep opts) grow gr grow_trans endStep_le (List.range n) (endM opts n)).2 s (List.mem_range.mpr hs)
 have e:(List.range n).foldl (endStep opts) (endM opts n)=endM opts n:=end_rest
 rw[e] at h2
 refine h (h2.2 s ?_)
 unfold endStep
 rw[if_pos (List.all_eq_true.mpr fun o ho=>leads_mono h1.2 (List.all_eq_true.mp all o ho))]
 unfold on
 rw[gs10 (by rw[h1.1,endM_bits.len];exact hs),if_pos rfl];decide
theorem end_keeps{C:Nat->Prop}(h:∀s,C s->∃o∈opts.getD s [],∀w∈o.ways,C w.1):∀s,C s->¬on (endM opts n) s:=by
 have st:∀(m:List Int) (s:Nat),(∀t,C t->¬on m t)->∀t,C t->¬on (endStep opts m s) t:=fun m s hm t ht=>by
  unfold endStep
  split
  ·rename_i all
   unfold on
   by_cases hl:s<m.length
   ·rw[gs10 hl]
    split
    ·rename_i e
     subst e
     obtain⟨o,ho,hw⟩:=h t ht
     obtain⟨w,hw',q⟩:=li10.mp (List.all_eq_true.mp all o ho)
     exact absurd q (hm _ (hw w hw'))
    ·exact hm t ht
   ·rw[List.set_eq_of_length_le (by omega)];exact hm t ht
  ·exact hm t ht
 refine ik (P:=fun m=>∀t,C t->¬on m t) (fun m hm=>fi (P:=fun m=>∀t,C t->¬on m t) _ _ (fun m s _=>st m s) hm) n (zeros n) fun t _=>?_
 unfold on
 rw[za];simp
end
end La
end
noncomputable section
namespace La
open Ra61 Fq
section
variable{N:Net}{g:Nat}
def aw(N:Net)(l:List Nat):List Nat:=l.filter fun s=>(choicesOf N s).isEmpty||(choicesOf N s).any fun c=>c.ways.all fun w=>l.contains w.1
theorem ai:∀(k:Nat) (l:List Nat),away N k l=iter (aw N) k l
 |0,_=>rfl
 |k+1,l=>ai k (aw N l)
def zW(N:Net)(g:Nat):List Nat:=away N N.length ((List.range N.length).filter fun s=>!isGoal g s)
theorem zW_rest:aw N (zW N g)=zW N g:=by
 unfold zW
 rw[ai]
 refine ir10 (aw N) (fun l=>N.length-l.length) N.length (fun l=>l.length<=N.length) (fun l h=>Nat.le_trans (List.length_filter_le _ l) h) (fun l _=>by omega) (fun l h ne=>?_) _ _ ?_ (by omega)
 ·have le:(aw N l).length<=l.length:=List.length_filter_le _ l
  have:(aw N l).length≠l.length:=fun e=>ne (List.filter_sublist.eq_of_length e)
  omega
 ·have:=List.length_filter_le (fun s=>!isGoal g s) (List.range N.length)
  rw[List.length_range] at this;exact this
theorem zi{s:Nat}(h:s∈zW N g):s<N.length/\isGoal g s=false:=by
 have:∀t∈zW N g,t∈(List.range N.length).filter fun s=>!isGoal g s:=by
  unfold zW
  rw[ai]
  exact ik (P:=fun l=>∀t∈l,t∈(List.range N.length).filter fun s=>!isGoal g s) (fun l h t ht=>h t (List.mem_filter.mp ht).1) _ _ fun t ht=>ht
 have:=List.mem_filter.mp (this s h)
 exact⟨List.mem_range.mp this.1,by simpa using this.2⟩
theorem zW_stay{s:Nat}(h:s∈zW N g):choicesOf N s=[]\/∃c∈choicesOf N s,∀w∈c.ways,w.1∈zW N g:=by
 rw[<-zW_rest] at h
 have h2:=(List.mem_filter.mp h).2
 rcases Bool.or_eq_true_iff.mp h2 with q | q
 ·exact .inl (List.isEmpty_iff.mp q)
 ·obtain⟨c,hc,q⟩:=List.any_eq_true.mp q
  exact .inr ⟨c,hc,fun w hw=>by have:=List.all_eq_true.mp q w hw;simpa using this⟩
theorem zm{C:Nat->Prop}(h:∀s,C s->s<N.length/\isGoal g s=false/\(choicesOf N s=[]\/∃c∈choicesOf N s,∀w∈c.ways,C w.1)):∀s,C s->s∈zW N g:=by
 unfold zW
 rw[ai]
 refine ik (P:=fun l=>∀s,C s->s∈l) (fun l hl s hs=>List.mem_filter.mpr ⟨hl s hs,?_⟩) _ _ fun s hs=>List.mem_filter.mpr ⟨List.mem_range.mpr (h s hs).1,by rw[(h s hs).2.1];rfl⟩
 rcases (h s hs).2.2 with q | ⟨c,hc,q⟩
 ·rw[q];rfl
 ·refine Bool.or_eq_true_iff.mpr (.inr (List.any_eq_true.mpr ⟨c,hc,List.all_eq_true.mpr fun w hw=>?_⟩))
  have:=hl _ (q w hw)
  simpa using this
def fL(N:Net)(g:Nat)(l:Plan)(s:Nat):Fr×List (Nat×Fr):=if isGoal g s=true then (one_,[]) else if (zW N g).contains s=true then (none_,[]) else (none_,((chosen N l s).map Choice.parts).getD [])
def valL(N:Net)(g:Nat)(l:Plan):Row:=standing N.length (fL N g l)
def chL(N:Net)(g:Nat)(l:Plan)(v:Row):Plan:=changed N l (fun s=>isGoal g s||(zW N g).contains s) (fun _=>true) fun s c=>(c.behind v).less (at_ v s)
def nsys(N:Net)(g:Nat)(l:Plan)(s:Nat):Eqn:=if isGoal g s=true then ⟨1,[],-1⟩ else if (zW N g).contains s=true then ⟨1,[],0⟩ else match (choicesOf N s)[l.getD s 0]? with
 |some c=>eqnG 0 c
 |none=>⟨1,[],0⟩
theorem nsys_eq(l:Plan)(s:Nat):(eqnF (fL N g l s)).tot=(nsys N g l s).tot/\(eqnF (fL N g l s)).ways=(nsys N g l s).ways/\(eqnF (fL N g l s)).rhs = - (nsys N g l s).rhs:=by
 unfold fL nsys chosen
 split
 ·refine⟨rfl,rfl,?_⟩
  show val one_ = - -1
  rw[val_one];grind
 ·split
  ·refine⟨rfl,rfl,?_⟩
   show val none_ = - 0
   rw[vn];grind
  ·cases (choicesOf N s)[l.getD s 0]? with
   |none=>exact⟨rfl,rfl,by show val none_ = - 0;rw[vn];grind⟩
   |some c=>exact⟨rfl,rfl,by show val none_ = - 0;rw[vn];grind⟩
theorem ng{l:Plan}{s:Nat}(h:isGoal g s=true):nsys N g l s=⟨1,[],-1⟩:=by unfold nsys;rw[if_pos h]
theorem nsys_z{l:Plan}{s:Nat}(h:s∈zW N g):nsys N g l s=⟨1,[],0⟩:=by
 unfold nsys
 rw[if_neg (by rw[(zi h).2];simp),if_pos (by simpa using h)]
theorem not_z_some{s:Nat}(hs:s<N.length)(hg:isGoal g s=false)(hz:s ∉ zW N g):choicesOf N s≠[]:=fun e=>hz (zm (C:=fun t=>t=s) (fun t ht=>by subst ht;exact⟨hs,hg,.inl e⟩) s rfl)
theorem ns10{l:Plan}(F:FitP N l){s:Nat}(hs:s<N.length)(hg:isGoal g s=false)(hz:s ∉ zW N g):∃c∈choicesOf N s,(choicesOf N s)[l.getD s 0]? = some c/\nsys N g l s=eqnG 0 c:=by
 obtain⟨c,hc,e⟩:=F.some hs (not_z_some hs hg hz)
 refine⟨c,hc,e,?_⟩
 unfold nsys
 rw[if_neg (by rw[hg];simp),if_neg (by simpa using hz),e]
theorem nl13(G:Good N){l:Plan}(F:FitP N l):Lead (nsys N g l) N.length 16000:=lead_of fun s hs=>by
 cases hg:isGoal g s with
 |true=>rw[ng hg];exact row_fix N _
 |false=>
  by_cases hz:s∈zW N g
  ·rw[nsys_z hz];exact row_fix N _
  ·obtain⟨c,hc,_,e⟩:=ns10 F hs hg hz
   rw[e];exact rc10 G hc 0
theorem np10(G:Good N){l:Plan}(F:FitP N l):Proper (nsys N g l) N.length:=by
 intro C hne hC
 apply Classical.byContradiction
 intro no
 have cl:∀s,C s->s<N.length/\isGoal g s=false/\s ∉ zW N g/\∃c∈choicesOf N s,∀w∈c.ways,C w.1:=fun s hs=>by
  obtain⟨hn,ne⟩:=hC s hs
  have hg:isGoal g s=false:=by
   cases e:isGoal g s with
   |false=>rfl
   |true=>rw[ng e] at ne;exact absurd rfl ne
  have hz:s ∉ zW N g:=fun z=>by rw[nsys_z z] at ne;exact absurd rfl ne
  obtain⟨c,hc,_,e⟩:=ns10 F hn hg hz
  refine⟨hn,hg,hz,c,hc,fun w hw=>?_⟩
  apply Classical.byContradiction
  intro q
  obtain⟨w',hw',e'⟩:=way_part (r:=0) hw
  exact no ⟨s,hs,w',by rw[e];exact hw',by rw[e'];exact q⟩
 obtain⟨s,hs⟩:=hne
 exact (cl s hs).2.2.1 (zm (fun t ht=>⟨(cl t ht).1,(cl t ht).2.1,.inr (cl t ht).2.2.2⟩) s hs)
theorem keeps_congr{R R':Nat->Eqn}{n:Nat}{u:Nat->Rat}(K:Keeps R n u)(h:∀s,(R' s).tot=(R s).tot/\(R' s).ways=(R s).ways):Keeps R' n u:=
 ⟨fun s hs w hw=>K.to s hs w (by rw[<-(h s).2];exact hw),fun s hs w hw=>K.nn s hs w (by rw[<-(h s).2];exact hw),K.pos,fun s hs=>by
  have:=K.sum s hs
  simp only[Eqn.lhs] at this ⊢
  rw[(h s).1,(h s).2];exact this⟩
def xL(N:Net)(g:Nat)(l:Plan)(s:Nat):Rat:=- val (at_ (valL N g l) s)
theorem vo(G:Good N){l:Plan}(F:FitP N l):(valL N g l).length=N.length/\(∀s,s<N.length->Low (at_ (valL N g l) s))/\∀s,s<N.length->(nsys N g l s).lhs s (xL N g l)=(nsys N g l s).rhs:=by
 obtain⟨u,K⟩:=(np10 (g:=g) G F).keeps (nl13 G F)
 obtain⟨a,b,c⟩:=standing_ok (f:=fL N g l) (fun s hs=>by
  unfold fL
  split
  ·exact⟨low_one,fun y hy=>by cases hy⟩
  ·split
   ·exact⟨ln11,fun y hy=>by cases hy⟩
   ·refine⟨ln11,fun y hy=>?_⟩
    unfold chosen at hy
    cases e:(choicesOf N s)[l.getD s 0]? with
    |none=>rw[e] at hy;cases hy
    |some c=>rw[e] at hy;exact (parts_low (ga G (List.mem_of_getElem? e)).1 y hy).pos) (keeps_congr K fun s=>⟨(nsys_eq l s).1,(nsys_eq l s).2.1⟩)
 refine⟨a,b,fun s hs=>?_⟩
 have:=c s hs
 obtain⟨e1,e2,e3⟩:=nsys_eq (N:=N) (g:=g) l s
 unfold xL
 rw[Eqn.lhs_neg]
 simp only[Eqn.lhs] at this ⊢
 rw[e1,e2,e3] at this
 show-(_-wd _ (fun t=>val (at_ (standing N.length (fL N g l)) t)))=_
 rw[show (nsys N g l s).tot*val (at_ (valL N g l) s)=(nsys N g l s).tot*val (at_ (standing N.length (fL N g l)) s) from rfl,this];grind
theorem less_x(G:Good N){l:Plan}(F:FitP N l){s:Nat}(hs:s<N.length){c:Choice}(hc:c∈choicesOf N s):(c.behind (valL N g l)).less (at_ (valL N g l) s)=decide ((eqnG 0 c).lhs s (xL N g l)<0):=by
 obtain⟨_,b,_⟩:=vo (g:=g) G F
 obtain⟨p,e⟩:=behind_at G b hc
 rw[val_less p (b s hs).pos,e]
 unfold xL
 rw[Eqn.lhs_neg]
 refine decide_eq_decide.mpr ?_
 show _↔- (1*val _-wd (c.parts.map fun y=>(y.1,val y.2)) (fun i=>val (at_ (valL N g l) i)))<0
 constructor<;>intro h<;>grind
theorem cr(G:Good N){l:Plan}(F:FitP N l)(s:Nat)(hs:s<N.length) :
  (nsys N g (chL N g l (valL N g l)) s).lhs s (xL N g l)<=(nsys N g (chL N g l (valL N g l)) s).rhs/\((chL N g l (valL N g l)).getD s 0≠l.getD s 0->(nsys N g (chL N g l (valL N g l)) s).lhs s (xL N g l)<(nsys N g (chL N g l (valL N g l)) s).rhs) /\
  ((chL N g l (valL N g l)).getD s 0=l.getD s 0->isGoal g s=false->s ∉ zW N g->∀c∈choicesOf N s,0<=(eqnG 0 c).lhs s (xL N g l)):=by
 have cur:=(vo (g:=g) G F).2.2 s hs
 have same:∀l',l'.getD s 0=l.getD s 0->nsys N g l' s=nsys N g l s:=fun l' e=>by unfold nsys;rw[e]
 rcases changed_at (l:=l) (stay:=fun s=>isGoal g s||(zW N g).contains s) (ok:=fun _=>true) (better:=fun s c=>(c.behind (valL N g l)).less (at_ (valL N g l) s)) hs with ⟨st,e⟩ | ⟨st,⟨e,no⟩ | ⟨c,e,yes⟩⟩
 ·have e:(chL N g l (valL N g l)).getD s 0=l.getD s 0:=e
  rw[same _ e,cur]
  refine⟨Rat.le_refl,fun z=>absurd e z,fun _ hg hz=>?_⟩
  exfalso
  have st:(isGoal g s||(zW N g).contains s)=true:=st
  rw[hg] at st
  exact hz (by simpa using st)
 ·have e:(chL N g l (valL N g l)).getD s 0=l.getD s 0:=e
  rw[same _ e,cur]
  refine⟨Rat.le_refl,fun z=>absurd e z,fun _ _ _ c hc=>?_⟩
  have:=no c hc
  rw[Bool.true_and,less_x G F hs hc,decide_eq_false_iff_not] at this
  grind
 ·have e:(choicesOf N s)[(chL N g l (valL N g l)).getD s 0]? = some c:=e
  have hc:=List.mem_of_getElem? e
  rw[Bool.true_and,less_x G F hs hc,decide_eq_true_eq] at yes
  have st:(isGoal g s||(zW N g).contains s)=false:=st
  obtain⟨hg,hz⟩:=Bool.or_eq_false_iff.mp st
  have row:∀l':Plan,(choicesOf N s)[l'.getD s 0]? = some c->nsys N g l' s=eqnG 0 c:=fun l' e'=>by unfold nsys;rw[if_neg (by rw[hg];simp),if_neg (by rw[hz];simp),e']
  rw[row _ e]
  refine⟨Rat.le_of_lt yes,fun _=>yes,fun z=>?_⟩
  exfalso
  rw[z] at e
  rw[row _ e] at cur
  rw[cur] at yes
  exact absurd yes (by show ¬(0:Rat)<0;grind)
theorem worst_stops(G:Good N):∃l,FitP N l/\worst N g=valL N g l/\chL N g l (valL N g l)=l:=by
 refine plan_stops G (valL N g) (chL N g) (first N) (FitP N) (xL N g) (fit_first N) (fun _ h=>h) (fun l F=>F.change _ _ _) fun l F=>?_
 have F':FitP N (chL N g l (valL N g l)):=F.change _ _ _
 obtain⟨u,K⟩:=(np10 (g:=g) G F').keeps (nl13 G F')
 obtain⟨g1,g2⟩:=K.better (x:=xL N g l) (vo G F').2.2 fun s hs=>(cr G F s hs).1
 exact⟨g1,fun s hs z=>g2 s hs ((cr G F s hs).2.1 z)⟩
end
end La
end
noncomputable section
namespace La
open Ra61 Fq
def whereM(n:Nat)(b:Nat->Bool)(opts:List (List Opt)):List (List Opt):=(List.range n).map fun s=>if b s=true then opts.getD s [] else []
theorem where_at{n:Nat}{b:Nat->Bool}{opts:List (List Opt)}{s:Nat}(h:s<n):(whereM n b opts).getD s []=if b s=true then opts.getD s [] else []:=by
 simp[whereM,List.getD_eq_getElem?_getD,List.getElem?_map,List.getElem?_range h]
theorem ta10{N:Net}{g s:Nat}{m:Int}(h:s<N.length):(till N g m).getD s []=if isGoal g s=true then [] else (choicesOf N s).map (optOf m):=by
 simp[till,List.getD_eq_getElem?_getD,List.getElem?_map,List.getElem?_range h]
theorem lz(r:Eqn)(s:Nat):r.lhs s (fun _=>0)=0:=by
 have:∀ws:List (Nat×Rat),wd ws (fun _=>0)=0:=fun ws=>by
  induction ws with
  |nil=>rfl
  |cons w ws ih=>simp only[wd];rw[ih];grind
 simp only[Eqn.lhs];rw[this];grind
theorem wd_neg(ws:List (Nat×Rat))(x:Nat->Rat):wd ws (fun i=>- x i) = - wd ws x:=by
 induction ws with
 |nil=>simp only[wd];grind
 |cons w ws ih=>simp only[wd];rw[ih];grind
theorem opt_row{N:Net}(G:Good N){s:Nat}{c:Choice}(hc:c∈choicesOf N s){m:Int}{V:Nat->Rat}(h:bel (optOf m c) V<=((optOf m c).tot:Rat)*V s):((c.gain*m:Int):Rat)<=(eqnG 0 c).lhs s V:=by
 obtain⟨a,b,d⟩:=opt_scale (ga G hc).1 m 0 s V
 have h2:(eqnO (optOf m c)).rhs<=(eqnO (optOf m c)).lhs s V:=by
  unfold bel at h
  have t1:(eqnO (optOf m c)).tot=((optOf m c).tot:Rat):=rfl
  have t2:(eqnO (optOf m c)).ways=castW (optOf m c).ways:=rfl
  simp only[Eqn.lhs]
  rw[t1,t2]
  exact le_sub_of h
 rw[a,b] at h2
 exact Rat.le_of_mul_le_mul_left h2 d
section
variable{N:Net}{g:Nat}
def endL(N:Net)(g:Nat):List Int:=endM (till N g 0) N.length
def optsL(N:Net)(g:Nat):List (List Opt):=whereM N.length (fun s=>decide ((endL N g).getD s 0≠0)) (till N g 0)
def endsL(N:Net)(g:Nat):List Int:=(marksOf N g).map fun m=>-m
theorem ea10{s:Nat}(h:s<N.length):(endsL N g).getD s 0=if isGoal g s=true then -1 else 0:=by
 simp only[endsL,marksOf,List.map_map,List.getD_eq_getElem?_getD,List.getElem?_map,List.getElem?_range h,Option.map_some,Option.getD_some,Function.comp]
 split<;>rfl
theorem optsL_on{s:Nat}(h:s<N.length)(hg:isGoal g s=false)(he:on (endL N g) s):(optsL N g).getD s []=(choicesOf N s).map (optOf 0):=by
 unfold optsL
 rw[where_at h,if_pos (decide_eq_true (p:=(endL N g).getD s 0≠0) he),ta10 h,if_neg (by rw[hg];simp)]
theorem optsL_no(G:Good N){s:Nat}(h:s<N.length)(e:(optsL N g).getD s []=[]):isGoal g s=true\/s∈zW N g:=by
 cases hg:isGoal g s with
 |true=>exact .inl rfl
 |false=>
  right
  by_cases he:on (endL N g) s
  ·rw[optsL_on h hg he] at e
   exact zm (C:=fun t=>t=s) (fun t ht=>by subst ht;exact⟨h,hg,.inl (List.map_eq_nil_iff.mp e)⟩) s rfl
  ·refine zm (C:=fun t=>t<N.length/\¬on (endL N g) t) (fun t ht=>?_) s ⟨h,he⟩
   obtain⟨o,ho,hl⟩:=end_not ht.1 ht.2
   rw[ta10 ht.1] at ho
   split at ho
   ·cases ho
   ·rename_i q
    obtain⟨c,hc,rfl⟩:=List.mem_map.mp ho
    refine⟨ht.1,by simpa using q,.inr ⟨c,hc,fun w hw=>⟨(ga G hc).2.1 w hw,fun z=>?_⟩⟩⟩
    have:=(li10 (o:=optOf 0 c)).mpr ⟨w,hw,z⟩
    exact absurd (this.symm.trans hl) (by decide)
theorem os10{s:Nat}(h:s<N.length)(e:(optsL N g).getD s []≠[]):isGoal g s=false/\on (endL N g) s/\(optsL N g).getD s []=(choicesOf N s).map (optOf 0):=by
 have he:on (endL N g) s:=by
  apply Classical.byContradiction
  intro q
  unfold optsL at e
  rw[where_at h,if_neg (by rw[decide_eq_true_eq];exact q)] at e
  exact e rfl
 have hg:isGoal g s=false:=by
  cases hg:isGoal g s with
  |false=>rfl
  |true=>
   unfold optsL at e
   rw[where_at h,if_pos (decide_eq_true (p:=(endL N g).getD s 0≠0) he),ta10 h,if_pos hg] at e
   exact absurd rfl e
 exact⟨hg,he,optsL_on h hg he⟩
theorem optsL_mem{os:List Opt}(h:os∈optsL N g):∀o∈os,∃s,∃c∈choicesOf N s,o=optOf 0 c:=fun o ho=>by
 obtain⟨s,hs,rfl⟩:=List.mem_map.mp h
 split at ho
 ·rw[ta10 (List.mem_range.mp hs)] at ho
  split at ho
  ·cases ho
  ·obtain⟨c,hc,rfl⟩:=List.mem_map.mp ho
   exact⟨s,c,hc,rfl⟩
 ·cases ho
theorem oo10(G:Good N):(∀os∈optsL N g,∀o∈os,∀w∈o.ways,w.1<N.length)/\∀os∈optsL N g,∀o∈os,0<o.tot:=by
 refine⟨fun os hos o ho w hw=>?_,fun os hos o ho=>?_⟩
 ·obtain⟨s,c,hc,rfl⟩:=optsL_mem hos o ho
  exact (ga G hc).2.1 w hw
 ·obtain⟨s,c,hc,rfl⟩:=optsL_mem hos o ho
  have:=(ga G hc).1
  show (0:Int)<((c.weight:Nat):Int)
  omega
structure FitL(N:Net)(g:Nat)(π:List Int):Prop where
 fit:Fits (optsL N g) N.length π
 no:∀s,s<N.length->((optsL N g).getD s []).length=0->π.getD s 0=(zeros N.length).getD s 0
theorem sysL{π:List Int}(F:Fits (optsL N g) N.length π){s:Nat}(hs:s<N.length):((optsL N g).getD s []=[]/\sysOf (optsL N g) (endsL N g) π s=⟨1,[],(((endsL N g).getD s 0:Int):Rat)⟩)\/((optsL N g).getD s []≠[]/\∃c∈choicesOf N s,sysOf (optsL N g) (endsL N g) π s=eqnO (optOf 0 c)):=by
 unfold sysOf eqnOf
 by_cases h:((optsL N g).getD s []).length=0
 ·exact .inl ⟨List.length_eq_zero_iff.mp h,by rw[if_pos h]⟩
 ·have ne:(optsL N g).getD s []≠[]:=fun e=>h (by rw[e];rfl)
  refine .inr ⟨ne,?_⟩
  have fit:=(F.at_ s hs h).2
  have e:=(os10 hs ne).2.2
  rw[if_neg h]
  rw[e] at fit ⊢
  rw[List.length_map] at fit
  refine⟨(choicesOf N s)[(π.getD s 0).toNat],List.getElem_mem fit,?_⟩
  rw[List.getD_eq_getElem?_getD,List.getElem?_map,List.getElem?_eq_getElem fit];rfl
theorem keepsL(G:Good N){π:List Int}(F:Fits (optsL N g) N.length π):∃u,Keeps (sysOf (optsL N g) (endsL N g) π) N.length u:=by
 refine Proper.keeps (K:=16000) (fun C hne hC=>?_) (lead_of fun s hs=>?_)
 ·apply Classical.byContradiction
  intro no
  have cl:∀s,C s->on (endL N g) s/\∃o∈(till N g 0).getD s [],∀w∈o.ways,C w.1:=fun s hs=>by
   obtain⟨hn,ne⟩:=hC s hs
   rcases sysL F hn with ⟨_,e⟩ | ⟨q,c,hc,e⟩
   ·rw[e] at ne;exact absurd rfl ne
   ·obtain⟨hg,he,_⟩:=os10 hn q
    refine⟨he,optOf 0 c,by rw[ta10 hn,if_neg (by rw[hg];simp)];exact List.mem_map.mpr ⟨c,hc,rfl⟩,fun w hw=>?_⟩
    apply Classical.byContradiction
    intro z
    exact no ⟨s,hs,(w.1,(w.2:Rat)),by rw[e];exact List.mem_map.mpr ⟨w,hw,rfl⟩,z⟩
  obtain⟨s,hs⟩:=hne
  exact end_keeps (opts:=till N g 0) (n:=N.length) (fun s hs=>(cl s hs).2) s hs (cl s hs).1
 ·rcases sysL F hs with ⟨_,e⟩ | ⟨_,c,hc,e⟩
  ·rw[e];exact row_fix N _
  ·rw[e];exact row_opt G hc 0
theorem fitL_next(G:Good N){π:List Int}(F:FitL N g π):FitL N g (nextM (optsL N g) (endsL N g) N.length π):=
 ⟨next_fits (oo10 G).2 F.fit,fun s hs h=>by rw[na hs,if_pos h];exact F.no s hs h⟩
theorem fz:FitL N g (zeros N.length):=
 ⟨⟨by simp[zeros],fun s hs h=>by rw[za];exact⟨by decide,by simp only[Int.toNat_zero];omega⟩⟩,fun _ _ _=>rfl⟩
theorem worstM_stops(G:Good N):∃k,nextM (optsL N g) (endsL N g) N.length (iter (nextM (optsL N g) (endsL N g) N.length) k (zeros N.length))=iter (nextM (optsL N g) (endsL N g) N.length) k (zeros N.length)/\FitL N g (iter (nextM (optsL N g) (endsL N g) N.length) k (zeros N.length)):=
 great_stops (oo10 G).1 (oo10 G).2 (FitL N g) fz (fun _ F=>F.fit) (fun _ F=>F.no) (fun _ F=>keepsL G F.fit) fun _ F=>fitL_next G F
theorem worst_row(G:Good N){π:List Int}(F:FitL N g π)(e:nextM (optsL N g) (endsL N g) N.length π = π) :
  0<(valM (optsL N g) (endsL N g) N.length π).2/\(valM (optsL N g) (endsL N g) N.length π).1.length=N.length /\
  Row_ (worst N g) ((valM (optsL N g) (endsL N g) N.length π).1.map fun z=>-z) (valM (optsL N g) (endsL N g) N.length π).2:=by
 obtain⟨u,K⟩:=keepsL G F.fit
 obtain⟨hb,hl,hv⟩:=val_ok (oo10 G).1 F.fit K
 have opt:=fixed_opt (oo10 (g:=g) G).1 (oo10 (g:=g) G).2 F.fit K e
 obtain⟨l,FS,es,fx⟩:=worst_stops (g:=g) G
 obtain⟨sl,slow,sv⟩:=vo (g:=g) G FS
 obtain⟨uS,KS⟩:=(np10 (g:=g) G FS).keeps (nl13 G FS)
 rw[es]
 generalize hV:valM (optsL N g) (endsL N g) N.length π = V at *
 have rhs0:∀c:Choice,(eqnO (optOf 0 c)).rhs=0:=fun c=>by
  show ((c.gain*0*((c.weight:Nat):Int):Int):Rat)=0
  rw[Int.mul_zero,Int.zero_mul];rfl
 have better:∀s,s<N.length->(optsL N g).getD s []≠[]->∀c∈choicesOf N s,0<=(eqnG 0 c).lhs s (ratOf V):=fun s hs ne c hc=>by
  have:=opt_row G hc (opt s hs (optOf 0 c) (by rw[(os10 hs ne).2.2];exact List.mem_map.mpr ⟨c,hc,rfl⟩))
  rw[Int.mul_zero] at this
  exact this
 have goalV:∀s,s<N.length->isGoal g s=true->ratOf V s = -1:=fun s hs hg=>by
  rcases sysL F.fit hs with ⟨_,e1⟩ | ⟨ne,_⟩
  ·have:=hv s hs
   rw[e1,ea10 hs,if_pos hg] at this
   have h2:1*ratOf V s-0=((-1:Int):Rat):=this
   rw[show ((-1:Int):Rat) = -1 from rfl] at h2
   grind
  ·rw[(os10 hs ne).1] at hg;cases hg
 have noneV:∀s,s<N.length->isGoal g s=false->(optsL N g).getD s []=[]->ratOf V s=0:=fun s hs hg h0=>by
  rcases sysL F.fit hs with ⟨_,e1⟩ | ⟨ne,_⟩
  ·have:=hv s hs
   rw[e1,ea10 hs,if_neg (by rw[hg];simp)] at this
   have h2:1*ratOf V s-0=((0:Int):Rat):=this
   rw[show ((0:Int):Rat)=0 from rfl] at h2
   grind
  ·exact absurd h0 ne
 have Vle:∀s,s<N.length->ratOf V s<=0:=K.le (y:=fun _=>0) fun s hs=>by
  rw[hv s hs,lz]
  rcases sysL F.fit hs with ⟨_,e1⟩ | ⟨_,c,hc,e1⟩
  ·rw[e1,ea10 hs]
   split
   ·show ((-1:Int):Rat)<=0;decide
   ·show ((0:Int):Rat)<=0;decide
  ·rw[e1,rhs0];exact Rat.le_refl
 have Vz:∀s,s∈zW N g->ratOf V s=0:=fun s hs=>by
  apply Classical.byContradiction
  intro ne
  obtain⟨m,hm,cm,most⟩:=exists_max (v:=fun t=>- ratOf V t) N.length (fun t=>t∈zW N g) ⟨s,(zi hs).1,hs⟩
  have m0:ratOf V m<0:=by
   have:=Vle s (zi hs).1
   have:=most s (zi hs).1 hs
   grind
  have cl:∀t,(t∈zW N g/\ratOf V t=ratOf V m)->on (endL N g) t/\∃o∈(till N g 0).getD t [],∀w∈o.ways,(w.1∈zW N g/\ratOf V w.1=ratOf V m):=fun t ⟨tz,te⟩=>by
   obtain⟨tn,tg⟩:=zi tz
   have ne:(optsL N g).getD t []≠[]:=fun z=>by
    have:=noneV t tn tg z
    grind
   obtain⟨_,he,eo⟩:=os10 tn ne
   rcases zW_stay tz with z | ⟨c,hc,hw⟩
   ·rw[z] at eo;exact absurd eo ne
   ·refine⟨he,optOf 0 c,by rw[ta10 tn,if_neg (by rw[tg];simp)];exact List.mem_map.mpr ⟨c,hc,rfl⟩,?_⟩
    have b:=better t tn ne c hc
    have rc:=rc10 G hc 0
    obtain⟨_,_,one⟩:=rc.row.resolve_left fun y=>by
     have:(1:Rat)=1:=rfl
     exact ways_ne G hc (List.map_eq_nil_iff.mp (List.map_eq_nil_iff.mp (show ((c.ways.map fun w=>(w.1,fr (w.2:Nat) c.weight)).map fun y=>(y.1,val y.2))=[] from y.2)))
    have one:wd (eqnG 0 c).ways (fun _=>1)=1:=one
    obtain⟨w1,w2⟩:=wd_most (v:=fun t=>- ratOf V t) (M:=- ratOf V m) (ws:=(eqnG 0 c).ways) fun w hw'=>by
     obtain⟨w',hw'',ew⟩:=part_way hw'
     refine⟨(rc.way w hw').2.1,?_⟩
     rw[ew]
     have z:=hw w' hw''
     exact most _ (zi z).1 z
    rw[one,wd_neg] at w1 w2
    have b2:0<=1*ratOf V t-wd (eqnG 0 c).ways (ratOf V):=b
    have eq:=w2 (by rw[te] at b2;grind)
    intro w hw'
    refine⟨hw w hw',?_⟩
    obtain⟨w',h1,h2⟩:=way_part (r:=0) hw'
    have:=eq w' h1
    rw[h2] at this
    grind
  exact end_keeps (opts:=till N g 0) (n:=N.length) (C:=fun t=>t∈zW N g/\ratOf V t=ratOf V m) (fun t ht=>(cl t ht).2) m ⟨cm,rfl⟩ (cl m ⟨cm,rfl⟩).1
 have xle:∀s,s<N.length->xL N g l s<=0:=KS.le (y:=fun _=>0) fun s hs=>by
  rw[sv s hs,lz]
  cases hg:isGoal g s with
  |true=>rw[ng hg];show (-1:Rat)<=0;decide
  |false=>
   by_cases hz:s∈zW N g
   ·rw[nsys_z hz];exact Rat.le_refl
   ·obtain⟨c,hc,_,e1⟩:=ns10 FS hs hg hz
    rw[e1];exact Rat.le_refl
 have goalx:∀s,s<N.length->isGoal g s=true->xL N g l s = -1:=fun s hs hg=>by
  have:=sv s hs
  rw[ng hg] at this
  have h2:1*xL N g l s-0 = -1:=this
  grind
 have zx:∀s,s∈zW N g->xL N g l s=0:=fun s hz=>by
  have:=sv s (zi hz).1
  rw[nsys_z hz] at this
  have h2:1*xL N g l s-0=0:=this
  grind
 have le:∀s,s<N.length->xL N g l s<=ratOf V s:=KS.le fun s hs=>by
  rw[sv s hs]
  cases hg:isGoal g s with
  |true=>
   have:=goalV s hs hg
   rw[ng hg]
   show (-1:Rat)<=1*ratOf V s-0
   grind
  |false=>
   by_cases hz:s∈zW N g
   ·have:=Vz s hz
    rw[nsys_z hz]
    show (0:Rat)<=1*ratOf V s-0
    grind
   ·obtain⟨c,hc,_,e1⟩:=ns10 FS hs hg hz
    rw[e1]
    have ne:(optsL N g).getD s []≠[]:=fun z=>by
     rcases optsL_no G hs z with q | q
     ·rw[hg] at q;cases q
     ·exact hz q
    exact better s hs ne c hc
 have ge:∀s,s<N.length->ratOf V s<=xL N g l s:=K.le fun s hs=>by
  rw[hv s hs]
  rcases sysL F.fit hs with ⟨h0,e1⟩ | ⟨ne,c,hc,e1⟩
  ·rw[e1,ea10 hs]
   rcases optsL_no G hs h0 with hg | hz
   ·have:=goalx s hs hg
    rw[if_pos hg]
    show ((-1:Int):Rat)<=1*xL N g l s-0
    rw[show ((-1:Int):Rat) = -1 from rfl];grind
   ·have:=zx s hz
    rw[if_neg (by rw[(zi hz).2];simp)]
    show ((0:Int):Rat)<=1*xL N g l s-0
    rw[show ((0:Int):Rat)=0 from rfl];grind
  ·obtain⟨hg,_,_⟩:=os10 hs ne
   obtain⟨a,_,d⟩:=opt_scale (ga G hc).1 0 0 s (xL N g l)
   rw[e1,rhs0,a]
   refine Rat.mul_nonneg (Rat.le_of_lt d) ?_
   by_cases hz:s∈zW N g
   ·have z:=zx s hz
    have w:=wd_mono (n:=N.length) xle (ws:=(eqnG 0 c).ways) (fun w hw=>((rc10 G hc 0).way w hw).1) fun w hw=>Rat.le_of_lt ((rc10 G hc 0).way w hw).2.1
    have z0:=lz (eqnG 0 c) s
    simp only[Eqn.lhs] at z0 ⊢
    show 0<=1*xL N g l s-_
    have z1:1*(0:Rat)-wd (eqnG 0 c).ways (fun _=>0)=0:=z0
    grind
   ·exact (cr G FS s hs).2.2 (by rw[fx]) hg hz c hc
 refine⟨hb,hl,⟨by rw[sl,List.length_map,hl],fun s hs=>?_⟩⟩
 rw[List.length_map,hl] at hs
 refine is_val (slow s hs).pos hb ?_
 have e1:=le s hs
 have e2:=ge s hs
 have hn:(V.1.map fun z=>-z).getD s 0 = - V.1.getD s 0:=by
  rw[List.getD_eq_getElem?_getD,List.getElem?_map,List.getElem?_eq_getElem (by omega),List.getD_eq_getElem?_getD,List.getElem?_eq_getElem (by omega)];rfl
 rw[hn,Rat.intCast_neg]
 have e3:val (at_ (valL N g l) s) = - ratOf V s:=by unfold xL at e1 e2;grind
 rw[e3]
 unfold ratOf
 rw[Rat.div_def,Rat.div_def];grind
end
end La
end
noncomputable section
namespace Ck
open PySem PySem.Spec PyProof.Rows L2
def rdF(l:Addr)(p:Int):List (Str×V):=putF "place" (.int p) (putF "text" (.ref l) [])
theorem rt10(l:Addr)(p:Int):(rdF l p).lookup ("text":Str)=some (.ref l):=by
 unfold rdF;rw[lp10,if_neg (by decide),lp10,if_pos rfl]
theorem rp10(l:Addr)(p:Int):(rdF l p).lookup ("place":Str)=some (.int p):=by
 unfold rdF;rw[lp10,if_pos rfl]
theorem rn(l:Addr)(p:Int){m:Str}(h1:¬m = "place")(h2:¬m = "text"):(rdF l p).lookup m=none:=by
 unfold rdF;rw[lp10,if_neg h1,lp10,if_neg h2];rfl
theorem rdF_put(l:Addr)(p q:Int):putF "place" (.int q) (rdF l p)=rdF l q:=rfl
def byts(bs:List Nat):List V:=bs.map fun (b:Nat)=>V.int (b:Int)
theorem bl10(bs:List Nat):(byts bs).length=bs.length:=by unfold byts;rw[List.length_map]
def pl(bs rest:List Nat):Int:=((bs.length-rest.length:Nat):Int)
structure RAt(K:PySem.W.Frag)(t:Adr)(H:Hp)(r dx l:Addr)(bs rest:List Nat):Prop where
 ins:H r=some (.ins t.cR dx (rdF l (pl bs rest)))
 txt:SqL K H l (byts bs)
 suf:rest <:+ bs
 len:bs.length<=65536
def RPut(t:Adr)(H:Hp)(r dx l:Addr)(bs rest:List Nat):Hp:=upd H r (.ins t.cR dx (rdF l (pl bs rest)))
def Kp(r:Addr)(H H':Hp):Prop:=∀b o,b≠r->H b=some o->H' b=some o
theorem Kp.refl(r:Addr)(H:Hp):Kp r H H:=fun _ _ _ e=>e
theorem Kp.trans{r:Addr}{H H1 H2:Hp}(a:Kp r H H1)(b:Kp r H1 H2):Kp r H H2:=fun c o h e=>b c o h (a c o h e)
theorem Kp.upd{r:Addr}{H:Hp}{o:HO}:Kp r H (upd H r o):=fun b u h e=>by rw[un10 h];exact e
theorem Kp.of{r:Addr}{H H':Hp}(s:Same H H'):Kp r H H':=fun b o _ e=>s b o e
theorem sql_upd{K:PySem.W.Frag}{H:Hp}{a r:Addr}{xs:List V}{o u:HO}(h:SqL K H a xs)(e:H r=some u)(hu:∀ys ob,u≠.lst ys/\u≠.frz ob (.lst ys)):SqL K (upd H r o) a xs:=by
 rcases h with (h | ⟨ob,h⟩) | h
 ·exact .inl (.inl (by rw[un10 (fun z=>by rw[z,e] at h;cases h;exact (hu xs ⟨.none,none,.seq #[] 0,#[]⟩).1 rfl)];exact h))
 ·exact .inl (.inr ⟨ob,by rw[un10 (fun z=>by rw[z,e] at h;cases h;exact (hu xs ob).2 rfl)];exact h⟩)
 ·exact .inr h
theorem RAt.put{K:PySem.W.Frag}{t:Adr}{H:Hp}{r dx l:Addr}{bs rest rest':List Nat}(R:RAt K t H r dx l bs rest)(s:rest' <:+ bs):RAt K t (RPut t H r dx l bs rest') r dx l bs rest':=
 ⟨us10,sql_upd R.txt R.ins fun _ _=>⟨fun z=>(by cases z),fun z=>(by cases z)⟩,s,R.len⟩
theorem Rp{t:Adr}{H:Hp}{r dx l:Addr}{bs x y:List Nat}:RPut t (RPut t H r dx l bs x) r dx l bs y=RPut t H r dx l bs y:=uu
theorem RAt.same{K:PySem.W.Frag}{t:Adr}{H H':Hp}{r dx l:Addr}{bs rest:List Nat}(R:RAt K t H r dx l bs rest)(s:Same H H'):RAt K t H' r dx l bs rest:=⟨s _ _ R.ins,s.seq R.txt,R.suf,R.len⟩
theorem RAt.self{K:PySem.W.Frag}{t:Adr}{H:Hp}{r dx l:Addr}{bs rest:List Nat}(R:RAt K t H r dx l bs rest):RPut t H r dx l bs rest=H:=by
 funext b
 unfold RPut upd
 split
 ·rename_i e;rw[e];exact R.ins.symm
 ·rfl
theorem suf_get{bs rest:List Nat}(s:rest <:+ bs)(i:Nat):bs[bs.length-rest.length+i]? = rest[i]?:=by
 obtain⟨p,rfl⟩:=s
 rw[List.length_append,Nat.add_sub_cancel,List.getElem?_append_right (by omega)]
 congr 1;omega
theorem suf_drop{bs rest:List Nat}(s:rest <:+ bs):bs.drop (bs.length-rest.length)=rest:=by
 obtain⟨p,rfl⟩:=s
 rw[List.length_append,Nat.add_sub_cancel,List.drop_left]
theorem byts_at{bs rest:List Nat}(s:rest <:+ bs){c:Nat}{r:List Nat}(e:rest=c::r):atI (byts bs) (pl bs rest)=some (.int (c:Int)):=by
 refine an10 ?_
 unfold byts
 rw[List.getElem?_map]
 have:=suf_get s 0
 rw[Nat.add_zero,e] at this
 rw[e,this];rfl
section
variable{P:Program}{w:World}{K:PySem.W.Frag}{mg:Str->Option Value}{base:Heap}{t:Adr}
def sp_here(K:PySem.W.Frag)(t:Adr):Sp:=fun vs H Q _=>∃r dx l bs rest,vs=[.ref r]/\RAt K t H r dx l bs rest/\Q (.int (Rd.here rest:Nat)) H
theorem oh(T:Txt K mg t):Ok P w K mg base 1 t.fRh10 t.fRh ["self"] (sp_here K t):=by
 refine T.Reader_here.fn.okX sRh (fun vs H Q E h=>?_) fun cdv A outer s H vs Q E hr h=>?_
 ·obtain⟨r,dx,l,bs,rest,rfl,_⟩:=h;rfl
 ·obtain⟨r,dx,l,bs,rest,rfl,R,h⟩:=h
  refine⟨_,pc11 (ps_if (pc13 op_lt (pf11 (pv 0) rfl) (pc12 cls10 (by rfl) T.b_len bl11 (pc (pf11 (pv 0) rfl) pn10)) (nomark _))
   (po10 (pr10 (pi10 ix_list (pf11 (pv 0) rfl) (pf11 (pv 0) rfl) (fun _ _=>rfl)))) pn13) (po10 (pr10 (pg10 T.gTE rfl))),?_⟩
  refine⟨_,rfl,r,_,dx,_,_,rfl,R.ins,T.kR.cl,T.nRp,rp10 _ _,_,rfl,r,_,dx,_,_,rfl,R.ins,T.kR.cl,T.nRt,rt10 _ _,l,_,rfl,.inl R.txt,_,_,rfl,rfl,_,rfl,?_⟩
  rw[bl10]
  have hl:=R.suf.length_le
  cases e:rest with
  |nil=>
   rw[e] at h
   rw[show decide (pl bs []<(bs.length:Int))=false from decide_eq_false (by unfold pl;simp)]
   exact iteF h
  |cons c q=>
   rw[show decide (pl bs (c::q)<(bs.length:Int))=true from decide_eq_true (by rw[e] at hl;simp at hl;unfold pl;simp;omega)]
   rw[e] at h
   refine iteT ⟨_,rfl,r,_,dx,_,_,rfl,R.ins,T.kR.cl,T.nRt,rt10 _ _,_,rfl,r,_,dx,_,_,rfl,R.ins,T.kR.cl,T.nRp,rp10 _ _,l,_,_,_,rfl,rfl,R.txt,byts_at R.suf e,?_⟩
   exact h
theorem st10{bs rest:List Nat}(s:rest <:+ bs):rest.tail <:+ bs:=(List.tail_suffix rest).trans s
theorem pl_tail{bs rest:List Nat}(s:rest <:+ bs)(h:rest≠[]):pl bs rest+1=pl bs rest.tail:=by
 have:=s.length_le
 have:0<rest.length:=List.length_pos_iff.mpr h
 unfold pl
 rw[List.length_tail]
 omega
theorem pt10{t:Adr}{H:Hp}{r dx l:Addr}{bs rest:List Nat}(s:rest <:+ bs)(h:rest≠[]) :
  upd H r (.ins t.cR dx (putF "place" (.int (pl bs rest+1)) (rdF l (pl bs rest))))=RPut t H r dx l bs rest.tail:=by
 rw[rdF_put,pl_tail s h];rfl
theorem here_nil:Rd.here []=256:=rfl
theorem hc10(c:Nat)(r:List Nat):Rd.here (c::r)=c:=rfl
def sp_skip(K:PySem.W.Frag)(t:Adr)(f:List Nat->List Nat):Sp:=fun vs H Q _=>∃r dx l bs rest,vs=[.ref r]/\RAt K t H r dx l bs rest/\(∀c∈bs,c<256)/\Q .non (RPut t H r dx l bs (f rest))
theorem dec_nat{i j:Nat}:decide (V.int (i:Int)=V.int (j:Int))=decide (i=j):=by
 rw[di,Bool.eq_iff_iff,beq_iff_eq,decide_eq_true_eq];omega
theorem osr(T:Txt K mg t):Ok P w K mg base 2 t.fRs11 t.fRs ["self"] (sp_skip K t fun b=>b.dropWhile fun x=>x != 10):=by
 refine T.Reader_skip_remark.fn.okX sRs (fun vs H Q E h=>?_) fun cdv A outer s H vs Q E hr h=>?_
 ·obtain⟨r,dx,l,bs,rest,rfl,_⟩:=h;rfl
 ·obtain⟨r,dx,l,bs,rest,rfl,R,hb,h⟩:=h
  refine⟨_,po10 (pw10 po12 (PW.pt (pw_and (pc13 op_ne (pm10 T.kR T.Reader_here (oh T) hr pass1 (pv 0)) (pg10 T.gLE rfl) (nomark _))
   (pw_and1 (pc13 op_ne (pm10 T.kR T.Reader_here (oh T) hr pass1 (pv 0)) (pg10 T.gTE rfl) (nomark _))))) (po10 (pf13 (pv 0) pi in_add))),?_⟩
  refine⟨fun m σ H'=>∃x,x <:+ bs/\(x.dropWhile fun y=>y != 10)=(rest.dropWhile fun y=>y != 10)/\m=x.length/\σ=[some (.ref r)]/\H'=RPut t H r dx l bs x,⟨_,rest,R.suf,rfl,rfl,rfl,R.self.symm⟩,?_⟩
  rintro m σ H' ⟨x,hx,ex,rfl,rfl,rfl⟩
  have R':=R.put hx
  have nh:(rdF l (pl bs x)).lookup ("here":Str)=none:=rn _ _ (by decide) (by decide)
  refine⟨_,rfl,r,dx,_,rfl,R'.ins,nh,r,dx,l,bs,x,rfl,R',rfl,_,rfl,?_⟩
  cases x with
  |nil=>
   refine iteT ⟨_,rfl,r,dx,_,rfl,R'.ins,nh,r,dx,l,bs,[],rfl,R',rfl,_,rfl,iteF ?_⟩
   have h:Q V.non (RPut t H r dx l bs (rest.dropWhile fun y=>y != 10)):=h
   rw[<-ex] at h
   exact h
  |cons c q=>
   have hc:c<256:=hb c (hx.subset List.mem_cons_self)
   rw[hc10]
   by_cases e10:c=10
   ·subst e10
    refine iteF (iteF ?_)
    have h:Q V.non (RPut t H r dx l bs (rest.dropWhile fun y=>y != 10)):=h
    rw[<-ex] at h
    exact h
   ·have e1:(!decide (V.int ((c:Nat):Int)=V.int 10))=true:=by rw[show decide (V.int ((c:Nat):Int)=V.int 10)=decide (c=10) from dec_nat,decide_eq_false e10];rfl
    have e2:(!decide (V.int ((c:Nat):Int)=V.int 256))=true:=by rw[show decide (V.int ((c:Nat):Int)=V.int 256)=decide (c=256) from dec_nat,decide_eq_false (by omega)];rfl
    refine brT e1 ⟨_,rfl,r,dx,_,rfl,R'.ins,nh,r,dx,l,bs,c::q,rfl,R',rfl,_,rfl,brT e2 ?_⟩
    refine⟨fun σ H'=>σ=[some (.ref r)]/\H'=RPut t H r dx l bs q,?_,?_⟩
    ·rintro σ' H' ⟨rfl,rfl⟩
     exact⟨q.length,Nat.lt_succ_self _,q,st10 hx,by rw[<-ex,List.dropWhile_cons_of_pos (by simpa using e10)],rfl,rfl,rfl⟩
    ·refine⟨_,rfl,r,_,dx,_,_,rfl,R'.ins,T.kR.cl,T.nRp,rp10 _ _,_,_,rfl,rfl,dx,_,R'.ins,(by show 2<1000;decide),?_⟩
     refine⟨rfl,?_⟩
     rw[pt10 hx (by simp),Rp]
     rfl
end
end Ck
end
noncomputable section
namespace Ck
open PySem PySem.Spec PyProof.Rows L2
section
variable{P:Program}{w:World}{K:PySem.W.Frag}{mg:Str->Option Value}{base:Heap}{t:Adr}
theorem ss10{bs x:List Nat}(s:x <:+ bs):Rd.skip false x <:+ bs:=(Rd.ss12 false x).trans s
theorem nh10{l:Addr}{p:Int}:(rdF l p).lookup ("here":Str)=none:=rn _ _ (by decide) (by decide)
theorem osb(T:Txt K mg t):Ok P w K mg base 3 t.fRs12 t.fRs10 ["self"] (sp_skip K t (Rd.skip false)):=by
 refine T.Reader_skip_blanks.fn.okX sRs10 (fun vs H Q E h=>?_) fun cdv A outer s H vs Q E hr h=>?_
 ·obtain⟨r,dx,l,bs,rest,rfl,_⟩:=h;rfl
 ·obtain⟨r,dx,l,bs,rest,rfl,R,hb,h⟩:=h
  have hr1:=hr.mono (show 1<=2 by decide)
  refine⟨_,po10 (pw10 po12 (PW.pt (pw_or (pc13 ol10 (pm10 T.kR T.Reader_here (oh T) hr1 pass1 (pv 0)) (pg10 T.g_BLANK rfl) (nomark _))
   (pw_or1 (pc13 op_eq (pm10 T.kR T.Reader_here (oh T) hr1 pass1 (pv 0)) (pg10 T.g_HASH rfl) (nomark _)))))
   (po10 (ps_if (pc13 op_eq (pm10 T.kR T.Reader_here (oh T) hr1 pass1 (pv 0)) (pg10 T.g_HASH rfl) (nomark _))
    (po10 (pe10 (pm10 T.kR T.Reader_skip_remark (osr T) hr pass1 (pv 0)))) (po10 (pf13 (pv 0) pi in_add))))),?_⟩
  refine⟨fun m σ H'=>∃x,x <:+ bs/\Rd.skip false x=Rd.skip false rest/\m=x.length/\σ=[some (.ref r)]/\H'=RPut t H r dx l bs x,⟨_,rest,R.suf,rfl,rfl,rfl,R.self.symm⟩,?_⟩
  rintro m σ H' ⟨x,hx,ex,rfl,rfl,rfl⟩
  have R':=R.put hx
  rw[<-ex] at h
  refine⟨_,rfl,r,dx,_,rfl,R'.ins,nh10,r,dx,l,bs,x,rfl,R',_,_,rfl,rfl,_,rfl,?_⟩
  cases x with
  |nil=>exact iteF ⟨_,rfl,r,dx,_,rfl,R'.ins,nh10,r,dx,l,bs,[],rfl,R',rfl,_,rfl,iteF h⟩
  |cons c q=>
   have hc:c<256:=hb c (hx.subset List.mem_cons_self)
   have step:∀e:(Rd.skip false (c::q)=Rd.skip false q),∀(e2:c≠35),∃N:L2.St->Hp->Prop,(∀σ' H',N σ' H'->∃m',m'<(c::q).length/\∃x,x <:+ bs/\Rd.skip false x=Rd.skip false rest/\m'=x.length/\σ'=[some (.ref r)]/\H'=RPut t H r dx l bs x) /\
     N [some (.ref r)] (RPut t H r dx l bs q):=fun e _=>
    ⟨fun σ H'=>σ=[some (.ref r)]/\H'=RPut t H r dx l bs q,fun σ' H' ⟨a,b⟩=>⟨q.length,Nat.lt_succ_self _,q,st10 hx,by rw[<-ex,e],rfl,a,b⟩,rfl,rfl⟩
   by_cases e32:c<=32
   ·have ne35:c≠35:=by omega
    obtain⟨N,n1,n2⟩:=step (by simp[Rd.skip,e32]) ne35
    refine brT (decide_eq_true (show ((c:Nat):Int)<=32 by omega)) (iteT ⟨N,n1,?_⟩)
    refine⟨_,rfl,r,dx,_,rfl,R'.ins,nh10,r,dx,l,bs,c::q,rfl,R',rfl,_,rfl,brF (by rw[hc10];exact decide_eq_false (fun z=>ne35 (by injection z with z;omega))) ?_⟩
    refine⟨_,rfl,r,_,dx,_,_,rfl,R'.ins,T.kR.cl,T.nRp,rp10 _ _,_,_,rfl,rfl,dx,_,R'.ins,(by show 2<1000;decide),?_⟩
    rw[pt10 hx (by simp),Rp]
    exact n2
   ·refine brF (decide_eq_false (show ¬((c:Nat):Int)<=32 by omega)) ?_
    refine⟨_,rfl,r,dx,_,rfl,R'.ins,nh10,r,dx,l,bs,c::q,rfl,R',rfl,_,rfl,?_⟩
    by_cases e35:c=35
    ·subst e35
     have e0:Rd.skip false (35::q)=Rd.skip false (q.dropWhile fun y=>y != 10):=by
      rw[<-Rd.skip_true];simp[Rd.skip]
     have e1:((35::q).dropWhile fun y=>y != 10)=q.dropWhile fun y=>y != 10:=by rw[List.dropWhile_cons_of_pos (by decide)]
     refine iteT ⟨fun σ H'=>σ=[some (.ref r)]/\H'=RPut t H r dx l bs (q.dropWhile fun y=>y != 10),?_,?_⟩
     ·rintro σ' H' ⟨rfl,rfl⟩
      exact⟨_,Nat.lt_succ_of_le (Rd.dl10 _ q),q.dropWhile (fun y=>y != 10),(List.dropWhile_suffix (l:=q) _).trans (st10 hx),by rw[<-ex,e0],rfl,rfl,rfl⟩
     ·refine⟨_,rfl,r,dx,_,rfl,R'.ins,nh10,r,dx,l,bs,35::q,rfl,R',rfl,_,rfl,iteT ?_⟩
      refine⟨_,rfl,r,dx,_,rfl,R'.ins,rn _ _ (by decide) (by decide),r,dx,l,bs,35::q,rfl,R',hb,?_⟩
      refine⟨rfl,?_⟩
      show RPut t (RPut t H r dx l bs (35::q)) r dx l bs ((35::q).dropWhile fun y=>y != 10)=_
      rw[Rp,e1]
    ·refine brF (by rw[hc10];exact decide_eq_false (fun z=>e35 (by injection z with z;omega))) ?_
     have e:Rd.skip false (c::q)=c::q:=by simp[Rd.skip,e32,e35]
     rw[e] at h
     exact h
theorem ok_at_end(T:Txt K mg t):Ok P w K mg base 4 t.fRa10 t.fRa ["self"] (fun vs H Q _=>∃r dx l bs rest,vs=[.ref r]/\RAt K t H r dx l bs rest/\(∀c∈bs,c<256)/\Q (.bl (decide (Rd.skip false rest=[]))) (RPut t H r dx l bs (Rd.skip false rest))):=by
 refine T.Reader_at_end.fn.okX sRa (fun vs H Q E h=>?_) fun cdv A outer s H vs Q E hr h=>?_
 ·obtain⟨r,dx,l,bs,rest,rfl,_⟩:=h;rfl
 ·obtain⟨r,dx,l,bs,rest,rfl,R,hb,h⟩:=h
  refine⟨_,pc11 (pe10 (pm10 T.kR T.Reader_skip_blanks (osb T) hr pass1 (pv 0))) (po10 (pr10 (pc14 op_eq (pm10 T.kR T.Reader_here (oh T) (hr.mono (by decide)) pass1 (pv 0)) (pg10 T.gTE rfl) (nomark _)))),?_⟩
  have R':=R.put (ss10 R.suf)
  refine⟨_,rfl,r,dx,_,rfl,R.ins,rn _ _ (by decide) (by decide),r,dx,l,bs,rest,rfl,R,hb,?_⟩
  refine⟨_,rfl,r,dx,_,rfl,R'.ins,nh10,r,dx,l,bs,_,rfl,R',rfl,?_⟩
  have e:decide (V.int (Rd.here (Rd.skip false rest):Nat)=V.int 256)=decide (Rd.skip false rest=[]):=by
   rw[show decide (V.int (Rd.here (Rd.skip false rest):Nat)=V.int 256)=decide (Rd.here (Rd.skip false rest)=256) from dec_nat,Bool.eq_iff_iff,decide_eq_true_eq,decide_eq_true_eq]
   cases e:Rd.skip false rest with
   |nil=>simp[here_nil]
   |cons c q=>
    have:c<256:=hb c ((ss10 R.suf).subset (by rw[e];exact List.mem_cons_self))
    rw[hc10];simp;omega
  show Q (.bl (decide (V.int (Rd.here (Rd.skip false rest):Nat)=V.int 256))) _
  rw[e];exact h
def sp_passes(K:PySem.W.Frag)(t:Adr):Sp:=fun vs H Q _=>∃r dx l bs rest,∃m:Nat,vs=[.ref r,.int m]/\m<256/\RAt K t H r dx l bs rest/\(∀c∈bs,c<256)/\Q (.bl (Rd.passes m rest).1) (RPut t H r dx l bs (Rd.passes m rest).2)
theorem ps11{m:Nat}{bs rest:List Nat}(s:rest <:+ bs):(Rd.passes m rest).2 <:+ bs:=by
 unfold Rd.passes
 split
 ·exact st10 (ss10 s)
 ·exact ss10 s
theorem op10(T:Txt K mg t):Ok P w K mg base 4 t.fRp10 t.fRp ["self","mark"] (sp_passes K t):=by
 refine T.Reader_passes.fn.okX sRp (fun vs H Q E h=>?_) fun cdv A outer s H vs Q E hr h=>?_
 ·obtain⟨r,dx,l,bs,rest,m,rfl,_⟩:=h;rfl
 ·obtain⟨r,dx,l,bs,rest,m,rfl,hm,R,hb,h⟩:=h
  refine⟨_,pc11 (pe10 (pm10 T.kR T.Reader_skip_blanks (osb T) hr pass1 (pv 0)))
   (pc11 (ps_if (pc13 op_ne (pm10 T.kR T.Reader_here (oh T) (hr.mono (by decide)) pass1 (pv 0)) (pv 1) (nomark _)) (po10 (pr10 pe_bl)) pn13)
   (pc11 (pf13 (pv 0) pi in_add) (po10 (pr10 pe_bl)))),?_⟩
  have R':=R.put (ss10 R.suf)
  refine⟨_,rfl,r,dx,_,rfl,R.ins,rn _ _ (by decide) (by decide),r,dx,l,bs,rest,rfl,R,hb,?_⟩
  refine⟨_,rfl,r,dx,_,rfl,R'.ins,nh10,r,dx,l,bs,_,rfl,R',_,rfl,rfl,_,rfl,?_⟩
  unfold Rd.passes at h
  by_cases e:Rd.here (Rd.skip false rest)=m
  ·rw[if_pos e] at h
   refine brF (by rw[dec_nat,decide_eq_true e];rfl) ?_
   have hne:Rd.skip false rest≠[]:=fun z=>by rw[z,here_nil] at e;omega
   refine⟨_,rfl,r,_,dx,_,_,rfl,R'.ins,T.kR.cl,T.nRp,rp10 _ _,_,_,rfl,rfl,dx,_,R'.ins,(by show 2<1000;decide),?_⟩
   rw[pt10 (ss10 R.suf) hne,Rp]
   exact h
  ·rw[if_neg e] at h
   exact brT (by rw[dec_nat,decide_eq_false e];rfl) h
end
end Ck
end
noncomputable section
namespace Ck
open PySem PySem.Spec PyProof.Rows L2
section
variable{P:Program}{w:World}{K:PySem.W.Frag}{mg:Str->Option Value}{base:Heap}{t:Adr}
theorem run_drop{f:Nat->Bool}:∀b:List Nat,b.drop (b.takeWhile f).length=b.dropWhile f
 |[]=>rfl
 |c::r=>by
  by_cases h:f c=true
  ·rw[List.takeWhile_cons_of_pos h,List.dropWhile_cons_of_pos h];exact run_drop r
  ·rw[List.takeWhile_cons_of_neg h,List.dropWhile_cons_of_neg h];rfl
theorem run_len{f:Nat->Bool}(b:List Nat):(b.takeWhile f).length+(b.dropWhile f).length=b.length:=by
 have:=congrArg List.length (List.takeWhile_append_dropWhile (p:=f) (l:=b))
 rw[List.length_append] at this;exact this
theorem cut_run{f:Nat->Bool}{bs c:List Nat}(s:c <:+ bs):cutV (byts bs) (some (pl bs c)) (some (pl bs (c.dropWhile f)))=byts (c.takeWhile f):=by
 have h1:=s.length_le
 have h2:=run_len (f:=f) c
 unfold cutV pl
 rw[HT.sIx_nat,HT.sIx_nat,bl10,Nat.min_eq_left (by omega),Nat.min_eq_left (by omega)]
 unfold byts
 rw[<-List.map_drop,<-List.map_take,suf_drop s]
 congr 1
 rw[show bs.length-(c.dropWhile f).length-(bs.length-c.length)=(c.takeWhile f).length by omega]
 have z:(c.takeWhile f++c.dropWhile f).take (c.takeWhile f).length=c.takeWhile f:=List.take_left
 rw[List.takeWhile_append_dropWhile] at z
 exact z
def OptP{α:Type}(o:Option α)(n:Prop)(s:α->Prop):Prop:=match o with
 |none=>n
 |some x=>s x
def sr{α:Type}(K:PySem.W.Frag)(t:Adr)(f:List Nat->Option (α×List Nat))(rep:α->V->Hp->Prop):Sp:=fun vs H Q E=>∃r dx l bs rest,vs=[.ref r]/\RAt K t H r dx l bs rest/\(∀c∈bs,c<256) /\
 OptP (f rest) (∀H',E (.ref t.xN) none H') fun x=>x.2 <:+ bs/\∀v H',RAt K t H' r dx l bs x.2->Kp r H H'->rep x.1 v H'->Q v H'
def TupI(w:List Nat)(v:V)(H:Hp):Prop:=∃a,v=.ref a/\H a=some (.tup (byts w))
theorem te11(b:List Nat):Rd.takeName b=if Ra61.isLetter (Rd.here (Rd.skip false b))=true then (if ((Rd.skip false b).takeWhile Ra61.isWord).length<=16 then some ((Rd.skip false b).takeWhile Ra61.isWord,(Rd.skip false b).dropWhile Ra61.isWord) else none) else none:=by
 unfold Rd.takeName
 simp only[run_drop]
theorem te10(b:List Nat):Rd.takeNumber b=if 1<=((Rd.skip false b).takeWhile Ra61.isDigit).length/\((Rd.skip false b).takeWhile Ra61.isDigit).length<=7 then (if Ra61.value ((Rd.skip false b).takeWhile Ra61.isDigit)<=1000000 then some (Ra61.value ((Rd.skip false b).takeWhile Ra61.isDigit),(Rd.skip false b).dropWhile Ra61.isDigit) else none) else none:=by
 unfold Rd.takeNumber
 simp only[run_drop]
theorem otn(T:Txt K mg t)(kb:K.In base):Ok P w K mg base 4 t.fRt12 t.fRt11 ["self"] (sr K t Rd.takeName TupI):=by
 refine T.Reader_take_name.fn.okX sRt10 (fun vs H Q E h=>?_) fun cdv A outer s H vs Q E hr h=>?_
 ·obtain⟨r,dx,l,bs,rest,rfl,_⟩:=h;rfl
 ·obtain⟨r,dx,l,bs,rest,rfl,R,hb,h⟩:=h
  have hr1:=hr.mono (show 1<=3 by decide)
  have hr2:=hr.mono (show 2<=3 by decide)
  refine⟨_,pc11 (pe10 (pm10 T.kR T.Reader_skip_blanks (osb T) hr pass1 (pv 0)))
   (pc11 (pe10 (pf10 T.demand (od10 T kb) hr1 rfl (passes1 xo) (pc (pf10 T.is_letter (oil T) hr1 rfl pass1 (pc (pm10 T.kR T.Reader_here (oh T) hr1 pass1 (pv 0)) pn10)) pn10)))
   (pc11 (ps10 (i:=1) sRt10.nd rfl (Or.inl rfl) (pf11 (pv 0) rfl))
   (pc11 (pw10 po12 (pv10 (pf10 T.is_name_byte (oin T) hr2 rfl pass1 (pc (pm10 T.kR T.Reader_here (oh T) hr1 pass1 (pv 0)) pn10))) (po10 (pf13 (pv 0) pi in_add)))
   (pc11 (pe10 (pf10 T.demand (od10 T kb) hr1 rfl (passes1 xo) (pc (pc14 ol10 (po11 op_sub (pf11 (pv 0) rfl) (pv 1)) (pg10 T.gLN rfl) (nomark _)) pn10)))
   (po10 (pr10 (pc16 cto (by rfl) T.b_tuple bt_tuple (pc (pe_slice sl_list (pf11 (pv 0) rfl) (po_some (pv 1)) (po_some (pf11 (pv 0) rfl))) pn10)))))))),?_⟩
  have hc:=ss10 R.suf
  generalize hcc:Rd.skip false rest=c at hc
  have R':=R.put hc
  refine⟨_,rfl,r,dx,_,rfl,R.ins,rn _ _ (by decide) (by decide),r,dx,l,bs,rest,rfl,R,hb,?_⟩
  rw[hcc]
  rw[te11,hcc] at h
  refine⟨_,rfl,r,dx,_,rfl,R'.ins,nh10,r,dx,l,bs,c,rfl,R',_,rfl,_,rfl,?_⟩
  by_cases hL:Ra61.isLetter (Rd.here c)=true
  ·rw[if_pos hL] at h
   refine brT hL ?_
   refine⟨_,rfl,r,_,dx,_,_,rfl,R'.ins,T.kR.cl,T.nRp,rp10 _ _,?_⟩
   refine⟨fun m σ H'=>∃x,x <:+ c/\x.dropWhile Ra61.isWord=c.dropWhile Ra61.isWord/\m=x.length/\σ=[some (.ref r),some (.int (pl bs c))]/\H'=RPut t H r dx l bs x,⟨_,c,List.suffix_refl _,rfl,rfl,rfl,rfl⟩,?_⟩
   rintro m σ H' ⟨x,hx,ex,rfl,rfl,rfl⟩
   have Rx:=R.put (hx.trans hc)
   refine⟨_,rfl,r,dx,_,rfl,Rx.ins,nh10,r,dx,l,bs,x,rfl,Rx,_,rfl,_,rfl,?_⟩
   have done:x=c.dropWhile Ra61.isWord->tSeq (tDrop (tCall (sd10 t) [] E (tCons (tOp (rI0 fun i j=>.bl (decide (i<=j))) (tOp (rI0 fun i j=>.int (i-j)) (tFld K (tVar 0) "place") (tVar 1)) (tC (.int 16))) tNil)))
     (tRet (tCB (fun xs H Q=>∃p ys,xs=[.ref p]/\((SqL K H p ys/\∀l,H l=none->Q (.ref l) (upd H l (.tup ys)))\/(SqT K H p ys/\Q (.ref p) H))) (tCons (tSl (rSlL K) (tFld K (tVar 0) "text") (tPart (tVar 1)) (tPart (tFld K (tVar 0) "place"))) tNil)))
     { nx:=fun _ H'=>Q .non H',rt:=Q } [some (.ref r),some (.int (pl bs c))] (RPut t H r dx l bs x):=by
    intro ed
    subst ed
    refine⟨_,rfl,r,_,dx,_,_,rfl,Rx.ins,T.kR.cl,T.nRp,rp10 _ _,_,rfl,_,_,rfl,rfl,_,_,rfl,rfl,_,rfl,?_⟩
    have hl1:=hc.length_le
    have hl2:=run_len (f:=Ra61.isWord) c
    have e:decide (pl bs (c.dropWhile Ra61.isWord)-pl bs c<=16)=decide ((c.takeWhile Ra61.isWord).length<=16):=by
     rw[Bool.eq_iff_iff,decide_eq_true_eq,decide_eq_true_eq]
     unfold pl;omega
    by_cases hw:(c.takeWhile Ra61.isWord).length<=16
    ·rw[if_pos hw] at h
     refine brT (by rw[e];exact decide_eq_true hw) ?_
     refine⟨_,rfl,r,_,dx,_,_,rfl,Rx.ins,T.kR.cl,T.nRt,rt10 _ _,_,rfl,_,rfl,_,rfl,r,_,dx,_,_,rfl,Rx.ins,T.kR.cl,T.nRp,rp10 _ _,_,rfl,l,_,rfl,Rx.txt,fun p hp=>?_⟩
     rw[cut_run hc]
     refine⟨p,_,rfl,.inl ⟨SqL.of us10,fun a ha=>?_⟩⟩
     have s2:=(su (o:=.lst (byts (c.takeWhile Ra61.isWord))) hp).trans (su (o:=.tup (byts (c.takeWhile Ra61.isWord))) ha)
     refine h.2 _ _ (Rx.same s2) (Kp.trans Kp.upd (Kp.of s2)) ⟨a,rfl,us10⟩
    ·rw[if_neg hw] at h
     exact brF (by rw[e];exact decide_eq_false hw) (h _)
   cases x with
   |nil=>exact brF rfl (done (by rw[<-ex];rfl))
   |cons d q=>
    by_cases hw:Ra61.isWord d=true
    ·refine brT hw ⟨fun σ H'=>σ=[some (.ref r),some (.int (pl bs c))]/\H'=RPut t H r dx l bs q,?_,?_⟩
     ·rintro σ' H' ⟨rfl,rfl⟩
      exact⟨q.length,Nat.lt_succ_self _,q,st10 hx,by rw[<-ex,List.dropWhile_cons_of_pos hw],rfl,rfl,rfl⟩
     ·refine⟨_,rfl,r,_,dx,_,_,rfl,Rx.ins,T.kR.cl,T.nRp,rp10 _ _,_,_,rfl,rfl,dx,_,Rx.ins,(by show 2<1000;decide),rfl,?_⟩
      rw[pt10 (hx.trans hc) (by simp),Rp];rfl
    ·exact brF (show Ra61.isWord d=false by simpa using hw) (done (by rw[<-ex,List.dropWhile_cons_of_neg hw]))
  ·rw[if_neg hL] at h
   exact brF (by simpa using hL) (h _)
end
end Ck
end
noncomputable section
namespace Ck
open PySem PySem.Spec PyProof.Rows L2
section
variable{P:Program}{w:World}{K:PySem.W.Frag}{mg:Str->Option Value}{base:Heap}{t:Adr}
theorem value_snoc(d:List Nat)(x:Nat):Ra61.value (d++[x])=10*Ra61.value d+(x-48):=by unfold Ra61.value;rw[List.foldl_append];rfl
theorem digit_ge{x:Nat}(h:Ra61.isDigit x=true):48<=x:=by
 unfold Ra61.isDigit at h
 rw[Bool.and_eq_true,decide_eq_true_eq] at h
 exact h.1
theorem all_take{f:Nat->Bool}:∀(b:List Nat) (x:Nat),x∈b.takeWhile f->f x=true
 |[],x,h=>by simp at h
 |c::r,x,h=>by
  by_cases hc:f c=true
  ·rw[List.takeWhile_cons_of_pos hc] at h
   rcases List.mem_cons.mp h with rfl | h
   ·exact hc
   ·exact all_take r x h
  ·rw[List.takeWhile_cons_of_neg hc] at h;simp at h
def IntI(n:Nat)(v:V)(_:Hp):Prop:=v=.int (n:Int)
theorem otn10(T:Txt K mg t)(kb:K.In base):Ok P w K mg base 4 t.fRt10 t.fRt ["self"] (sr K t Rd.takeNumber IntI):=by
 refine T.Reader_take_number.fn.okX sRt (fun vs H Q E h=>?_) fun cdv A outer s H vs Q E hr h=>?_
 ·obtain⟨r,dx,l,bs,rest,rfl,_⟩:=h;rfl
 ·obtain⟨r,dx,l,bs,rest,rfl,R,hb,h⟩:=h
  have hr1:=hr.mono (show 1<=3 by decide)
  refine⟨_,pc11 (pe10 (pm10 T.kR T.Reader_skip_blanks (osb T) hr pass1 (pv 0)))
   (pc11 (ps10 (i:=1) sRt.nd rfl (Or.inl rfl) (pf11 (pv 0) rfl))
   (pc11 (pw10 po12 (pv10 (pf10 T.is_digit (oid T) hr1 rfl pass1 (pc (pm10 T.kR T.Reader_here (oh T) hr1 pass1 (pv 0)) pn10))) (po10 (pf13 (pv 0) pi in_add)))
   (pc11 (pe10 (pf10 T.demand (od10 T kb) hr1 rfl (passes1 xo) (pc (pc15 ol10 ol10 pi (po11 op_sub (pf11 (pv 0) rfl) (pv 1)) (pg10 T.gMD rfl)) pn10)))
   (pc11 (ps10 (i:=2) sRt.nd rfl (Or.inl rfl) pi)
   (pc11 (pf14 po12 rfl (pl11 (pe_slice sl_list (pf11 (pv 0) rfl) (po_some (pv 1)) (po_some (pf11 (pv 0) rfl)))) (pn11 (i:=3) sRt.nd rfl (Or.inl rfl))
    (po10 (ps10 (i:=2) sRt.nd rfl (Or.inl rfl) (po11 op_sub (po11 oa (po11 om (pv 2) pi) (pv 3)) (pg10 T.g_ZERO rfl)))))
   (pc11 (pe10 (pf10 T.demand (od10 T kb) hr1 rfl (passes1 xo) (pc (pc14 ol10 (pv 2) (pg10 T.gGN rfl) (nomark _)) pn10)))
   (po10 (pr10 (pv 2))))))))),?_⟩
  have hc:=ss10 R.suf
  generalize hcc:Rd.skip false rest=c at hc
  have R':=R.put hc
  refine⟨_,rfl,r,dx,_,rfl,R.ins,rn _ _ (by decide) (by decide),r,dx,l,bs,rest,rfl,R,hb,?_⟩
  rw[hcc]
  rw[te10,hcc] at h
  refine⟨_,rfl,r,_,dx,_,_,rfl,R'.ins,T.kR.cl,T.nRp,rp10 _ _,?_⟩
  refine⟨fun m σ H'=>∃x,x <:+ c/\x.dropWhile Ra61.isDigit=c.dropWhile Ra61.isDigit/\m=x.length/\σ=[some (.ref r),some (.int (pl bs c)),none,none]/\H'=RPut t H r dx l bs x,⟨_,c,List.suffix_refl _,rfl,rfl,rfl,rfl⟩,?_⟩
  rintro m σ H' ⟨x,hx,ex,rfl,rfl,rfl⟩
  have Rx:=R.put (hx.trans hc)
  refine⟨_,rfl,r,dx,_,rfl,Rx.ins,nh10,r,dx,l,bs,x,rfl,Rx,_,rfl,_,rfl,?_⟩
  have fin:Ra61.isDigit (Rd.here x)=false->x=c.dropWhile Ra61.isDigit:=fun hd=>by
   cases x with
   |nil=>rw[<-ex];rfl
   |cons d q=>rw[<-ex,List.dropWhile_cons_of_neg (by rw[hc10] at hd;simp[hd])]
  cases hd:Ra61.isDigit (Rd.here x) with
  |true=>
   cases x with
   |nil=>rw[here_nil] at hd;exact absurd hd (by decide)
   |cons d q=>
    refine brT rfl ⟨fun σ H'=>σ=[some (.ref r),some (.int (pl bs c)),none,none]/\H'=RPut t H r dx l bs q,?_,?_⟩
    ·rintro σ' H' ⟨rfl,rfl⟩
     exact⟨q.length,Nat.lt_succ_self _,q,st10 hx,by rw[<-ex,List.dropWhile_cons_of_pos (show Ra61.isDigit d=true from hd)],rfl,rfl,rfl⟩
    ·refine⟨_,rfl,r,_,dx,_,_,rfl,Rx.ins,T.kR.cl,T.nRp,rp10 _ _,_,_,rfl,rfl,dx,_,Rx.ins,(by show 2<1000;decide),rfl,?_⟩
     rw[pt10 (hx.trans hc) (by simp),Rp];rfl
  |false=>
   obtain rfl:=fin hd
   refine brF rfl ?_
   have hl1:=hc.length_le
   have hl2:=run_len (f:=Ra61.isDigit) c
   refine⟨_,rfl,r,_,dx,_,_,rfl,Rx.ins,T.kR.cl,T.nRp,rp10 _ _,_,rfl,_,_,rfl,rfl,_,_,rfl,rfl,?_⟩
   have q1:decide ((1:Int)<=pl bs (c.dropWhile Ra61.isDigit)-pl bs c)=decide (1<=(c.takeWhile Ra61.isDigit).length):=by
    rw[Bool.eq_iff_iff,decide_eq_true_eq,decide_eq_true_eq]
    unfold pl;omega
   have q2:decide (pl bs (c.dropWhile Ra61.isDigit)-pl bs c<=7)=decide ((c.takeWhile Ra61.isDigit).length<=7):=by
    rw[Bool.eq_iff_iff,decide_eq_true_eq,decide_eq_true_eq]
    unfold pl;omega
   refine⟨_,rfl,?_⟩
   by_cases w1:1<=(c.takeWhile Ra61.isDigit).length
   case neg=>
    rw[if_neg (fun z=>w1 z.1)] at h
    exact brF (q1.trans (decide_eq_false w1)) ⟨_,rfl,iteF (h _)⟩
   refine brT (q1.trans (decide_eq_true w1)) ⟨_,_,rfl,rfl,?_⟩
   by_cases hw:(c.takeWhile Ra61.isDigit).length<=7
   ·rw[if_pos ⟨w1,hw⟩] at h
    refine⟨_,rfl,brT (q2.trans (decide_eq_true hw)) ?_⟩
    refine⟨_,rfl,r,_,dx,_,_,rfl,Rx.ins,T.kR.cl,T.nRt,rt10 _ _,_,rfl,_,rfl,_,rfl,r,_,dx,_,_,rfl,Rx.ins,T.kR.cl,T.nRp,rp10 _ _,_,rfl,l,_,rfl,Rx.txt,fun p hp=>?_⟩
    rw[cut_run hc]
    have s2:=su (o:=.lst (byts (c.takeWhile Ra61.isDigit))) hp
    refine⟨p,rfl,⟨_,SqL.of us10⟩,fl10 (K:=K) (a:=p) (xs:=byts (c.takeWhile Ra61.isDigit))
     (fun i σ H'=>∃v3,σ=[some (.ref r),some (.int (pl bs c)),some (.int (Ra61.value ((c.takeWhile Ra61.isDigit).take i):Nat)),v3]/\H'=upd (RPut t H r dx l bs (c.dropWhile Ra61.isDigit)) p (.lst (byts (c.takeWhile Ra61.isDigit))))
     ⟨none,rfl,rfl⟩ (fun i σ H' _ ⟨_,_,e⟩=>by rw[e];exact SqL.of us10) ?_ ?_⟩
    ·rintro i y σ H' hi ⟨v3,rfl,rfl⟩
     unfold byts at hi
     rw[List.getElem?_map] at hi
     cases ei:(c.takeWhile Ra61.isDigit)[i]? with
     |none=>rw[ei] at hi;cases hi
     |some d=>
      rw[ei] at hi
      obtain rfl:=(Option.some.inj hi).symm
      have hd48:=digit_ge (all_take c d (List.mem_of_getElem? ei))
      refine⟨_,rfl,_,_,rfl,rfl,.inr ⟨by decide,by decide⟩,_,rfl,_,_,rfl,rfl,_,_,rfl,rfl,some (.int (d:Int)),?_,rfl⟩
      have et:(c.takeWhile Ra61.isDigit).take (i+1)=(c.takeWhile Ra61.isDigit).take i++[d]:=by rw[List.take_add_one,ei];rfl
      rw[et,value_snoc]
      have:((Ra61.value ((c.takeWhile Ra61.isDigit).take i):Nat):Int)*10+(d:Int)-48=((10*Ra61.value ((c.takeWhile Ra61.isDigit).take i)+(d-48):Nat):Int):=by omega
      rw[<-this];rfl
    ·rintro σ H' ⟨v3,rfl,rfl⟩
     rw[bl10,List.take_length]
     refine⟨_,rfl,_,_,rfl,rfl,_,rfl,?_⟩
     have e:decide (((Ra61.value (c.takeWhile Ra61.isDigit):Nat):Int)<=1000000)=decide (Ra61.value (c.takeWhile Ra61.isDigit)<=1000000):=ln10 _ 1000000
     by_cases hv:Ra61.value (c.takeWhile Ra61.isDigit)<=1000000
     ·rw[if_pos hv] at h
      refine brT (by rw[e];exact decide_eq_true hv) ⟨_,rfl,?_⟩
      exact h.2 _ _ (Rx.same s2) (Kp.trans Kp.upd (Kp.of s2)) rfl
     ·rw[if_neg hv] at h
      exact brF (by rw[e];exact decide_eq_false hv) (h _)
   ·rw[if_neg (fun z=>hw z.2)] at h
    exact⟨_,rfl,brF (q2.trans (decide_eq_false hw)) (h _)⟩
end
end Ck
end
noncomputable section
namespace Ck
open PySem PySem.Spec PyProof.Rows L2
section
variable{P:Program}{w:World}{K:PySem.W.Frag}{mg:Str->Option Value}{base:Heap}{t:Adr}
theorem no_m{l:Addr}{p:Int}{m:Str}(h1:¬m = "place":=by decide)(h2:¬m = "text":=by decide):(rdF l p).lookup m=none:=rn _ _ h1 h2
theorem ur{α:Type}{f:List Nat->Option (α×List Nat)}{rep:α->V->Hp->Prop}{H:Hp}{r dx l:Addr}{bs rest:List Nat}{Q:VK}{E:XK}(R:RAt K t H r dx l bs rest)(hb:∀c∈bs,c<256)
  (hn:f rest=none->∀H',E (.ref t.xN) none H') (hs:∀x,f rest=some x->x.2 <:+ bs/\∀v H',RAt K t H' r dx l bs x.2->Kp r H H'->rep x.1 v H'->Q v H'):sr K t f rep [.ref r] H Q E:=by
 refine⟨r,dx,l,bs,rest,rfl,R,hb,?_⟩
 cases e:f rest with
 |none=>exact hn e
 |some x=>exact hs x e
theorem ts11{bs b:List Nat}{x}(s:b <:+ bs)(h:Rd.takeName b=some x):x.2 <:+ bs:=by
 rw[te11] at h
 split at h
 ·split at h
  ·cases h;exact (List.dropWhile_suffix _).trans (ss10 s)
  ·cases h
 ·cases h
theorem ts12{bs b:List Nat}{x}(s:b <:+ bs)(h:Rd.takeNumber b=some x):x.2 <:+ bs:=by
 rw[te10] at h
 split at h
 ·split at h
  ·cases h;exact (List.dropWhile_suffix _).trans (ss10 s)
  ·cases h
 ·cases h
def IntZ(n:Int)(v:V)(_:Hp):Prop:=v=.int n
theorem ok_read_gain(T:Txt K mg t)(kb:K.In base):Ok P w K mg base 5 t.f_read_gain t.frg13 ["reader"] (sr K t Rd.readGain IntZ):=by
 refine T.read_gain.fn.okX srg10 (fun vs H Q E h=>?_) fun cdv A outer s H vs Q E hr h=>?_
 ·obtain⟨r,dx,l,bs,rest,rfl,_⟩:=h;rfl
 ·obtain⟨r,dx,l,bs,rest,rfl,R,hb,h⟩:=h
  refine⟨_,pc11 (ps10 (i:=1) srg10.nd rfl (Or.inl rfl) (pc_me T.kR T.Reader_passes (op10 T) hr pass1 (pv 0) (pc (pg10 T.g_MINUS rfl) pn10)))
   (pc11 (ps10 (i:=2) srg10.nd rfl (Or.inl rfl) (pm10 T.kR T.Reader_take_number (otn10 T kb) hr (passes1 xo) (pv 0)))
   (pc11 (pe10 (pf10 T.demand (od10 T kb) (hr.mono (by decide)) rfl (passes1 xo) (pc (pc14 ol10 (pv 2) (pg10 T.gGG10 rfl) (nomark _)) pn10)))
   (po10 (pr10 (pi11 (pv10 (pv 1)) (pe_un un_neg (pv 2)) (pv 2)))))),?_⟩
  refine⟨_,rfl,r,dx,_,rfl,R.ins,no_m,r,dx,l,bs,rest,45,rfl,by decide,R,hb,?_⟩
  unfold Rd.readGain at h
  rw[Option.bind_some] at h
  have s1:=ps11 (m:=45) R.suf
  generalize Rd.passes 45 rest=y at h s1
  have R1:=R.put s1
  refine⟨_,rfl,r,dx,_,rfl,R1.ins,no_m,ur R1 hb (fun e H'=>?_) fun x e=>⟨ts12 s1 e,fun v H' R2 k2 hv=>?_⟩⟩
  ·rw[e] at h;exact h H'
  ·rw[e,Option.bind_some] at h
   obtain rfl:v=.int (x.1:Int):=hv
   refine⟨_,rfl,_,_,rfl,rfl,_,rfl,?_⟩
   have e2:decide ((x.1:Int)<=1000)=decide (x.1<=1000):=ln10 _ 1000
   by_cases hg:x.1<=1000
   ·rw[if_pos hg] at h
    refine brT (e2.trans (decide_eq_true hg)) ⟨_,rfl,_,rfl,?_⟩
    have fin:=h.2 (.int (if y.1=true then -(x.1:Int) else (x.1:Int))) H' R2 (Kp.trans Kp.upd k2) rfl
    cases hy:y.1 with
    |true=>rw[hy] at fin;exact iteT ⟨_,rfl,_,rfl,fin⟩
    |false=>rw[hy] at fin;exact iteF ⟨_,rfl,fin⟩
   ·rw[if_neg hg] at h
    exact brF (e2.trans (decide_eq_false hg)) (h _)
def WayI(x:List Nat×Nat)(v:V)(H:Hp):Prop:=∃a b,v=.ref a/\H a=some (.tup [.ref b,.int (x.2:Int)])/\H b=some (.tup (byts x.1))
theorem rs10{bs b:List Nat}{x}(s:b <:+ bs)(h:Rd.readWay b=some x):x.2 <:+ bs:=by
 obtain⟨a,h1,h⟩:=Rd.bind_some h
 obtain⟨y,h2,h⟩:=Rd.bind_some h
 cases h2
 obtain⟨n,h3,h⟩:=Rd.bind_some h
 obtain⟨_,h⟩:=Rd.is10 h
 cases h
 have s2:=ps11 (m:=47) (ts11 s h1)
 split at h3
 ·exact ts12 s2 h3
 ·cases h3;exact s2
theorem orw(T:Txt K mg t)(kb:K.In base):Ok P w K mg base 5 t.f_read_way t.frw ["reader"] (sr K t Rd.readWay WayI):=by
 refine T.read_way.fn.okX srw (fun vs H Q E h=>?_) fun cdv A outer s H vs Q E hr h=>?_
 ·obtain⟨r,dx,l,bs,rest,rfl,_⟩:=h;rfl
 ·obtain⟨r,dx,l,bs,rest,rfl,R,hb,h⟩:=h
  refine⟨_,pc11 (ps10 (i:=1) srw.nd rfl (Or.inl rfl) (pm10 T.kR T.Reader_take_name (otn T kb) hr (passes1 xo) (pv 0)))
   (pc11 (ps10 (i:=2) srw.nd rfl (Or.inl rfl) pi)
   (pc11 (ps_if (pv10 (pc_me T.kR T.Reader_passes (op10 T) hr pass1 (pv 0) (pc (pg10 T.g_SLASH rfl) pn10)))
    (po10 (ps10 (i:=2) srw.nd rfl (Or.inl rfl) (pm10 T.kR T.Reader_take_number (otn10 T kb) hr (passes1 xo) (pv 0)))) pn13)
   (pc11 (pe10 (pf10 T.demand (od10 T kb) (hr.mono (by decide)) rfl (passes1 xo) (pc (pc15 ol10 ol10 pi (pv 2) (pg10 T.gGW rfl)) pn10)))
   (po10 (pr10 (pe_tup (pc (pv 1) (pc (pv 2) pn10)))))))),?_⟩
  unfold Rd.readWay at h
  refine⟨_,rfl,r,dx,_,rfl,R.ins,no_m,ur R hb (fun e H'=>?_) fun x e=>⟨ts11 R.suf e,fun v H1 R1 k1 hv=>?_⟩⟩
  ·rw[e] at h;exact h H'
  ·rw[e,Option.bind_some,Option.bind_some] at h
   obtain⟨b,rfl,hb1⟩:=hv
   have s2:=ps11 (m:=47) R1.suf
   refine⟨_,rfl,r,dx,_,rfl,R1.ins,no_m,r,dx,l,bs,x.2,47,rfl,by decide,R1,hb,_,rfl,?_⟩
   generalize Rd.passes 47 x.2=y at h s2
   have R2:=R1.put s2
   have nbr:b≠r:=no11 hb1 R1.ins (by intro q;cases q)
   have fin:∀(n:Nat) (rest3:List Nat) (H3:Hp),RAt K t H3 r dx l bs rest3->Kp r (RPut t H1 r dx l bs y.2) H3 ->
     OptP (if 1<=n/\n<=1000 then some ((x.1,n),rest3) else none:Option ((List Nat×Nat)×List Nat)) (∀H',E (.ref t.xN) none H') (fun z=>z.2 <:+ bs/\∀v H',RAt K t H' r dx l bs z.2->Kp r H H'->WayI z.1 v H'->Q v H') ->
     tSeq (tDrop (tCall (sd10 t) [] E (tCons (tChain (rI0 fun i j=>.bl (decide (i<=j))) (rI0 fun i j=>.bl (decide (i<=j))) (tC (.int 1)) (tVar 2) (tC (.int 1000))) tNil)))
      (tRet (tTup (tCons (tVar 1) (tCons (tVar 2) tNil)))) { nx:=fun _ H'=>Q .non H',rt:=Q } [some (.ref r),some (.ref b),some (.int (n:Int))] H3:=by
    intro n rest3 H3 R3 k3 h
    refine ch3 (x:=(n:Int)) rfl ?_
    have e2:(decide ((1:Int)<=n)&&decide ((n:Int)<=1000))=decide (1<=n/\n<=1000):=by
     rw[Bool.eq_iff_iff,Bool.and_eq_true,decide_eq_true_eq,decide_eq_true_eq,decide_eq_true_eq];omega
    rw[e2]
    by_cases hn:1<=n/\n<=1000
    ·rw[if_pos hn] at h
     refine⟨_,rfl,brT (decide_eq_true hn) ⟨_,rfl,_,rfl,(by show 2<=sizeLine;decide),fun p hp=>?_⟩⟩
     have s3:=su (o:=.tup [.ref b,.int (n:Int)]) hp
     have hb3:H3 b=some (.tup (byts x.1)):=k3 b _ nbr (Kp.upd b _ nbr hb1)
     exact h.2 _ _ (R3.same s3) (((k1.trans Kp.upd).trans k3).trans (Kp.of s3)) ⟨p,b,rfl,us10,s3 _ _ hb3⟩
    ·rw[if_neg hn] at h
     exact⟨_,rfl,brF (decide_eq_false hn) (h _)⟩
   cases hy:y.1 with
   |true=>
    rw[hy,if_pos rfl] at h
    refine iteT ⟨_,rfl,r,dx,_,rfl,R2.ins,no_m,ur R2 hb (fun e H'=>?_) fun z e=>⟨ts12 s2 e,fun v H3 R3 k3 hv=>?_⟩⟩
    ·rw[e] at h;exact h H'
    ·rw[e,Option.bind_some] at h
     obtain rfl:v=.int (z.1:Int):=hv
     exact fin z.1 z.2 H3 R3 k3 h
   |false=>
    rw[hy] at h
    exact iteF (fin 1 y.2 _ R2 (Kp.refl _ _) h)
end
end Ck
end
noncomputable section
namespace Ck
open PySem PySem.Spec PyProof.Rows L2
section
variable{P:Program}{w:World}{K:PySem.W.Frag}{mg:Str->Option Value}{base:Heap}{t:Adr}
def chF(nm g wy tot:V):List (Str×V):=putF "total" tot (putF "ways" wy (putF "gain" g (putF "name" nm [])))
def stF(nm cs:V):List (Str×V):=putF "choices" cs (putF "name" nm [])
theorem chF_name(nm g wy tot:V):(chF nm g wy tot).lookup ("name":Str)=some nm:=by
 unfold chF;rw[lp10,if_neg (by decide),lp10,if_neg (by decide),lp10,if_neg (by decide),lp10,if_pos rfl]
theorem cg(nm g wy tot:V):(chF nm g wy tot).lookup ("gain":Str)=some g:=by
 unfold chF;rw[lp10,if_neg (by decide),lp10,if_neg (by decide),lp10,if_pos rfl]
theorem cw(nm g wy tot:V):(chF nm g wy tot).lookup ("ways":Str)=some wy:=by
 unfold chF;rw[lp10,if_neg (by decide),lp10,if_pos rfl]
theorem ct10(nm g wy tot:V):(chF nm g wy tot).lookup ("total":Str)=some tot:=by
 unfold chF;rw[lp10,if_pos rfl]
theorem chF_put(nm g wy tot wy':V):putF "ways" wy' (chF nm g wy tot)=chF nm g wy' tot:=rfl
theorem stF_name(nm cs:V):(stF nm cs).lookup ("name":Str)=some nm:=by
 unfold stF;rw[lp10,if_neg (by decide),lp10,if_pos rfl]
theorem sc12(nm cs:V):(stF nm cs).lookup ("choices":Str)=some cs:=by
 unfold stF;rw[lp10,if_pos rfl]
def sci(t:Adr):Sp:=fun vs H Q _=>∃x dx nm g wy tot,vs=[.ref x,nm,g,wy,tot]/\H x=some (.ins t.cC dx [])/\Q .non (upd H x (.ins t.cC dx (chF nm g wy tot)))
theorem oci(T:Txt K mg t):Ok P w K mg base 1 t.fCi10 t.fCi ["self","name","gain","ways","total"] (sci t):=by
 refine T.Choice_init.fn.okX sCi (fun vs H Q E h=>?_) fun cdv A outer s H vs Q E hr h=>?_
 ·obtain⟨x,dx,nm,g,wy,tot,rfl,_⟩:=h;rfl
 ·obtain⟨x,dx,nm,g,wy,tot,rfl,hx,h⟩:=h
  refine⟨_,pc11 (pf12 (pv 0) (pv 1) rfl) (pc11 (pf12 (pv 0) (pv 2) rfl) (pc11 (pf12 (pv 0) (pv 3) rfl) (po10 (pf12 (pv 0) (pv 4) rfl)))),?_⟩
  refine⟨_,rfl,_,rfl,x,_,dx,_,rfl,hx,T.kC.cl,T.nCn,(by show 0<1000;decide),?_⟩
  refine⟨_,rfl,_,rfl,x,_,dx,_,rfl,us10,T.kC.cl,T.nCg,(by show 1<1000;decide),?_⟩
  refine⟨_,rfl,_,rfl,x,_,dx,_,rfl,us10,T.kC.cl,T.nCw,(by show 2<1000;decide),?_⟩
  refine⟨_,rfl,_,rfl,x,_,dx,_,rfl,us10,T.kC.cl,T.nCt,(by show 3<1000;decide),?_⟩
  rw[uu,uu,uu]
  exact h
def ssi(t:Adr):Sp:=fun vs H Q _=>∃x dx nm cs,vs=[.ref x,nm,cs]/\H x=some (.ins t.cS dx [])/\Q .non (upd H x (.ins t.cS dx (stF nm cs)))
theorem osi(T:Txt K mg t):Ok P w K mg base 1 t.fSi10 t.fSi ["self","name","choices"] (ssi t):=by
 refine T.State_init.fn.okX sSi (fun vs H Q E h=>?_) fun cdv A outer s H vs Q E hr h=>?_
 ·obtain⟨x,dx,nm,cs,rfl,_⟩:=h;rfl
 ·obtain⟨x,dx,nm,cs,rfl,hx,h⟩:=h
  refine⟨_,pc11 (pf12 (pv 0) (pv 1) rfl) (po10 (pf12 (pv 0) (pv 2) rfl)),?_⟩
  refine⟨_,rfl,_,rfl,x,_,dx,_,rfl,hx,T.kS.cl,T.nSn,(by show 0<1000;decide),?_⟩
  refine⟨_,rfl,_,rfl,x,_,dx,_,rfl,us10,T.kS.cl,T.nSc,(by show 1<1000;decide),?_⟩
  rw[uu]
  exact h
def sri(t:Adr):Sp:=fun vs H Q _=>∃x dx l,vs=[.ref x,.ref l]/\H x=some (.ins t.cR dx [])/\Q .non (upd H x (.ins t.cR dx (rdF l 0)))
theorem ori(T:Txt K mg t):Ok P w K mg base 1 t.fRi10 t.fRi ["self","text"] (sri t):=by
 refine T.Reader_init.fn.okX sRi (fun vs H Q E h=>?_) fun cdv A outer s H vs Q E hr h=>?_
 ·obtain⟨x,dx,l,rfl,_⟩:=h;rfl
 ·obtain⟨x,dx,l,rfl,hx,h⟩:=h
  refine⟨_,pc11 (pf12 (pv 0) (pv 1) rfl) (po10 (pf12 (pv 0) pi rfl)),?_⟩
  refine⟨_,rfl,_,rfl,x,_,dx,_,rfl,hx,T.kR.cl,T.nRt,(by show 0<1000;decide),?_⟩
  refine⟨_,rfl,x,_,dx,_,rfl,us10,T.kR.cl,T.nRp,(by show 1<1000;decide),?_⟩
  rw[uu]
  exact h
theorem sm12{H:Hp}{x dx:Addr}{u v:HO}(h1:H x=none)(h2:H dx=none):Same H (upd (upd H dx u) x v):=fun b o e=>by
 rw[un10 (non10 e h1),un10 (non10 e h2)];exact e
end
end Ck
end
noncomputable section
namespace Ck
open PySem PySem.Spec PyProof.Rows L2
section
variable{P:Program}{w:World}{K:PySem.W.Frag}{mg:Str->Option Value}{base:Heap}{t:Adr}
theorem ixT{X:Cx}(K:PySem.W.Frag)(e:X.K=K:=by rfl):IxR X (rIxT K):=e ▸ ix_tup
theorem ixL{X:Cx}(K:PySem.W.Frag)(e:X.K=K:=by rfl):IxR X (rIxL K):=e ▸ ix_list
def TK(H H':Hp):Prop:=∀b xs,H b=some (.tup xs)->H' b=some (.tup xs)
theorem TK.trans{H H1 H2:Hp}(a:TK H H1)(b:TK H1 H2):TK H H2:=fun c xs e=>b c xs (a c xs e)
theorem Same.tk{H H':Hp}(s:Same H H'):TK H H':=fun b xs e=>s b _ e
theorem TK.upd{H:Hp}{p:Addr}{o u:HO}(e:H p=some u)(h:∀xs,u≠.tup xs):TK H (upd H p o):=fun b xs q=>by
 rw[un10 (fun z=>by rw[z,e] at q;cases q;exact h xs rfl)];exact q
theorem Kp.tk{r dx:Addr}{C:Addr}{fs:List (Str×V)}{H H':Hp}(k:Kp r H H')(e:H r=some (.ins C dx fs)):TK H H':=fun b xs q=>k b _ (no11 q e (by intro z;cases z)) q
structure Ways(H:Hp)(as bn:List Addr)(ws:List (List Nat×Nat)):Prop where
 len:as.length=ws.length
 len2:bn.length=ws.length
 at_:∀(i:Nat) (x:List Nat×Nat),ws[i]? = some x->∃a b,as[i]? = some a/\bn[i]? = some b/\H a=some (.tup [.ref b,.int (x.2:Int)])/\H b=some (.tup (byts x.1))
theorem Ways.tk{H H':Hp}{as bn:List Addr}{ws:List (List Nat×Nat)}(W:Ways H as bn ws)(k:TK H H'):Ways H' as bn ws:=⟨W.len,W.len2,fun i x e=>let ⟨a,b,h1,h2,h3,h4⟩:=W.at_ i x e;⟨a,b,h1,h2,k _ _ h3,k _ _ h4⟩⟩
theorem Ways.one{H:Hp}{a b:Addr}{x:List Nat×Nat}(h1:H a=some (.tup [.ref b,.int (x.2:Int)]))(h2:H b=some (.tup (byts x.1))):Ways H [a] [b] [x]:=
 ⟨rfl,rfl,fun i y e=>by
  cases i with
  |zero=>simp at e;subst e;exact⟨a,b,rfl,rfl,h1,h2⟩
  |succ i=>simp at e⟩
theorem Ways.snoc{H:Hp}{as bn:List Addr}{ws:List (List Nat×Nat)}{a b:Addr}{x:List Nat×Nat}(W:Ways H as bn ws)(h1:H a=some (.tup [.ref b,.int (x.2:Int)]))(h2:H b=some (.tup (byts x.1))):Ways H (as++[a]) (bn++[b]) (ws++[x]):=
 ⟨by simp[W.len],by simp[W.len2],fun i y e=>by
  by_cases hi:i<ws.length
  ·rw[List.getElem?_append_left hi] at e
   obtain⟨a',b',q1,q2,q3,q4⟩:=W.at_ i y e
   exact⟨a',b',by rw[List.getElem?_append_left (by rw[W.len];exact hi)];exact q1,by rw[List.getElem?_append_left (by rw[W.len2];exact hi)];exact q2,q3,q4⟩
  ·have hi':i<ws.length+1:=by have:=(List.getElem?_eq_some_iff.mp e).1;simpa using this
   have:i=ws.length:=by omega
   subst this
   rw[List.getElem?_concat_length] at e
   cases e
   exact⟨a,b,by rw[<-W.len,List.getElem?_concat_length],by rw[<-W.len2,List.getElem?_concat_length],h1,h2⟩⟩
def zn(w:List Nat):List Int:=w.map fun (n:Nat)=>(n:Int)
theorem bz10(w:List Nat):byts w=(zn w).map V.int:=by unfold byts zn;rw[List.map_map];rfl
theorem zn_inj:∀{a b:List Nat},zn a=zn b->a=b
 |[],[],_=>rfl
 |[],_::_,h=>by simp[zn] at h
 |_::_,[],h=>by simp[zn] at h
 |x::a,y::b,h=>by
  have h':(x:Int)::zn a=(y:Int)::zn b:=h
  injection h' with h1 h2
  rw[Int.ofNat_inj.mp h1,zn_inj h2]
theorem zn_nodup(l:List (List Nat)):(l.map zn).Nodup↔l.Nodup:=by
 rw[List.Nodup,List.pairwise_map]
 exact⟨fun z=>List.Pairwise.imp (fun h1 h2=>h1 (by rw[h2])) z,fun z=>List.Pairwise.imp (fun h1 h2=>h1 (zn_inj h2)) z⟩
theorem Ways.tups{H:Hp}{as bn:List Addr}{ws:List (List Nat×Nat)}(W:Ways H as bn ws):Tups K H bn ((ws.map fun w=>w.1).map zn):=
 ⟨by simp[W.len2],fun i a k e1 e2=>by
  rw[List.getElem?_map,List.getElem?_map] at e2
  cases e:ws[i]? with
  |none=>rw[e] at e2;cases e2
  |some x=>
   rw[e] at e2
   have e2:some (zn x.1)=some k:=e2
   cases e2
   obtain⟨a',b',q1,q2,q3,q4⟩:=W.at_ i x e
   rw[e1] at q2
   cases q2
   rw[<-bz10]
   exact SqT.of q4⟩
theorem sql_off{H0 H:Hp}{l wl:Addr}{xs:List V}{o:HO}(h0:SqL K H0 l xs)(hw:H0 wl=none)(h:SqL K H l xs):SqL K (upd H wl o) l xs:=by
 rcases h0 with h0 | h0
 ·have ne:l≠wl:=by
   rcases h0 with h0 | ⟨ob,h0⟩
   ·exact non10 h0 hw
   ·exact non10 h0 hw
  rcases h with (h | ⟨ob,h⟩) | h
  ·exact .inl (.inl (by rw[un10 ne];exact h))
  ·exact .inl (.inr ⟨ob,by rw[un10 ne];exact h⟩)
  ·exact .inr h
 ·exact .inr h0
def ChI(t:Adr)(c:Ra61.RawChoice)(v:V)(H0 H:Hp):Prop:=∃a dx nm wy as bn,v=.ref a/\H a=some (.ins t.cC dx (chF (.ref nm) (.int c.gain) (.ref wy) (.int (c.ways.map fun w=>(w.2:Int)).sum))) /\
 H nm=some (.tup (byts c.name))/\H wy=some (.lst (as.map V.ref))/\Ways H as bn c.ways/\H0 a=none/\H0 wy=none
def sp_readF{α:Type}(K:PySem.W.Frag)(t:Adr)(f:List Nat->Option (α×List Nat))(rep:α->V->Hp->Hp->Prop):Sp:=fun vs H Q E=>∃r dx l bs rest,vs=[.ref r]/\RAt K t H r dx l bs rest/\(∀c∈bs,c<256) /\
 OptP (f rest) (∀H',E (.ref t.xN) none H') fun x=>x.2 <:+ bs/\∀v H',RAt K t H' r dx l bs x.2->Kp r H H'->rep x.1 v H H'->Q v H'
theorem use_readF{α:Type}{f:List Nat->Option (α×List Nat)}{rep:α->V->Hp->Hp->Prop}{H:Hp}{r dx l:Addr}{bs rest:List Nat}{Q:VK}{E:XK}(R:RAt K t H r dx l bs rest)(hb:∀c∈bs,c<256)
  (hn:f rest=none->∀H',E (.ref t.xN) none H') (hs:∀x,f rest=some x->x.2 <:+ bs/\∀v H',RAt K t H' r dx l bs x.2->Kp r H H'->rep x.1 v H H'->Q v H'):sp_readF K t f rep [.ref r] H Q E:=by
 refine⟨r,dx,l,bs,rest,rfl,R,hb,?_⟩
 cases e:f rest with
 |none=>exact hn e
 |some x=>exact hs x e
def Lss(H H':Hp):Prop:=∀b,H' b=none->H b=none
theorem Lss.refl(H:Hp):Lss H H:=fun _ e=>e
theorem Lss.trans{H H1 H2:Hp}(a:Lss H H1)(b:Lss H1 H2):Lss H H2:=fun c e=>a c (b c e)
theorem Kp.lss{r:Addr}{H H':Hp}{o:HO}(k:Kp r H H')(e:H' r=some o):Lss H H':=fun b z=>by
 cases q:H b with
 |none=>rfl
 |some u=>
  by_cases hb:b=r
  ·rw[hb,e] at z;cases z
  ·rw[k b u hb q] at z;cases z
theorem Same.lss{H H':Hp}(s:Same H H'):Lss H H':=fun b z=>by
 cases q:H b with
 |none=>rfl
 |some u=>rw[s b u q] at z;cases z
theorem rs12{bs b:List Nat}{x}(s:b <:+ bs)(h:Rd.readGain b=some x):x.2 <:+ bs:=by
 obtain⟨a,h1,h⟩:=Rd.bind_some h
 cases h1
 obtain⟨n,h3,h⟩:=Rd.bind_some h
 obtain⟨_,h⟩:=Rd.is10 h
 cases h
 exact ts12 (ps11 s) h3
theorem ts10{α:Type}{l:List α}{i:Nat}{x:α}(h:l[i]? = some x):l.take (i+1)=l.take i++[x]:=by rw[List.take_add_one,h];rfl
theorem at0{b:Addr}{n:Int}:atI [V.ref b,V.int n] 0=some (.ref b):=rfl
theorem at1{b:Addr}{n:Int}:atI [V.ref b,V.int n] 1=some (.int n):=rfl
theorem orc(T:Txt K mg t)(kb:K.In base):Ok P w K mg base 6 t.frc10 t.frc ["reader"] (sp_readF K t Rd.readChoice (ChI t)):=by
 refine T.read_choice.fn.okX src (fun vs H Q E h=>?_) fun cdv A outer s H vs Q E hr h=>?_
 ·obtain⟨r,dx,l,bs,rest,rfl,_⟩:=h;rfl
 ·obtain⟨r,dx,l,bs,rest,rfl,R,hb,h⟩:=h
  have hr4:=hr.mono (show 4<=5 by decide)
  have hr2:=hr.mono (show 2<=5 by decide)
  have hr1:=hr.mono (show 1<=5 by decide)
  refine⟨_,pc11 (ps10 (i:=1) src.nd rfl (Or.inl rfl) (pm10 T.kR T.Reader_take_name (otn T kb) hr4 (passes1 xo) (pv 0)))<|
   pc11 (ps10 (i:=2) src.nd rfl (Or.inl rfl) (pf10 T.read_gain (ok_read_gain T kb) hr rfl (passes1 xo) (pc (pv 0) pn10)))<|
   pc11 (pe10 (pf10 T.demand (od10 T kb) hr1 rfl (passes1 xo) (pc (pc_me T.kR T.Reader_passes (op10 T) hr4 pass1 (pv 0) (pc (pg10 T.g_COLON rfl) pn10)) pn10)))<|
   pc11 (ps10 (i:=3) src.nd rfl (Or.inl rfl) (pl12 (pc (pf10 T.read_way (orw T kb) hr rfl (passes1 xo) (pc (pv 0) pn10)) pn10)))<|
   pc11 (pw10 po12 (pv10 (pc_me T.kR T.Reader_passes (op10 T) hr4 pass1 (pv 0) (pc (pg10 T.g_COMMA rfl) pn10)))
    (po10 (pe10 (pb PySem.F.plainAttrs_list PySem.F.slot_list_append PySem.F.type_list_append ma (pv 3) (pc (pf10 T.read_way (orw T kb) hr rfl (passes1 xo) (pc (pv 0) pn10)) pn10)))))<|
   pc11 (pe10 (pf10 T.demand (od10 T kb) hr1 rfl (passes1 xo) (pc (pc_me T.kR T.Reader_passes (op10 T) hr4 pass1 (pv 0) (pc (pg10 T.g_SEMICOLON rfl) pn10)) pn10)))<|
   pc11 (pe10 (pf10 T.demand (od10 T kb) hr1 rfl (passes1 xo) (pc (pf10 T.all_differ (oad T) hr1 rfl pass1 (pc
     (pl14 (own:=[("way",4)]) rfl src.nd (pl11 (pv 3)) (bb10 rfl) (fun _ _ _ _ _=>pn11 (i:=4) src.nd rfl (Or.inl rfl)) (fun _ _ _ _ _=>pn12) (fun _ _ _ _ _=>pi10 (ixT K) (pv 4) pi (fun _ _=>rfl))) pn10)) pn10)))<|
   po10 (pr10 (pc_mk T.kC T.Choice_init (oci T) hr2 rfl pass1 (pc (pv 1)<|pc (pv 2)<|pc (pv 3)<|pc (pc12 (cr_sum rfl) (by rfl) T.b_sum bt_sum (pc
     (pl14 (own:=[("way",4)]) rfl src.nd (pl11 (pv 3)) (bb10 rfl) (fun _ _ _ _ _=>pn11 (i:=4) src.nd rfl (Or.inl rfl)) (fun _ _ _ _ _=>pn12) (fun _ _ _ _ _=>pi10 (ixT K) (pv 4) pi (fun _ _=>rfl))) pn10)) pn10))),?_⟩
  rw[Rd.re] at h
  refine⟨_,rfl,r,dx,_,rfl,R.ins,no_m,ur R hb (fun e H'=>?_) fun x e=>⟨ts11 R.suf e,fun v H1 R1 k1 hv=>?_⟩⟩
  ·rw[e] at h;exact h H'
  rw[e,Option.bind_some] at h
  have lx:=Rd.tl10 e
  obtain⟨nm,rfl,hnm⟩:=hv
  refine⟨_,rfl,ur R1 hb (fun e H'=>?_) fun g e=>⟨rs12 R1.suf e,fun v H2 R2 k2 hv=>?_⟩⟩
  ·rw[e] at h;exact h H'
  rw[e,Option.bind_some] at h
  have lg:=Rd.rl13 e
  obtain rfl:v=.int g.1:=hv
  refine⟨_,rfl,r,dx,_,rfl,R2.ins,no_m,r,dx,l,bs,g.2,58,rfl,by decide,R2,hb,?_⟩
  have s3:=ps11 (m:=58) R2.suf
  have l3:=Rd.pl10 58 g.2
  generalize Rd.passes 58 g.2=y at h s3 l3
  refine⟨_,rfl,?_⟩
  cases hy:y.1 with
  |false=>rw[hy] at h;exact iteF (h _)
  |true=>
  rw[hy,if_pos rfl] at h
  refine iteT ?_
  have R3:=R2.put s3
  have tk3:TK H1 (RPut t H2 r dx l bs y.2):=(Kp.tk k2 R1.ins).trans (Kp.tk Kp.upd R2.ins)
  refine⟨_,rfl,ur R3 hb (fun e H'=>?_) fun w0 e=>⟨rs10 s3 e,fun v H4 R4 k4 hv=>?_⟩⟩
  ·rw[e] at h;exact h H'
  rw[e,Option.bind_some] at h
  have lw:=Rd.rl10 e
  obtain⟨a0,b0,rfl,ha0,hb0⟩:=hv
  have lrest:=R.suf.length_le
  have hlen:=R.len
  refine⟨(by show 1<=sizeLine;decide),fun wl hwl=>?_⟩
  have sm5:=su (o:=.lst [V.ref a0]) hwl
  have tk5:TK H1 (upd H4 wl (.lst [V.ref a0])):=(tk3.trans (Kp.tk k4 R3.ins)).trans (Same.tk sm5)
  refine⟨fun m σ H'=>∃(acc:List (List Nat×Nat)) (as bn:List Addr) (q:List Nat),(Rd.MW w0.2).map (fun z=>(w0.1::z.1,z.2))=(Rd.MW q).map (fun z=>(acc++z.1,z.2))/\2*acc.length+q.length<=65536/\m=q.length /\
   σ=[some (.ref r),some (.ref nm),some (.int g.1),some (.ref wl),none]/\RAt K t H' r dx l bs q/\H' wl=some (.lst (as.map V.ref))/\Ways H' as bn acc/\TK H1 H'/\(∀b o,b≠r->H b=some o->H' b=some o)/\H wl=none,
   ⟨_,[w0.1],[a0],[b0],w0.2,rfl,?_,rfl,rfl,R4.same sm5,us10,Ways.one (sm5 _ _ ha0) (sm5 _ _ hb0),tk5,?_,?_⟩,?_⟩
  ·simp;omega
  ·intro b o hbr eb
   exact sm5 b o (k4 b o hbr (Kp.upd b o hbr (k2 b o hbr (k1 b o hbr eb))))
  ·cases q:H wl with
   |none=>rfl
   |some o=>
    have hne:wl≠r:=fun z=>by rw[z,R4.ins] at hwl;cases hwl
    rw[k4 wl o hne (Kp.upd wl o hne (k2 wl o hne (k1 wl o hne q)))] at hwl
    cases hwl
  rintro m σ H' ⟨acc,as,bn,q,inv,hq2,rfl,rfl,Rq,hwq,W,tkq,kq,hw0⟩
  refine⟨_,rfl,r,dx,_,rfl,Rq.ins,no_m,r,dx,l,bs,q,44,rfl,by decide,Rq,hb,_,rfl,?_⟩
  have hmap:((Rd.MW w0.2).bind fun r=>if (Rd.passes 59 r.2).1=true then if ((w0.1::r.1).map fun w=>w.1).Nodup then some ((⟨x.1,g.1,w0.1::r.1⟩:Ra61.RawChoice),(Rd.passes 59 r.2).2) else none else none) =
    (Rd.MW q).bind fun r=>if (Rd.passes 59 r.2).1=true then if ((acc++r.1).map fun w=>w.1).Nodup then some ((⟨x.1,g.1,acc++r.1⟩:Ra61.RawChoice),(Rd.passes 59 r.2).2) else none else none:=by
   have:=congrArg (fun o:Option (List (List Nat×Nat)×List Nat)=>o.bind fun r=>if (Rd.passes 59 r.2).1=true then if (r.1.map fun w=>w.1).Nodup then some ((⟨x.1,g.1,r.1⟩:Ra61.RawChoice),(Rd.passes 59 r.2).2) else none else none) inv
   simp only[Option.bind_map] at this
   exact this
  rw[hmap,Rd.MW_step] at h
  have sq:=ps11 (m:=44) Rq.suf
  have lq:=Rd.pl10 44 q
  have lq':=Rd.pl15 (m:=44) (b:=q) (by decide)
  have hstep:=Rd.MW_step q
  generalize Rd.passes 44 q=y2 at h sq lq lq' hstep
  have R6:=Rq.put sq
  have tk6:TK H' (RPut t H' r dx l bs y2.2):=Kp.tk Kp.upd Rq.ins
  have hwr:wl≠r:=no11 hwq Rq.ins (by intro z;cases z)
  have hw6:RPut t H' r dx l bs y2.2 wl=some (.lst (as.map V.ref)):=by unfold RPut;rw[un10 hwr];exact hwq
  cases hy2:y2.1 with
  |true=>
   rw[hy2,if_pos rfl] at h hstep
   refine iteT ⟨fun σ H7=>∃(q7:List Nat) (x7:List Nat×Nat) (a7 b7:Addr),(Rd.MW w0.2).map (fun z=>(w0.1::z.1,z.2))=(Rd.MW q7).map (fun z=>((acc++[x7])++z.1,z.2))/\q7.length<q.length/\2*(acc++[x7]).length+q7.length<=65536 /\
    σ=[some (.ref r),some (.ref nm),some (.int g.1),some (.ref wl),none]/\RAt K t H7 r dx l bs q7/\H7 wl=some (.lst ((as++[a7]).map V.ref))/\Ways H7 (as++[a7]) (bn++[b7]) (acc++[x7])/\TK H1 H7/\(∀b o,b≠r->H b=some o->H7 b=some o),?_,?_⟩
   ·rintro σ7 H7 ⟨q7,x7,a7,b7,i1,i2,i3,rfl,i5,i6,i7,i8,i9⟩
    exact⟨_,i2,acc++[x7],as++[a7],bn++[b7],q7,i1,i3,rfl,rfl,i5,i6,i7,i8,i9,hw0⟩
   ·refine⟨_,rfl,.inl ⟨rfl,_,SqL.of hw6⟩,?_⟩
    refine⟨_,rfl,ur R6 hb (fun e H'=>?_) fun x7 e=>⟨rs10 sq e,fun v H7 R7 k7 hv=>?_⟩⟩
    ·rw[e] at h;exact h H'
    obtain⟨a7,b7,rfl,ha7,hb7⟩:=hv
    have hw7:H7 wl=some (.lst (as.map V.ref)):=k7 wl _ hwr hw6
    have tk7:TK H' H7:=tk6.trans (Kp.tk k7 R6.ins)
    have l7:=Rd.rl10 e
    have l8:=lq' hy2
    have hasl:as.length<=65536:=by rw[W.len];omega
    refine⟨wl,_,_,rfl,rfl,hw7,?_,?_⟩
    ·rw[List.length_map,sizeLine_eq];omega
    have tk8:TK H7 (upd H7 wl (.lst (as.map V.ref++[.ref a7]))):=TK.upd hw7 (by intro xs z;cases z)
    refine⟨x7.2,x7.1,a7,b7,?_,by omega,by simp;omega,rfl,?_,?_,?_,(tkq.trans tk7).trans tk8,?_⟩
    ·rw[inv,hstep,e,Option.bind_some,Option.map_map]
     congr 1;funext z;simp
    ·exact⟨by rw[un10 hwr.symm];exact R7.ins,sql_off R.txt hw0 R7.txt,R7.suf,R7.len⟩
    ·rw[us10,List.map_append];rfl
    ·exact ((W.tk tk7).snoc ha7 hb7).tk tk8
    ·intro b o hbr eb
     rw[un10 (non10 eb hw0)]
     exact k7 b o hbr (Kp.upd b o hbr (kq b o hbr eb))
  |false=>
   rw[hy2] at h
   simp only[Bool.false_eq_true,if_false,Option.bind_some,List.append_nil] at h
   refine iteF ?_
   refine⟨_,rfl,r,dx,_,rfl,R6.ins,no_m,r,dx,l,bs,y2.2,59,rfl,by decide,R6,hb,?_⟩
   have s7:=ps11 (m:=59) R6.suf
   generalize Rd.passes 59 y2.2=y3 at h s7
   refine⟨_,rfl,?_⟩
   cases hy3:y3.1 with
   |false=>rw[hy3] at h;exact iteF (h _)
   |true=>
   rw[hy3,if_pos rfl] at h
   refine iteT ?_
   have R7:=R6.put s7
   rw[Rp] at R7
   rw[Rp]
   have tk7:TK H' (RPut t H' r dx l bs y3.2):=Kp.tk Kp.upd Rq.ins
   have hw7:RPut t H' r dx l bs y3.2 wl=some (.lst (as.map V.ref)):=by unfold RPut;rw[un10 hwr];exact hwq
   have W7:=W.tk tk7
   generalize hHc:RPut t H' r dx l bs y3.2=Hc at R7 tk7 hw7 W7
   have kc:∀b o,b≠r->H b=some o->Hc b=some o:=fun b o hbr eb=>by rw[<-hHc];exact Kp.upd b o hbr (kq b o hbr eb)
   have acl:acc.length<=32768:=by omega
   refine⟨_,rfl,wl,rfl,⟨_,SqL.of hw7⟩,fun D hD=>ll10 (K:=K) (a:=wl) (xs:=as.map V.ref) (fun i H8=>H8=upd Hc D (.lst ((bn.map V.ref).take i))) rfl (fun i H8 _ e8=>by rw[e8];exact SqL.of (by rw[un10 (non10 hw7 hD)];exact hw7)) ?_ ?_⟩
   ·rintro i v H8 hi rfl
    rw[List.getElem?_map] at hi
    obtain⟨ha,ea⟩:∃a,as[i]? = some a:=by
     cases ea:as[i]? with
     |none=>rw[ea] at hi;cases hi
     |some a=>exact⟨a,rfl⟩
    rw[ea] at hi
    cases hi
    have hil:i<acc.length:=by rw[<-W7.len];exact (List.getElem?_eq_some_iff.mp ea).1
    obtain⟨a',b',q1,q2,q3,q4⟩:=W7.at_ i acc[i] (List.getElem?_eq_getElem hil)
    rw[ea] at q1
    cases q1
    refine⟨rfl,?_⟩
    refine⟨_,rfl,ha,_,_,_,rfl,rfl,SqT.of (by rw[un10 (non10 q3 hD)];exact q3),at0,(bn.map V.ref).take i,us10,?_,?_⟩
    ·rw[List.length_take,sizeLine_eq];have:=W7.len2;simp;omega
    ·rw[uu,ts10 (l:=bn.map V.ref) (x:=V.ref b') (by rw[List.getElem?_map,q2];rfl)]
   ·rintro H8 rfl
    rw[List.length_map,show (bn.map V.ref).take as.length=bn.map V.ref from List.take_of_length_le (by rw[List.length_map,W7.len2,W7.len];exact Nat.le_refl _)]
    have sm8:=su (o:=.lst (bn.map V.ref)) hD
    refine⟨D,bn,_,rfl,SqL.of us10,(W7.tk (Same.tk sm8)).tups,by simp;exact acl,fun H9 sm9=>?_⟩
    refine⟨_,rfl,?_⟩
    have end_:decide (((acc.map fun w=>w.1).map zn).Nodup)=decide ((acc.map fun w=>w.1).Nodup):=by
     rw[Bool.eq_iff_iff,decide_eq_true_eq,decide_eq_true_eq];exact zn_nodup _
    by_cases nd:(acc.map fun w=>w.1).Nodup
    case neg=>rw[if_neg nd] at h;exact brF (end_.trans (decide_eq_false nd)) (h _)
    rw[if_pos nd] at h
    refine brT (end_.trans (decide_eq_true nd)) ?_
    have sm:=sm8.trans sm9
    have hw9:=sm _ _ hw7
    have W9:=W7.tk (Same.tk sm)
    refine⟨_,rfl,_,rfl,_,rfl,_,rfl,wl,rfl,⟨_,SqL.of hw9⟩,fun D2 hD2=>ll10 (K:=K) (a:=wl) (xs:=as.map V.ref) (fun i H10=>H10=upd H9 D2 (.lst (((acc.map fun w=>(w.2:Int)).map V.int).take i))) rfl (fun i H10 _ e10=>by rw[e10];exact SqL.of (by rw[un10 (non10 hw9 hD2)];exact hw9)) ?_ ?_⟩
    ·rintro i v H10 hi rfl
     rw[List.getElem?_map] at hi
     obtain⟨ha,ea⟩:∃a,as[i]? = some a:=by
      cases ea:as[i]? with
      |none=>rw[ea] at hi;cases hi
      |some a=>exact⟨a,rfl⟩
     rw[ea] at hi
     cases hi
     have hil:i<acc.length:=by rw[<-W9.len];exact (List.getElem?_eq_some_iff.mp ea).1
     obtain⟨a',b',q1,q2,q3,q4⟩:=W9.at_ i acc[i] (List.getElem?_eq_getElem hil)
     rw[ea] at q1
     cases q1
     refine⟨rfl,?_⟩
     refine⟨_,rfl,ha,_,_,_,rfl,rfl,SqT.of (by rw[un10 (non10 q3 hD2)];exact q3),at1,_,us10,?_,?_⟩
     ·rw[List.length_take,sizeLine_eq];simp;omega
     ·rw[uu,ts10 (l:=(acc.map fun w=>(w.2:Int)).map V.int) (x:=V.int ((acc[i]).2:Int)) (by rw[List.getElem?_map,List.getElem?_map,List.getElem?_eq_getElem hil];rfl)]
    ·rintro H10 rfl
     rw[List.length_map,show ((acc.map fun w=>(w.2:Int)).map V.int).take as.length=(acc.map fun w=>(w.2:Int)).map V.int from List.take_of_length_le (by rw[List.length_map,List.length_map,W9.len];exact Nat.le_refl _)]
     have sm10:=su (o:=.lst ((acc.map fun w=>(w.2:Int)).map V.int)) hD2
     refine⟨D2,_,rfl,SqL.of us10,?_⟩
     intro c dc hc hdc hne
     refine⟨c,dc,_,_,_,_,rfl,us10,rfl,?_⟩
     rw[uu]
     have sm11:=(sm.trans sm10).trans (sm12 (u:=.own c) (v:=.ins t.cC dc (chF (.ref nm) (.int g.1) (.ref wl) (.int (acc.map fun w=>(w.2:Int)).sum))) hc hdc)
     refine h.2 _ _ (R7.same sm11) (fun b o hbr eb=>sm11 b o (kc b o hbr eb)) ⟨c,dc,nm,wl,as,bn,rfl,us10,?_,sm11 _ _ hw7,W7.tk (Same.tk sm11),?_,hw0⟩
     ·exact (Same.tk sm11) _ _ (tk7 _ _ (tkq _ _ hnm))
     ·exact (Kp.lss kc R7.ins) c ((Same.lss (sm.trans sm10)) c hc)
end
end Ck
end
noncomputable section
namespace Ck
open PySem PySem.Spec PyProof.Rows L2
section
variable{P:Program}{w:World}{K:PySem.W.Frag}{mg:Str->Option Value}{base:Heap}{t:Adr}
theorem dp_ints{H:Hp}:∀k:List Int,DpAll K H (k.map V.int) (k.map PyData.int)
 |[]=>.nil
 |i::k=>.cons (.int i) (dp_ints k)
theorem lay_ints:∀k:List Int,PyData.canLayAll0 (k.map PyData.int)=true
 |[]=>by rw[List.map_nil,PyData.canLayAll0]
 |i::k=>by rw[List.map_cons,PyData.canLayAll0,lay_ints k,PyData.canLay0];rfl
theorem di10:∀k:List Int,PyData.depthAll (k.map PyData.int)=0
 |[]=>by rw[List.map_nil,PyData.depthAll]
 |i::k=>by rw[List.map_cons,PyData.depthAll,di10 k,PyData.depth];rfl;all_goals (intros;simp)
theorem si10(k:List Int):SeqAt.shaped (.tuple (k.map PyData.int))=true:=by
 unfold SeqAt.shaped
 rw[PyData.canLay0,PyData.depth,lay_ints,di10];rfl
theorem eqv_ints:∀k m:List Int,PyData.eqvAll (k.map PyData.int) (m.map PyData.int)=decide (k=m)
 |[],[]=>by simp[PyData.eqvAll]
 |[],_::_=>by simp[PyData.eqvAll]
 |_::_,[]=>by simp[PyData.eqvAll]
 |i::k,j::m=>by
  rw[List.map_cons,List.map_cons,PyData.eqvAll,eqv_ints k m,PyData.eqv,Bool.eq_iff_iff]
  simp
def rEqT(K:PySem.W.Frag):R2:=fun x y H Q=>∃(a b:Addr) (k m:List Int),x=.ref a/\y=.ref b/\SqT K H a (k.map V.int)/\SqT K H b (m.map V.int)/\Q (.bl (decide (k=m))) H
theorem op_eqT{X:Cx}(K:PySem.W.Frag)(hu:X.A.units+64<cLine)(e:X.K=K:=by rfl):OpR X (compareOp .Eq) (rEqT K):=by
 subst e
 intro pins s σ H x y v u Q I rx ry h
 obtain⟨a,b,k,m,rfl,rfl,ha,hb,q⟩:=h
 refine op_eqD hu pins s σ H _ _ v u Q I rx ry ⟨_,_,.tup ha (dp_ints k),.tup hb (dp_ints m),si10 k,si10 m,?_⟩
 rw[PyData.eqv,eqv_ints];exact q
theorem pf{X:Cx}{e:Expr}{f:Str}{pos:Pos}{ta:TE}(K:PySem.W.Frag)(he:PE X e ta)(hb:attributeBase e f X.env (eval e X.env)=eval e X.env)(eK:X.K=K:=by rfl):PE X (.Attribute e f pos) (tFld K ta f):=eK ▸ pf11 he hb
structure Ea{α:Type}(R:α->Addr->Prop)(as:List Addr)(xs:List α):Prop where
 len:as.length=xs.length
 at_:∀(i:Nat) (x:α),xs[i]? = some x->∃a,as[i]? = some a/\R x a
theorem Ea.mono{α:Type}{R S:α->Addr->Prop}{as:List Addr}{xs:List α}(E:Ea R as xs)(h:∀x a,R x a->S x a):Ea S as xs:=
 ⟨E.len,fun i x e=>let ⟨a,e1,e2⟩:=E.at_ i x e;⟨a,e1,h x a e2⟩⟩
theorem Ea.nil{α:Type}{R:α->Addr->Prop}:Ea R [] []:=⟨rfl,fun i x e=>by simp at e⟩
theorem Ea.snoc{α:Type}{R:α->Addr->Prop}{as:List Addr}{xs:List α}{a:Addr}{x:α}(E:Ea R as xs)(h:R x a):Ea R (as++[a]) (xs++[x]):=
 ⟨by simp[E.len],fun i y e=>by
  by_cases hi:i<xs.length
  ·rw[List.getElem?_append_left hi] at e
   obtain⟨a',q1,q2⟩:=E.at_ i y e
   exact⟨a',by rw[List.getElem?_append_left (by rw[E.len];exact hi)];exact q1,q2⟩
  ·have hi':i<xs.length+1:=by have:=(List.getElem?_eq_some_iff.mp e).1;simpa using this
   obtain rfl:i=xs.length:=by omega
   rw[List.getElem?_concat_length] at e
   cases e
   exact⟨a,by rw[<-E.len,List.getElem?_concat_length],h⟩⟩
theorem Ea.get{α:Type}{R:α->Addr->Prop}{as:List Addr}{xs:List α}(E:Ea R as xs){i:Nat}{a:Addr}(h:as[i]? = some a):∃x,xs[i]? = some x/\R x a:=by
 have hi:i<xs.length:=by rw[<-E.len];exact (List.getElem?_eq_some_iff.mp h).1
 obtain⟨a',e1,e2⟩:=E.at_ i _ (List.getElem?_eq_getElem hi)
 rw[h] at e1
 cases e1
 exact⟨_,List.getElem?_eq_getElem hi,e2⟩
theorem ra10{as:List Addr}{i:Nat}{v:V}(h:(as.map V.ref)[i]? = some v):∃a,as[i]? = some a/\v=.ref a:=by
 rw[List.getElem?_map] at h
 cases e:as[i]? with
 |none=>rw[e] at h;cases h
 |some a=>rw[e] at h;cases h;exact⟨a,rfl,rfl⟩
abbrev ChR(t:Adr)(H0 H:Hp)(c:Ra61.RawChoice)(a:Addr):Prop:=ChI t c (.ref a) H0 H
theorem ChR.kp{H0 H H':Hp}{c:Ra61.RawChoice}{a p:Addr}{o u:HO}(h:ChR t H0 H c a)(hp:H0 p=some o)(hq:H p=some u)(hu:∀xs,u≠.tup xs)(k:Kp p H H'):ChR t H0 H' c a:=by
 obtain⟨a',dx,nm,wy,as,bn,e,h1,h2,h3,h4,h5,h6⟩:=h
 have tk:TK H H':=fun b xs q=>k b _ (fun z=>by rw[z,hq] at q;cases q;exact hu xs rfl) q
 exact⟨a',dx,nm,wy,as,bn,e,k _ _ (fun z=>by rw[z,hp] at h5;cases h5) h1,tk _ _ h2,k _ _ (fun z=>by rw[z,hp] at h6;cases h6) h3,h4.tk tk,h5,h6⟩
theorem ChR.same{H0 H H':Hp}{c:Ra61.RawChoice}{a:Addr}(h:ChR t H0 H c a)(s:Same H H'):ChR t H0 H' c a:=by
 obtain⟨a',dx,nm,wy,as,bn,e,h1,h2,h3,h4,h5,h6⟩:=h
 exact⟨a',dx,nm,wy,as,bn,e,s _ _ h1,s _ _ h2,s _ _ h3,h4.tk (Same.tk s),h5,h6⟩
theorem ChR.lss{H0 H0' H:Hp}{c:Ra61.RawChoice}{a:Addr}(h:ChR t H0 H c a)(s:Lss H0' H0):ChR t H0' H c a:=by
 obtain⟨a',dx,nm,wy,as,bn,e,h1,h2,h3,h4,h5,h6⟩:=h
 exact⟨a',dx,nm,wy,as,bn,e,h1,h2,h3,h4,s _ h5,s _ h6⟩
def StR(t:Adr)(H0 H:Hp)(s:Ra61.RawState)(a cl:Addr)(cas:List Addr):Prop:=∃dx nm,H a=some (.ins t.cS dx (stF (.ref nm) (.ref cl)))/\H nm=some (.tup (byts s.name))/\H cl=some (.lst (cas.map V.ref)) /\
 Ea (ChR t H0 H) cas s.choices/\cas.Nodup/\H0 a=none/\H0 cl=none
def StI(t:Adr)(s:Ra61.RawState)(v:V)(H0 H:Hp):Prop:=∃a cl cas,v=.ref a/\StR t H0 H s a cl cas
theorem rl14{b:List Nat}{x}(h:Rd.readChoice b=some x):x.2.length+2<=b.length:=by
 rw[Rd.re] at h
 obtain⟨a,h1,h⟩:=Rd.bind_some h
 obtain⟨g,h2,h⟩:=Rd.bind_some h
 obtain⟨_,h⟩:=Rd.is10 h
 obtain⟨y,h4,h⟩:=Rd.bind_some h
 obtain⟨r,h5,h⟩:=Rd.bind_some h
 obtain⟨_,h⟩:=Rd.is10 h
 obtain⟨_,h⟩:=Rd.is10 h
 cases h
 have:=Rd.tl10 h1;have:=Rd.rl13 h2;have:=Rd.pl10 58 g.2;have:=Rd.rl10 h4;have:=Rd.ml12 h5;have:=Rd.pl10 59 r.2
 simp only;omega
theorem rs11{bs b:List Nat}{x}(s:b <:+ bs)(h:Rd.readChoice b=some x):x.2 <:+ bs:=by
 rw[Rd.re] at h
 obtain⟨a,h1,h⟩:=Rd.bind_some h
 obtain⟨g,h2,h⟩:=Rd.bind_some h
 obtain⟨_,h⟩:=Rd.is10 h
 obtain⟨y,h4,h⟩:=Rd.bind_some h
 obtain⟨r,h5,h⟩:=Rd.bind_some h
 obtain⟨_,h⟩:=Rd.is10 h
 obtain⟨_,h⟩:=Rd.is10 h
 cases h
 have s2:=rs10 (ps11 (m:=58) (rs12 (ts11 s h1) h2)) h4
 refine ps11 ?_
 clear h1 h2 h4
 generalize y.2=q at h5 s2
 have:∀(n:Nat) (q:List Nat),q.length<n->q <:+ bs->∀r,Rd.MW q=some r->r.2 <:+ bs:=by
  intro n
  induction n with
  |zero=>intro q h;omega
  |succ n ih=>
   intro q hq sq r e
   rw[Rd.MW_step] at e
   have hp:=Rd.pl10 44 q
   split at e
   ·rename_i hx
    have hl:=Rd.pl15 (m:=44) (by decide) hx
    obtain⟨w,e1,e⟩:=Rd.bind_some e
    obtain⟨z,e2,rfl⟩:=Rd.map_some e
    have:=Rd.rl10 e1
    exact ih w.2 (by omega) (rs10 (ps11 sq) e1) z e2
   ·cases e;exact ps11 sq
 exact this _ q (Nat.lt_succ_self _) s2 r h5
end
end Ck
end
noncomputable section
namespace Ck
open PySem PySem.Spec PyProof.Rows L2
section
variable{P:Program}{w:World}{K:PySem.W.Frag}{mg:Str->Option Value}{base:Heap}{t:Adr}
theorem gSW(T:Txt K mg t):GlV mg "STATE_WORD" (.ref t.t_STATE_WORD):=⟨_,T.g_STATE_WORD,rfl⟩
theorem st_word{k:List Nat}:decide (zn k=([115,116,97,116,101]:List Int))=decide (k=[115,116,97,116,101]):=by
 rw[Bool.eq_iff_iff,decide_eq_true_eq,decide_eq_true_eq]
 exact⟨fun z=>zn_inj z,fun z=>by rw[z];rfl⟩
theorem ea_names{H0 H:Hp}{cas:List Addr}{acc:List Ra61.RawChoice}(W:Ea (ChR t H0 H) cas acc):∃nms:List Addr,nms.length=acc.length/\∀(i:Nat) (c:Ra61.RawChoice),acc[i]? = some c->∃a dx wy n,cas[i]? = some a/\nms[i]? = some n/\H a=some (.ins t.cC dx (chF (.ref n) (.int c.gain) (.ref wy) (.int (c.ways.map fun w=>(w.2:Int)).sum)))/\H n=some (.tup (byts c.name)):=by
 have key:∀i:Fin acc.length,∃n,∃a dx wy,cas[i.1]? = some a/\H a=some (.ins t.cC dx (chF (.ref n) (.int (acc[i.1]).gain) (.ref wy) (.int ((acc[i.1]).ways.map fun w=>(w.2:Int)).sum)))/\H n=some (.tup (byts (acc[i.1]).name)):=fun i=>by
  obtain⟨a,e,a',dx,nm,wy,as,bn,e2,h1,h2,_⟩:=W.at_ i.1 _ (List.getElem?_eq_getElem i.2)
  cases e2
  exact⟨nm,a,dx,wy,e,h1,h2⟩
 refine⟨List.ofFn fun i:Fin acc.length=>Classical.choose (key i),by simp,fun i c e=>?_⟩
 obtain⟨hi,rfl⟩:=List.getElem?_eq_some_iff.mp e
 obtain⟨a,dx,wy,q1,q2,q3⟩:=Classical.choose_spec (key ⟨i,hi⟩)
 exact⟨a,dx,wy,_,q1,by rw[List.getElem?_ofFn];simp[hi],q2,q3⟩
theorem ok_read_state(T:Txt K mg t)(kb:K.In base):Ok P w K mg base 7 t.frs13 t.frs11 ["reader"] (sp_readF K t Rd.readState (StI t)):=by
 refine T.read_state.fn.okX srs10 (fun vs H Q E h=>?_) fun cdv A outer s H vs Q E hr h=>?_
 ·obtain⟨r,dx,l,bs,rest,rfl,_⟩:=h;rfl
 ·obtain⟨r,dx,l,bs,rest,rfl,R,hb,h⟩:=h
  have hr4:=hr.mono (show 4<=6 by decide)
  have hr2:=hr.mono (show 2<=6 by decide)
  have hr1:=hr.mono (show 1<=6 by decide)
  refine⟨_,pc11 (pe10 (pf10 T.demand (od10 T kb) hr1 rfl (passes1 xo) (pc (pc14 (op_eqT K hr.units) (pm10 T.kR T.Reader_take_name (otn T kb) hr4 (passes1 xo) (pv 0)) (pg10 (gSW T) rfl) (nomark _)) pn10)))<|
   pc11 (ps10 (i:=1) srs10.nd rfl (Or.inl rfl) (pm10 T.kR T.Reader_take_name (otn T kb) hr4 (passes1 xo) (pv 0)))<|
   pc11 (pe10 (pf10 T.demand (od10 T kb) hr1 rfl (passes1 xo) (pc (pc_me T.kR T.Reader_passes (op10 T) hr4 pass1 (pv 0) (pc (pg10 T.g_LEFT_BRACE rfl) pn10)) pn10)))<|
   pc11 (ps10 (i:=2) srs10.nd rfl (Or.inl rfl) (pl12 pn10))<|
   pc11 (pw10 po12 (pt_not (pv10 (pc_me T.kR T.Reader_passes (op10 T) hr4 pass1 (pv 0) (pc (pg10 T.gRB rfl) pn10))))
    (po10 (pe10 (pb PySem.F.plainAttrs_list PySem.F.slot_list_append PySem.F.type_list_append ma (pv 2) (pc (pf10 T.read_choice (orc T kb) hr rfl (passes1 xo) (pc (pv 0) pn10)) pn10)))))<|
   pc11 (pe10 (pf10 T.demand (od10 T kb) hr1 rfl (passes1 xo) (pc (pc14 ol10 (pc12 cls10 (by rfl) T.b_len bl11 (pc (pv 2) pn10)) (pg10 T.gMC rfl) (nomark _)) pn10)))<|
   pc11 (pe10 (pf10 T.demand (od10 T kb) hr1 rfl (passes1 xo) (pc (pf10 T.all_differ (oad T) hr1 rfl pass1 (pc
     (pl14 (own:=[("choice",3)]) rfl srs10.nd (pl11 (pv 2)) (bb10 rfl) (fun _ _ _ _ _=>pn11 (i:=3) srs10.nd rfl (Or.inl rfl)) (fun _ _ _ _ _=>pn12) (fun _ _ _ _ _=>pf K (pv 3) rfl)) pn10)) pn10)))<|
   po10 (pr10 (pc_mk T.kS T.State_init (osi T) hr2 rfl pass1 (pc (pv 1)<|pc (pv 2)<|pn10))),?_⟩
  rw[Rd.re10] at h
  refine⟨_,rfl,r,dx,_,rfl,R.ins,no_m,ur R hb (fun e H'=>?_) fun x e=>⟨ts11 R.suf e,fun v H1 R1 k1 hv=>?_⟩⟩
  ·rw[e] at h;exact h H'
  rw[e,Option.bind_some] at h
  have lx:=Rd.tl10 e
  obtain⟨sw,rfl,hsw⟩:=hv
  refine⟨sw,t.t_STATE_WORD,zn x.1,_,rfl,rfl,SqT.of (by rw[<-bz10];exact hsw),T.v_STATE_WORD _,_,rfl,?_⟩
  by_cases hx:x.1=[115,116,97,116,101]
  case neg=>rw[if_neg hx] at h;exact brF (st_word.trans (decide_eq_false hx)) (h _)
  rw[if_pos hx] at h
  refine brT (st_word.trans (decide_eq_true hx)) ?_
  refine⟨_,rfl,r,dx,_,rfl,R1.ins,no_m,ur R1 hb (fun e H'=>?_) fun y e=>⟨ts11 R1.suf e,fun v H2 R2 k2 hv=>?_⟩⟩
  ·rw[e] at h;exact h H'
  rw[e,Option.bind_some] at h
  have ly:=Rd.tl10 e
  obtain⟨nm,rfl,hnm⟩:=hv
  refine⟨_,rfl,r,dx,_,rfl,R2.ins,no_m,r,dx,l,bs,y.2,123,rfl,by decide,R2,hb,?_⟩
  have s3:=ps11 (m:=123) R2.suf
  have l3:=Rd.pl10 123 y.2
  generalize Rd.passes 123 y.2=z at h s3 l3
  refine⟨_,rfl,?_⟩
  cases hz:z.1 with
  |false=>rw[hz] at h;exact iteF (h _)
  |true=>
  rw[hz,if_pos rfl] at h
  refine iteT ?_
  have R3:=R2.put s3
  have lrest:=R.suf.length_le
  have hlen:=R.len
  have k3:Kp r H (RPut t H2 r dx l bs z.2):=(k1.trans k2).trans Kp.upd
  have hnm3:RPut t H2 r dx l bs z.2 nm=some (.tup (byts y.1)):=Kp.tk Kp.upd R2.ins _ _ hnm
  generalize RPut t H2 r dx l bs z.2=H3 at R3 k3 hnm3
  refine⟨(by show 0<=sizeLine;decide),fun cl hcl=>?_⟩
  have sm4:=su (o:=.lst []) hcl
  have hcl0:H cl=none:=Kp.lss k3 R3.ins cl hcl
  have R4:=R3.same sm4
  have k4:Kp r H (upd H3 cl (.lst [])):=k3.trans (Kp.of sm4)
  have hnm4:=sm4 _ _ hnm3
  have hcl4:upd H3 cl (.lst []) cl=some (.lst []):=us10
  show tSeq _ _ _ _ (upd H3 cl (.lst []))
  generalize upd H3 cl (.lst [])=H4 at R4 k4 hnm4 hcl4
  refine⟨fun m σ H'=>∃(acc:List Ra61.RawChoice) (cas:List Addr) (q:List Nat),Rd.MC z.2=(Rd.MC q).map (fun u=>(acc++u.1,u.2))/\2*acc.length+q.length<=65536/\m=q.length /\
   σ=[some (.ref r),some (.ref nm),some (.ref cl),none]/\RAt K t H' r dx l bs q/\H' cl=some (.lst (cas.map V.ref))/\Ea (ChR t H4 H') cas acc/\cas.Nodup/\(∀b o,b≠r->H b=some o->H' b=some o)/\H' nm=some (.tup (byts y.1))/\Lss H4 H'/\(∀a∈cas,∃o,H' a=some o),
   ⟨_,[],[],z.2,?_,?_,rfl,rfl,R4,hcl4,Ea.nil,List.nodup_nil,k4,hnm4,Lss.refl _,by simp⟩,?_⟩
  ·simp
  ·simp;omega
  rintro m σ H' ⟨acc,cas,q,inv,hq2,rfl,rfl,Rq,hcq,W,nd,kq,hnq,lq4,onq⟩
  refine⟨_,rfl,r,dx,_,rfl,Rq.ins,no_m,r,dx,l,bs,q,125,rfl,by decide,Rq,hb,_,rfl,?_⟩
  have hmap:((Rd.MC z.2).bind fun c=>if c.1.length<=8 then if (c.1.map fun c=>c.name).Nodup then some ((⟨y.1,c.1⟩:Ra61.RawState),c.2) else none else none) =
    (Rd.MC q).bind fun c=>if (acc++c.1).length<=8 then if ((acc++c.1).map fun c=>c.name).Nodup then some ((⟨y.1,acc++c.1⟩:Ra61.RawState),c.2) else none else none:=by
   rw[inv];simp only[Option.bind_map];rfl
  rw[hmap,Rd.Ms] at h
  have sq:=ps11 (m:=125) Rq.suf
  have lq:=Rd.pl10 125 q
  have hstep:=Rd.Ms q
  generalize Rd.passes 125 q=y2 at h sq lq hstep
  have R6:=Rq.put sq
  have hcr:cl≠r:=no11 hcq Rq.ins (by intro z;cases z)
  have hc6:RPut t H' r dx l bs y2.2 cl=some (.lst (cas.map V.ref)):=by unfold RPut;rw[un10 hcr];exact hcq
  have W6:Ea (ChR t H4 (RPut t H' r dx l bs y2.2)) cas acc:=W.mono fun x a h=>h.kp R4.ins Rq.ins (by intro xs z;cases z) Kp.upd
  have k6:Kp r H' (RPut t H' r dx l bs y2.2):=Kp.upd
  have hn6:RPut t H' r dx l bs y2.2 nm=some (.tup (byts y.1)):=Kp.tk k6 Rq.ins _ _ hnq
  have ls6:Lss H' (RPut t H' r dx l bs y2.2):=Kp.lss k6 R6.ins
  have on6:∀a∈cas,∃o,RPut t H' r dx l bs y2.2 a=some o:=fun a ha=>by
   by_cases z:a=r
   ·exact⟨_,by rw[z];exact R6.ins⟩
   ·obtain⟨o,eo⟩:=onq a ha;exact⟨o,k6 _ _ z eo⟩
  generalize RPut t H' r dx l bs y2.2=H6 at R6 hc6 W6 k6 hn6 ls6 on6
  cases hy2:y2.1 with
  |false=>
   rw[hy2] at h hstep
   simp only[Bool.false_eq_true,if_false] at h hstep
   refine⟨fun σ H7=>∃(q7:List Nat) (x7:Ra61.RawChoice) (a7:Addr),Rd.MC z.2=(Rd.MC q7).map (fun u=>((acc++[x7])++u.1,u.2))/\q7.length<q.length/\2*(acc++[x7]).length+q7.length<=65536 /\
    σ=[some (.ref r),some (.ref nm),some (.ref cl),none]/\RAt K t H7 r dx l bs q7/\H7 cl=some (.lst ((cas++[a7]).map V.ref))/\Ea (ChR t H4 H7) (cas++[a7]) (acc++[x7])/\(cas++[a7]).Nodup/\(∀b o,b≠r->H b=some o->H7 b=some o)/\H7 nm=some (.tup (byts y.1))/\Lss H4 H7/\(∀a∈cas++[a7],∃o,H7 a=some o),?_,?_⟩
   ·rintro σ7 H7 ⟨q7,x7,a7,i1,i2,i3,rfl,i5,i6,i7,i8,i9,i10,i11,i12⟩
    exact⟨_,i2,acc++[x7],cas++[a7],q7,i1,i3,rfl,rfl,i5,i6,i7,i8,i9,i10,i11,i12⟩
   ·refine⟨_,rfl,.inl ⟨rfl,_,SqL.of hc6⟩,?_⟩
    refine⟨_,rfl,use_readF R6 hb (fun e H'=>?_) fun x7 e=>⟨rs11 sq e,fun v H7 R7 k7 hv=>?_⟩⟩
    ·rw[e] at h;exact h H'
    have l7:x7.2.length+2<=y2.2.length:=rl14 e
    obtain⟨a7,dx7,nm7,wy7,as7,bn7,rfl,hch⟩:=hv
    have hc7:H7 cl=some (.lst (cas.map V.ref)):=k7 cl _ hcr hc6
    have hcasl:cas.length<=65536:=by rw[W.len];omega
    have new7:ChR t H6 H7 x7.1 a7:=⟨a7,dx7,nm7,wy7,as7,bn7,rfl,hch⟩
    have ls46:Lss H4 H6:=lq4.trans ls6
    refine⟨cl,_,_,rfl,rfl,hc7,?_,?_⟩
    ·rw[List.length_map,sizeLine_eq];omega
    have k8:Kp cl H7 (upd H7 cl (.lst (cas.map V.ref++[.ref a7]))):=Kp.upd
    have ls8:Lss H7 (upd H7 cl (.lst (cas.map V.ref++[.ref a7]))):=Kp.lss k8 us10
    have all7:Ea (ChR t H4 H7) (cas++[a7]) (acc++[x7.1]):=Ea.snoc (W6.mono fun x a h=>h.kp R4.ins R6.ins (by intro xs z;cases z) k7) (new7.lss ls46)
    refine⟨x7.2,x7.1,a7,?_,by omega,by simp;omega,rfl,?_,?_,all7.mono fun x a h=>h.kp hcl4 hc7 (by intro xs z;cases z) k8,?_,?_,?_,(ls46.trans (Kp.lss k7 R7.ins)).trans ls8,?_⟩
    ·rw[inv,hstep,e,Option.bind_some,Option.map_map]
     congr 1;funext z;simp
    ·exact⟨by rw[un10 hcr.symm];exact R7.ins,sql_off R.txt hcl0 R7.txt,R7.suf,R7.len⟩
    ·rw[us10,List.map_append];rfl
    ·rw[List.nodup_append]
     refine⟨nd,by simp,fun a ha b hb e2=>?_⟩
     obtain rfl:b=a7:=by simpa using hb
     obtain⟨o,eo⟩:=on6 a ha
     rw[e2,hch.2.2.2.2.1] at eo
     cases eo
    ·intro b o hbr eb
     rw[un10 (non10 eb hcl0)]
     exact k7 b o hbr (k6 b o hbr (kq b o hbr eb))
    ·exact TK.upd hc7 (by intro xs z;cases z) _ _ (Kp.tk k7 R6.ins _ _ hn6)
    ·intro a ha
     have:∃o,H7 a=some o:=by
      rcases List.mem_append.mp ha with ha | ha
      ·obtain⟨o,eo⟩:=on6 a ha
       by_cases z:a=r
       ·exact⟨_,by rw[z];exact R7.ins⟩
       ·exact⟨o,k7 _ _ z eo⟩
      ·obtain rfl:a=a7:=by simpa using ha
       exact⟨_,hch.1⟩
     obtain⟨o,eo⟩:=this
     by_cases z:a=cl
     ·exact⟨_,by rw[z];exact us10⟩
     ·exact⟨o,by rw[un10 z];exact eo⟩
  |true=>
   rw[hy2] at h
   simp only[if_true,Option.bind_some,List.append_nil] at h
   refine iteF ?_
   have acl:acc.length<=32768:=by omega
   refine⟨_,rfl,cl,_,rfl,.inl (SqL.of hc6),_,_,rfl,rfl,_,rfl,?_⟩
   have e8:decide (((cas.map V.ref).length:Int)<=8)=decide (acc.length<=8):=by rw[List.length_map,W.len];exact ln10 _ 8
   by_cases h8:acc.length<=8
   case neg=>rw[if_neg h8] at h;exact brF (e8.trans (decide_eq_false h8)) (h _)
   rw[if_pos h8] at h
   refine brT (e8.trans (decide_eq_true h8)) ?_
   have sm8':∀{D:Addr} {xs:List V},H6 D=none->Same H6 (upd H6 D (.lst xs)):=fun hD=>su hD
   obtain⟨nms,N6⟩:=ea_names W6
   refine⟨_,rfl,cl,rfl,⟨_,SqL.of hc6⟩,fun D hD=>ll10 (K:=K) (a:=cl) (xs:=cas.map V.ref) (fun i H8=>H8=upd H6 D (.lst ((nms.map V.ref).take i))) rfl (fun i H8 _ e8=>by rw[e8];exact SqL.of (by rw[un10 (non10 hc6 hD)];exact hc6)) ?_ ?_⟩
   ·rintro i v H8 hi rfl
    obtain⟨ha,ea,rfl⟩:=ra10 hi
    have hil:i<acc.length:=by rw[<-W6.len];exact (List.getElem?_eq_some_iff.mp ea).1
    obtain⟨a',dxc,wy,n,q1,q2,q3,q4⟩:=N6.2 i acc[i] (List.getElem?_eq_getElem hil)
    rw[ea] at q1
    cases q1
    refine⟨rfl,?_⟩
    refine⟨_,rfl,ha,_,dxc,_,_,rfl,(by rw[un10 (non10 q3 hD)];exact q3),T.kC.cl,T.nCn,chF_name _ _ _ _,(nms.map V.ref).take i,us10,?_,?_⟩
    ·rw[List.length_take,sizeLine_eq];have:=N6.1;simp;omega
    ·rw[uu,ts10 (l:=nms.map V.ref) (x:=V.ref n) (by rw[List.getElem?_map,q2];rfl)]
   ·rintro H8 rfl
    rw[List.length_map,show (nms.map V.ref).take cas.length=nms.map V.ref from List.take_of_length_le (by rw[List.length_map,N6.1,W6.len];exact Nat.le_refl _)]
    have sm8:=su (o:=.lst (nms.map V.ref)) hD
    refine⟨D,nms,(acc.map fun c=>c.name).map zn,rfl,SqL.of us10,⟨by simp[N6.1],fun i a k e1 e2=>?_⟩,by simp;exact acl,fun H9 sm9=>?_⟩
    ·rw[List.getElem?_map,List.getElem?_map] at e2
     cases e:acc[i]? with
     |none=>rw[e] at e2;cases e2
     |some x=>
      rw[e] at e2
      have e2:some (zn x.name)=some k:=e2
      cases e2
      obtain⟨a',dxc,wy,n,q1,q2,q3,q4⟩:=N6.2 i x e
      rw[e1] at q2
      cases q2
      rw[<-bz10]
      exact SqT.of (sm8 _ _ q4)
    refine⟨_,rfl,?_⟩
    have end_:decide (((acc.map fun c=>c.name).map zn).Nodup)=decide ((acc.map fun c=>c.name).Nodup):=by
     rw[Bool.eq_iff_iff,decide_eq_true_eq,decide_eq_true_eq];exact zn_nodup _
    by_cases ndn:(acc.map fun c=>c.name).Nodup
    case neg=>rw[if_neg ndn] at h;exact brF (end_.trans (decide_eq_false ndn)) (h _)
    rw[if_pos ndn] at h
    refine brT (end_.trans (decide_eq_true ndn)) ?_
    have sm:=sm8.trans sm9
    refine⟨_,rfl,_,rfl,?_⟩
    intro c dc hc hdc hne
    refine⟨c,dc,_,_,rfl,us10,rfl,?_⟩
    rw[uu]
    have sm11:=sm.trans (sm12 (u:=.own c) (v:=.ins t.cS dc (stF (.ref nm) (.ref cl))) hc hdc)
    have kfin:Kp r H H6:=fun b o hbr eb=>k6 b o hbr (kq b o hbr eb)
    refine h.2 _ _ (R6.same sm11) (fun b o hbr eb=>sm11 b o (kfin b o hbr eb)) ⟨c,cl,cas,rfl,dc,nm,us10,sm11 _ _ hn6,sm11 _ _ hc6,?_,nd,?_,hcl0⟩
    ·exact W6.mono fun x a h=>(h.same sm11).lss (Kp.lss k4 R4.ins)
    ·exact (Kp.lss kfin R6.ins) c ((Same.lss sm) c hc)
end
end Ck
end
noncomputable section
namespace Ck
open PySem PySem.Spec PyProof.Rows L2
section
variable{P:Program}{w:World}{K:PySem.W.Frag}{mg:Str->Option Value}{base:Heap}{t:Adr}
def rInT(K:PySem.W.Frag):R2:=fun x y H Q=>∃(a l:Addr) (k:List Int) (as:List Addr) (kl:List (List Int)),x=.ref a/\SqT K H a (k.map V.int)/\y=.ref l/\SqL K H l (as.map V.ref)/\Tups K H as kl /\
  Q (.bl (decide (k∈kl))) H
theorem op_inTK{X:Cx}(K:PySem.W.Frag)(hu:X.A.units+64<cLine)(e:X.K=K:=by rfl):OpR X (compareOp .In) (rInT K):=e ▸ op_inT hu
def rIndexT(K:PySem.W.Frag):V->List V->Hp->VK->Prop:=fun x xs H Q=>∃(a l:Addr) (k:List Int) (as:List Addr) (kl:List (List Int)) (j:Nat),x=.ref l/\xs=[.ref a]/\SqT K H a (k.map V.int)/\SqL K H l (as.map V.ref)/\Tups K H as kl /\
  kl[j]? = some k/\(∀m,m<j->kl[m]?≠some k)/\Q (.int (j:Nat)) H
theorem mt_indexTK{X:Cx}(K:PySem.W.Frag)(hu:X.A.units+64<cLine)(e:X.K=K:=by rfl):MtR X "list.index" (rIndexT K):=e ▸ mt_indexT hu
theorem pe_bmK{X:Cx}(K:PySem.W.Frag){o e:Expr}{es:List Expr}{to:TE}{t:TA}{name:Str}{apos cpos:Pos}{T id:String}{r:V->List V->Hp->VK->Prop}(pa:PlainAttrs T)(slot:Slot T name id)(hty:typeOf (.builtin id)=pure (.type "method_descriptor"))(hm:MtR X id r)(ho:PE X o to)(ha:PA X (e::es) t)(eK:X.K=K:=by rfl)
  (hbase:attributeBase o name X.env (eval o X.env)=eval o X.env:=by rfl)
  (hfew:((backTo cpos (starEach (e::es) X.env)).all (fun x=>!x.1)&&(backToKw cpos (keywordEach [] X.env)).all (fun x=>x.1.isSome)
   && decide ((e::es).length+([]:List Keyword).length+(if ([]:List Keyword).isEmpty then 0 else 1)<30))=true:=by rfl)
  (hline:(apos.endLine==cpos.line)=true:=by rfl) (hs:starEach (e::es) X.env=(false,eval e X.env)::starEach es X.env:=by rfl) (hplain:(backTo cpos (starEach es X.env)).any (·.1)=false:=by rfl) :
  PE X (.Call (.Attribute o name apos) (e::es) [] cpos) (tBM K T r to t):=eK ▸ pb pa slot hty hm ho ha hbase hfew hline hs hplain
def WayP(H:Hp)(x:Nat×Nat)(a:Addr):Prop:=H a=some (.tup [.int (x.1:Int),.int (x.2:Int)])
theorem sqt_same{H H':Hp}{a:Addr}{xs:List V}(e:Same H H')(h:SqT K H a xs):SqT K H' a xs:=by
 rcases h with (h | ⟨o,h⟩) | h
 ·exact .inl (.inl (e _ _ h))
 ·exact .inl (.inr ⟨o,e _ _ h⟩)
 ·exact .inr h
theorem place_some{names:List (List Nat)}{x:List Nat}(h:names.contains x=true):∃j,Rd.placeOf names x=j/\(names.map zn)[j]? = some (zn x)/\∀m,m<j->(names.map zn)[m]?≠some (zn x):=by
 have hm:x∈names:=by simpa using h
 cases e:names.findIdx? (fun y=>y==x) with
 |none=>
  rw[List.findIdx?_eq_none_iff] at e
  have:=e x hm
  simp at this
 |some j=>
  refine⟨j,by unfold Rd.placeOf;rw[e];rfl,?_,?_⟩
  ·rw[List.findIdx?_eq_some_iff_getElem] at e
   obtain⟨h1,h2,_⟩:=e
   have h2:names[j]=x:=by simpa using h2
   rw[List.getElem?_map,List.getElem?_eq_getElem h1,h2];rfl
  ·intro m hm e2
   rw[List.findIdx?_eq_some_iff_getElem] at e
   obtain⟨h1,_,h3⟩:=e
   have:=h3 m hm
   rw[List.getElem?_map,List.getElem?_eq_getElem (by omega)] at e2
   have e2:some (zn names[m])=some (zn x):=e2
   exact this (by simpa using zn_inj (Option.some.inj e2))
theorem mem_zn{names:List (List Nat)}{x:List Nat}:decide (zn x∈names.map zn)=names.contains x:=by
 rw[Bool.eq_iff_iff,decide_eq_true_eq]
 simp only[List.mem_map,List.contains_iff_mem]
 exact⟨fun ⟨y,h1,h2⟩=>zn_inj h2 ▸ h1,fun h=>⟨x,h,rfl⟩⟩
theorem Tups.tk{H H':Hp}{as:List Addr}{kl:List (List Int)}(T:Tups K H as kl)(s:Same H H'):Tups K H' as kl:=⟨T.len,fun i a k e1 e2=>sqt_same s (T.at_ i a k e1 e2)⟩
def sp_places(K:PySem.W.Frag)(t:Adr):Sp:=fun vs H Q E=>∃(wl nl:Addr) (as bn nas:List Addr) (ws:List (List Nat×Nat)) (names:List (List Nat)),vs=[.ref wl,.ref nl]/\SqL K H wl (as.map V.ref)/\Ways H as bn ws /\
 SqL K H nl (nas.map V.ref)/\Tups K H nas (names.map zn)/\ws.length<=32768 /\
 if (ws.all fun w=>names.contains w.1)=true then (∀(p:Addr) (ps:List Addr) H',Same H H'->H p=none->H' p=some (.lst (ps.map V.ref))->Ea (WayP H') ps (ws.map fun w=>(Rd.placeOf names w.1,w.2))->Q (.ref p) H') else ∀H',E (.ref t.xN) none H'
theorem ok_places(T:Txt K mg t)(kb:K.In base):Ok P w K mg base 2 t.fwt10 t.fwt ["ways","names"] (sp_places K t):=by
 refine T.ways_to_places.fn.okX swt (fun vs H Q E h=>?_) fun cdv A outer s H vs Q E hr h=>?_
 ·obtain⟨wl,nl,as,bn,nas,ws,names,rfl,_⟩:=h;rfl
 ·obtain⟨wl,nl,as,bn,nas,ws,names,rfl,hwl,W,hnl,N,hn,h⟩:=h
  refine⟨_,pc11 (pe10 (pf10 T.demand (od10 T kb) hr rfl (passes1 xo) (pc (pc12 (cr_all rfl) (by rfl) T.b_all bt_all (pc
    (pl14 (own:=[("way",2)]) rfl swt.nd (pl11 (pv 0)) (bb10 rfl) (fun _ _ _ _ _=>pn11 (i:=2) swt.nd rfl (Or.inl rfl)) (fun _ _ _ _ _=>pn12)
     (fun _ _ _ _ _=>pc14 (op_inTK K hr.units) (pi10 (ixT K) (pv 2) pi (fun _ _=>rfl)) (pv 1) (by with_unfolding_all rfl))) pn10)) pn10)))<|
   po10 (pr10 (pl14 (own:=[("way",2)]) rfl swt.nd (pl11 (pv 0)) (bb10 rfl) (fun _ _ _ _ _=>pn11 (i:=2) swt.nd rfl (Or.inl rfl)) (fun _ _ _ _ _=>pn12)
     (fun _ _ _ _ _=>pe_tup (pc (pe_bmK K PySem.F.plainAttrs_list PySem.F.slot_list_index PySem.F.type_list_index (mt_indexTK K hr.units) (pv 1) (pc (pi10 (ixT K) (pv 2) pi (fun _ _=>rfl)) pn10))<|pc (pi10 (ixT K) (pv 2) pi (fun _ _=>rfl)) pn10)))),?_⟩
  obtain hsz:ws.length<sizeLine:=by rw[sizeLine_eq];omega
  refine⟨_,rfl,wl,rfl,⟨_,hwl⟩,fun D hD=>ll10 (K:=K) (a:=wl) (xs:=as.map V.ref) (fun i H8=>H8=upd H D (.lst (((ws.map fun w=>names.contains w.1).map V.bl).take i))) rfl (fun i H8 _ e8=>by rw[e8];exact Same.seq (su hD) hwl) ?_ ?_⟩
  ·rintro i v H8 hi rfl
   obtain⟨ha,ea,rfl⟩:=ra10 hi
   have hil:i<ws.length:=by rw[<-W.len];exact (List.getElem?_eq_some_iff.mp ea).1
   obtain⟨a',b',q1,q2,q3,q4⟩:=W.at_ i ws[i] (List.getElem?_eq_getElem hil)
   rw[ea] at q1
   cases q1
   have sm:=su (o:=.lst (((ws.map fun w=>names.contains w.1).map V.bl).take i)) hD
   refine⟨rfl,?_⟩
   refine⟨_,rfl,ha,_,_,_,rfl,rfl,SqT.of (sm _ _ q3),at0,_,rfl,b',nl,zn (ws[i]).1,nas,names.map zn,rfl,SqT.of (by rw[<-bz10];exact sm _ _ q4),rfl,Same.seq sm hnl,Tups.tk N sm,_,us10,?_,?_⟩
   ·rw[List.length_take];simp;omega
   ·rw[uu,mem_zn,ts10 (l:=(ws.map fun w=>names.contains w.1).map V.bl) (x:=V.bl (names.contains (ws[i]).1)) (by rw[List.getElem?_map,List.getElem?_map,List.getElem?_eq_getElem hil];rfl)]
  ·rintro H8 rfl
   rw[List.length_map,show ((ws.map fun w=>names.contains w.1).map V.bl).take as.length=(ws.map fun w=>names.contains w.1).map V.bl from List.take_of_length_le (by rw[List.length_map,List.length_map,W.len];exact Nat.le_refl _)]
   have sm8:=su (o:=.lst ((ws.map fun w=>names.contains w.1).map V.bl)) hD
   refine⟨D,_,rfl,SqL.of us10,_,rfl,?_⟩
   have e8:((ws.map fun w=>names.contains w.1).all id)=(ws.all fun w=>names.contains w.1):=by rw[List.all_map];rfl
   cases hall:(ws.all fun w=>names.contains w.1) with
   |false=>rw[hall] at h;exact brF (e8.trans hall) (h _)
   |true=>
   rw[hall,if_pos rfl] at h
   refine brT (e8.trans hall) ?_
   have hwl8:=Same.seq sm8 hwl
   have W8:=W.tk (Same.tk sm8)
   have hnl8:=Same.seq sm8 hnl
   have N8:=Tups.tk N sm8
   generalize upd H D (.lst ((ws.map fun w=>names.contains w.1).map V.bl))=H8 at sm8 hwl8 W8 hnl8 N8
   refine⟨_,rfl,wl,rfl,⟨_,hwl8⟩,fun D2 hD2=>ll10 (K:=K) (a:=wl) (xs:=as.map V.ref) (fun i H9=>∃ps:List Addr,ps.length=i/\Same H8 H9/\H9 D2=some (.lst (ps.map V.ref))/\Ea (WayP H9) ps ((ws.map fun w=>(Rd.placeOf names w.1,w.2)).take i))
    ⟨[],rfl,su hD2,us10,Ea.nil⟩ (fun i H9 _ ⟨_,_,e,_,_⟩=>Same.seq e hwl8) ?_ ?_⟩
   ·rintro i v H9 hi ⟨ps,hps,s9,h9,E9⟩
    obtain⟨ha,ea,rfl⟩:=ra10 hi
    have hil:i<ws.length:=by rw[<-W.len];exact (List.getElem?_eq_some_iff.mp ea).1
    obtain⟨a',b',q1,q2,q3,q4⟩:=W8.at_ i ws[i] (List.getElem?_eq_getElem hil)
    rw[ea] at q1
    cases q1
    obtain⟨j,hj,hj1,hj2⟩:=place_some (names:=names) (x:=(ws[i]).1) (by
     have:=List.all_eq_true.mp hall ws[i] (List.getElem_mem hil)
     exact this)
    have hix:=SqT.of (K:=K) (s9 _ _ q3)
    refine⟨rfl,?_⟩
    refine⟨_,rfl,.inl ⟨rfl,_,Same.seq s9 hnl8⟩,_,rfl,ha,_,_,_,rfl,rfl,hix,at0,b',nl,zn (ws[i]).1,nas,names.map zn,j,rfl,rfl,SqT.of (by rw[<-bz10];exact s9 _ _ q4),Same.seq s9 hnl8,Tups.tk N8 s9,hj1,hj2,_,rfl,ha,_,_,_,rfl,rfl,hix,at1,(by show 2<=sizeLine;decide),fun p hp=>?_⟩
    have sp:=su (o:=.tup [.int (j:Int),.int ((ws[i]).2:Int)]) hp
    refine⟨ps.map V.ref,sp _ _ h9,?_,ps++[p],by simp[hps],?_,?_,?_⟩
    ·rw[List.length_map,hps];omega
    ·intro b o eb
     rw[un10 (non10 eb hD2)]
     exact sp _ _ (s9 _ _ eb)
    ·rw[us10,List.map_append];rfl
    ·have tk2:TK (upd H9 p (.tup [.int (j:Int),.int ((ws[i]).2:Int)])) (upd (upd H9 p (.tup [.int (j:Int),.int ((ws[i]).2:Int)])) D2 (.lst (ps.map V.ref++[.ref p]))):=TK.upd (sp _ _ h9) (by intro xs z;cases z)
     rw[ts10 (l:=ws.map fun w=>(Rd.placeOf names w.1,w.2)) (x:=(j,(ws[i]).2)) (by rw[List.getElem?_map,List.getElem?_eq_getElem hil,<-hj];rfl)]
     exact Ea.snoc (E9.mono fun x a h=>tk2 _ _ (sp _ _ h)) (tk2 _ _ us10)
   ·rintro H9 ⟨ps,hps,s9,h9,E9⟩
    rw[List.length_map] at hps E9
    rw[List.take_of_length_le (by rw[List.length_map,W.len];exact Nat.le_refl _)] at E9
    exact h D2 ps H9 (sm8.trans s9) (Same.lss sm8 _ hD2) h9 E9
end
end Ck
end
noncomputable section
namespace Ck
open PySem PySem.Spec PyProof.Rows L2
section
variable{P:Program}{w:World}{K:PySem.W.Frag}{mg:Str->Option Value}{base:Heap}{t:Adr}
theorem mem_at{α:Type}{a:α}{l:List α}(h:a∈l):∃i:Nat,l[i]? = some a:=List.getElem?_of_mem h
theorem StR.kp{H0 H H':Hp}{s:Ra61.RawState}{a cl p:Addr}{cas:List Addr}{o u:HO}(h:StR t H0 H s a cl cas)(hp:H0 p=some o)(hq:H p=some u)(hu:∀xs,u≠.tup xs)(k:Kp p H H'):StR t H0 H' s a cl cas:=by
 obtain⟨dx,nm,h1,h2,h3,h4,h5,h6,h7⟩:=h
 exact⟨dx,nm,k _ _ (fun z=>by rw[z,hp] at h6;cases h6) h1,k _ _ (fun z=>by rw[z,hq] at h2;cases h2;exact hu _ rfl) h2,k _ _ (fun z=>by rw[z,hp] at h7;cases h7) h3,h4.mono fun x a h=>h.kp hp hq hu k,h5,h6,h7⟩
theorem StR.same{H0 H H':Hp}{s:Ra61.RawState}{a cl:Addr}{cas:List Addr}(h:StR t H0 H s a cl cas)(k:Same H H'):StR t H0 H' s a cl cas:=by
 obtain⟨dx,nm,h1,h2,h3,h4,h5,h6,h7⟩:=h
 exact⟨dx,nm,k _ _ h1,k _ _ h2,k _ _ h3,h4.mono fun x a h=>h.same k,h5,h6,h7⟩
theorem StR.lss{H0 H0' H:Hp}{s:Ra61.RawState}{a cl:Addr}{cas:List Addr}(h:StR t H0 H s a cl cas)(k:Lss H0' H0):StR t H0' H s a cl cas:=by
 obtain⟨dx,nm,h1,h2,h3,h4,h5,h6,h7⟩:=h
 exact⟨dx,nm,h1,h2,h3,h4.mono fun x a h=>h.lss k,h5,k _ h6,k _ h7⟩
theorem StR.here{H0 H:Hp}{s:Ra61.RawState}{a cl:Addr}{cas:List Addr}(h:StR t H0 H s a cl cas){c:Addr}(hc:c∈cas):∃o,H c=some o:=by
 obtain⟨dx,nm,h1,h2,h3,h4,h5,h6,h7⟩:=h
 obtain⟨i,hi⟩:=mem_at hc
 obtain⟨x,_,a',dx,nm,wy,as,bn,e,q,_⟩:=h4.get hi
 cases e
 exact⟨_,q⟩
theorem StR.new{H0 H:Hp}{s:Ra61.RawState}{a cl:Addr}{cas:List Addr}(h:StR t H0 H s a cl cas){c:Addr}(hc:c∈cas):H0 c=none:=by
 obtain⟨dx,nm,h1,h2,h3,h4,h5,h6,h7⟩:=h
 obtain⟨i,hi⟩:=mem_at hc
 obtain⟨x,_,a',dx,nm,wy,as,bn,e,_,_,_,_,q,_⟩:=h4.get hi
 cases e
 exact q
abbrev SX:=Ra61.RawState×Addr×List Addr
abbrev Sts(t:Adr)(H0 H:Hp)(sas:List Addr)(sx:List SX):Prop:=Ea (fun x a=>StR t H0 H x.1 a x.2.1 x.2.2) sas sx
def ChP(t:Adr)(H:Hp)(c:Ra61.Choice)(a:Addr):Prop:=∃dx nm wy ps,H a=some (.ins t.cC dx (chF (.ref nm) (.int c.gain) (.ref wy) (.int (c.ways.map fun w=>(w.2:Int)).sum)))/\H nm=some (.tup (byts c.name))/\H wy=some (.lst (ps.map V.ref))/\Ea (WayP H) ps c.ways
def StP(t:Adr)(H:Hp)(s:Ra61.State)(a:Addr):Prop:=∃dx nm cl cas,H a=some (.ins t.cS dx (stF (.ref nm) (.ref cl)))/\H nm=some (.tup (byts s.name))/\H cl=some (.lst (cas.map V.ref))/\Ea (ChP t H) cas s.choices
def NetI(t:Adr)(net:Ra61.Net)(v:V)(H:Hp):Prop:=∃sl sas,v=.ref sl/\H sl=some (.lst (sas.map V.ref))/\Ea (StP t H) sas net
theorem ChP.same{H H':Hp}{c:Ra61.Choice}{a:Addr}(h:ChP t H c a)(k:Same H H'):ChP t H' c a:=by
 obtain⟨dx,nm,wy,ps,h1,h2,h3,h4⟩:=h
 exact⟨dx,nm,wy,ps,k _ _ h1,k _ _ h2,k _ _ h3,h4.mono fun x a h=>k _ _ h⟩
theorem StP.same{H H':Hp}{c:Ra61.State}{a:Addr}(h:StP t H c a)(k:Same H H'):StP t H' c a:=by
 obtain⟨dx,nm,wy,ps,h1,h2,h3,h4⟩:=h
 exact⟨dx,nm,wy,ps,k _ _ h1,k _ _ h2,k _ _ h3,h4.mono fun x a h=>h.same k⟩
theorem ChP.ki{H H':Hp}{c:Ra61.Choice}{a p C dp:Addr}{fs:List (Str×V)}(h:ChP t H c a)(hp:H p=some (.ins C dp fs))(hn:a≠p)(k:Kp p H H'):ChP t H' c a:=by
 obtain⟨dx,nm,wy,ps,h1,h2,h3,h4⟩:=h
 exact⟨dx,nm,wy,ps,k _ _ hn h1,Kp.tk k hp _ _ h2,k _ _ (no11 h3 hp (by intro z;cases z)) h3,h4.mono fun x a h=>Kp.tk k hp _ _ h⟩
theorem ChR.ki{H0 H H':Hp}{c:Ra61.RawChoice}{a p C dp:Addr}{fs:List (Str×V)}(h:ChR t H0 H c a)(hp:H p=some (.ins C dp fs))(hn:a≠p)(k:Kp p H H'):ChR t H0 H' c a:=by
 obtain⟨a',dx,nm,wy,as,bn,e,h1,h2,h3,h4,h5,h6⟩:=h
 cases e
 exact⟨a,dx,nm,wy,as,bn,rfl,k _ _ hn h1,Kp.tk k hp _ _ h2,k _ _ (no11 h3 hp (by intro z;cases z)) h3,h4.tk (Kp.tk k hp),h5,h6⟩
def plc(names:List (List Nat))(c:Ra61.RawChoice):Ra61.Choice:=⟨c.name,c.gain,c.ways.map fun w=>(Rd.placeOf names w.1,w.2)⟩
def StM(t:Adr)(H0 H:Hp)(names:List (List Nat))(dn:List Addr)(x:SX)(a:Addr):Prop:=∃dx nm,H a=some (.ins t.cS dx (stF (.ref nm) (.ref x.2.1)))/\H nm=some (.tup (byts x.1.name))/\H x.2.1=some (.lst (x.2.2.map V.ref)) /\
 Ea (fun c a=>(a∈dn->ChP t H (plc names c) a/\(c.ways.all fun w=>names.contains w.1)=true)/\(¬a∈dn->ChR t H0 H c a)) x.2.2 x.1.choices
theorem StM.same{H0 H H':Hp}{names:List (List Nat)}{dn:List Addr}{x:SX}{a:Addr}(h:StM t H0 H names dn x a)(k:Same H H'):StM t H0 H' names dn x a:=by
 obtain⟨dx,nm,h1,h2,h3,h4⟩:=h
 exact⟨dx,nm,k _ _ h1,k _ _ h2,k _ _ h3,h4.mono fun x a h=>⟨fun q=>⟨(h.1 q).1.same k,(h.1 q).2⟩,fun q=>(h.2 q).same k⟩⟩
theorem ch_st{a b c d e f:V}:chF a b c d≠stF e f:=fun z=>by
 have h1:=cg a b c d
 rw[z] at h1
 unfold stF at h1
 rw[lp10,if_neg (by decide),lp10,if_neg (by decide)] at h1
 cases h1
theorem StM.step{H0 H H':Hp}{names:List (List Nat)}{dn:List Addr}{x:SX}{a p dp:Addr}{n g wv tv:V}{c:Ra61.RawChoice}(h:StM t H0 H names dn x a)(hp:H p=some (.ins t.cC dp (chF n g wv tv)))(k:Kp p H H')
  (new:∀i:Nat,x.2.2[i]? = some p->∀c,x.1.choices[i]? = some c->ChP t H' (plc names c) p/\(c.ways.all fun w=>names.contains w.1)=true):StM t H0 H' names (dn++[p]) x a:=by
 obtain⟨dx,nm,h1,h2,h3,h4⟩:=h
 refine⟨dx,nm,k _ _ (fun z=>?_) h1,Kp.tk k hp _ _ h2,k _ _ (no11 h3 hp (by intro z;cases z)) h3,h4.len,fun i c e=>?_⟩
 ·rw[z,hp] at h1
  have h1:=Option.some.inj h1
  injection h1 with _ _ e
  exact ch_st e
 ·obtain⟨a',e1,e2⟩:=h4.at_ i c e
  refine⟨a',e1,fun hm=>?_,fun hm=>?_⟩
  ·by_cases hap:a'=p
   ·subst hap;exact new i e1 c e
   ·rcases List.mem_append.mp hm with hm | hm
    ·exact⟨(e2.1 hm).1.ki hp hap k,(e2.1 hm).2⟩
    ·exact absurd (by simpa using hm) hap
  ·have hap:a'≠p:=fun z=>hm (by rw[z];simp)
   exact (e2.2 fun z=>hm (List.mem_append.mpr (.inl z))).ki hp hap k
theorem StM.of{H0 H:Hp}{names:List (List Nat)}{x:SX}{a:Addr}(h:StR t H0 H x.1 a x.2.1 x.2.2):StM t H0 H names [] x a:=by
 obtain⟨dx,nm,h1,h2,h3,h4,_⟩:=h
 exact⟨dx,nm,h1,h2,h3,h4.mono fun x a h=>⟨fun z=>by simp at z,fun _=>h⟩⟩
def plS(names:List (List Nat))(s:Ra61.RawState):Ra61.State:=⟨s.name,s.choices.map (plc names)⟩
theorem placed_eq(raw:List Ra61.RawState):Rd.placed raw=raw.map (plS (raw.map fun s=>s.name)):=rfl
theorem StM.all{H0 H:Hp}{names:List (List Nat)}{dn:List Addr}{x:SX}{a:Addr}(h:StM t H0 H names dn x a)(hd:∀c∈x.2.2,c∈dn):StP t H (plS names x.1) a/\(x.1.choices.all fun c=>c.ways.all fun w=>names.contains w.1)=true:=by
 obtain⟨dx,nm,h1,h2,h3,h4⟩:=h
 constructor
 ·refine⟨dx,nm,_,_,h1,h2,h3,?_,fun i c e=>?_⟩
  ·rw[h4.len];simp[plS]
  ·simp only[plS,List.getElem?_map] at e
   cases ec:x.1.choices[i]? with
   |none=>rw[ec] at e;cases e
   |some c'=>
    rw[ec] at e
    cases e
    obtain⟨a',e1,e2⟩:=h4.at_ i c' ec
    exact⟨a',e1,(e2.1 (hd _ (List.mem_of_getElem? e1))).1⟩
 ·rw[List.all_eq_true]
  intro c hc
  obtain⟨i,hi⟩:=mem_at hc
  obtain⟨a',e1,e2⟩:=h4.at_ i c hi
  exact (e2.1 (hd _ (List.mem_of_getElem? e1))).2
theorem st_names{H0 H:Hp}{sas:List Addr}{sx:List SX}(W:Sts t H0 H sas sx):∃nms:List Addr,nms.length=sx.length/\∀(i:Nat) (x:SX),sx[i]? = some x->∃a dx n,sas[i]? = some a/\nms[i]? = some n/\H a=some (.ins t.cS dx (stF (.ref n) (.ref x.2.1)))/\H n=some (.tup (byts x.1.name)):=by
 have key:∀i:Fin sx.length,∃n,∃a dx,sas[i.1]? = some a/\H a=some (.ins t.cS dx (stF (.ref n) (.ref (sx[i.1]).2.1)))/\H n=some (.tup (byts (sx[i.1]).1.name)):=fun i=>by
  obtain⟨a,e,dx,nm,h1,h2,_⟩:=W.at_ i.1 _ (List.getElem?_eq_getElem i.2)
  exact⟨nm,a,dx,e,h1,h2⟩
 refine⟨List.ofFn fun i:Fin sx.length=>Classical.choose (key i),by simp,fun i c e=>?_⟩
 obtain⟨hi,rfl⟩:=List.getElem?_eq_some_iff.mp e
 obtain⟨a,dx,q1,q2,q3⟩:=Classical.choose_spec (key ⟨i,hi⟩)
 exact⟨a,dx,_,q1,by rw[List.getElem?_ofFn];simp[hi],q2,q3⟩
theorem readState_suf{bs b:List Nat}{x}(s:b <:+ bs)(h:Rd.readState b=some x):x.2 <:+ bs:=by
 rw[Rd.re10] at h
 obtain⟨a,h1,h⟩:=Rd.bind_some h
 obtain⟨_,h⟩:=Rd.is10 h
 obtain⟨y,h4,h⟩:=Rd.bind_some h
 obtain⟨_,h⟩:=Rd.is10 h
 obtain⟨r,h5,h⟩:=Rd.bind_some h
 obtain⟨_,h⟩:=Rd.is10 h
 obtain⟨_,h⟩:=Rd.is10 h
 cases h
 have s2:=ps11 (m:=123) (ts11 (ts11 s h1) h4)
 clear h1 h4
 generalize (Rd.passes 123 y.2).2=q at h5 s2
 have:∀(n:Nat) (q:List Nat),q.length<n->q <:+ bs->∀r,Rd.MC q=some r->r.2 <:+ bs:=by
  intro n
  induction n with
  |zero=>intro q h;omega
  |succ n ih=>
   intro q hq sq r e
   rw[Rd.Ms] at e
   have hp:=Rd.pl10 125 q
   split at e
   ·cases e;exact ps11 sq
   ·obtain⟨w,e1,e⟩:=Rd.bind_some e
    obtain⟨z,e2,rfl⟩:=Rd.map_some e
    have:=Rd.rl11 e1
    exact ih w.2 (by omega) (rs11 (ps11 sq) e1) z e2
 exact this _ q (Nat.lt_succ_self _) s2 r h5
end
end Ck
end
noncomputable section
namespace Ck
open PySem PySem.Spec PyProof.Rows L2
section
variable{P:Program}{w:World}{K:PySem.W.Frag}{mg:Str->Option Value}{base:Heap}{t:Adr}
def sp_states(K:PySem.W.Frag)(t:Adr):Sp:=fun vs H Q E=>∃l bs,vs=[.ref l]/\SqL K H l (byts bs)/\bs.length<=65536/\(∀c∈bs,c<256) /\
 OptP (Rd.readStates bs) (∀H',E (.ref t.xN) none H') fun net=>∀v H',Same H H'->NetI t net v H'->Q v H'
theorem sts_flat{H0 H:Hp}{sas:List Addr}{sx:List SX}(W:Sts t H0 H sas sx){c:Addr}(hc:c∈sx.flatMap fun x=>x.2.2):∃o,H c=some o:=by
 obtain⟨x,hx,hc⟩:=List.mem_flatMap.mp hc
 obtain⟨i,hi⟩:=mem_at hx
 obtain⟨a,_,h⟩:=W.at_ i x hi
 exact h.here hc
theorem rf10{b:List Nat}{x}(h:Rd.readChoice b=some x):2*x.1.ways.length<=b.length:=by
 rw[Rd.re] at h
 obtain⟨a,h1,h⟩:=Rd.bind_some h
 obtain⟨g,h2,h⟩:=Rd.bind_some h
 obtain⟨_,h⟩:=Rd.is10 h
 obtain⟨y,h4,h⟩:=Rd.bind_some h
 obtain⟨r,h5,h⟩:=Rd.bind_some h
 obtain⟨_,h⟩:=Rd.is10 h
 obtain⟨_,h⟩:=Rd.is10 h
 cases h
 have:=Rd.tl10 h1;have:=Rd.rl13 h2;have:=Rd.pl10 58 g.2;have:=Rd.rl10 h4;have:=Rd.MW_len _ _ (Nat.lt_succ_self _) _ h5
 simp only[List.length_cons];omega
theorem MC_few:∀(n:Nat) (b:List Nat),b.length<n->∀r,Rd.MC b=some r->∀c∈r.1,2*c.ways.length<=b.length
 |0,b,h,_,_=>by omega
 |n+1,b,h,r,e=>by
  rw[Rd.Ms] at e
  have hp:=Rd.pl10 125 b
  split at e
  ·cases e;simp
  ·obtain⟨w,e1,e⟩:=Rd.bind_some e
   obtain⟨z,e2,rfl⟩:=Rd.map_some e
   have l:=Rd.rl11 e1
   intro c hc
   rcases List.mem_cons.mp hc with rfl | hc
   ·have:=rf10 e1;omega
   ·have:=MC_few n w.2 (by omega) z e2 c hc;omega
theorem MS_few:∀(n:Nat) (b:List Nat),b.length<n->∀r,Rd.MS b=some r->∀s∈r,∀c∈s.choices,2*c.ways.length<=b.length
 |0,b,h,_,_=>by omega
 |n+1,b,h,r,e=>by
  rw[Rd.MS_step] at e
  have hp:=Rd.sl10 false b
  split at e
  ·cases e;simp
  ·obtain⟨w,e1,e⟩:=Rd.bind_some e
   obtain⟨z,e2,rfl⟩:=Rd.map_some e
   have l:=Rd.rl12 e1
   intro s hs
   rcases List.mem_cons.mp hs with rfl | hs
   ·rw[Rd.re10] at e1
    obtain⟨a,h1,e1⟩:=Rd.bind_some e1
    obtain⟨_,e1⟩:=Rd.is10 e1
    obtain⟨y,h4,e1⟩:=Rd.bind_some e1
    obtain⟨_,e1⟩:=Rd.is10 e1
    obtain⟨r,h5,e1⟩:=Rd.bind_some e1
    obtain⟨_,e1⟩:=Rd.is10 e1
    obtain⟨_,e1⟩:=Rd.is10 e1
    cases e1
    intro c hc
    have:=Rd.tl10 h1;have:=Rd.tl10 h4;have:=Rd.pl10 123 y.2
    have:=MC_few _ _ (Nat.lt_succ_self _) _ h5 c hc
    omega
   ·intro c hc
    have:=MS_few n w.2 (by omega) z e2 s hs c hc;omega
theorem sqt_ki{H H':Hp}{p C dp a:Addr}{fs:List (Str×V)}{xs:List V}(h:SqT K H a xs)(hp:H p=some (.ins C dp fs))(k:Kp p H H'):SqT K H' a xs:=by
 rcases h with (h | ⟨o,h⟩) | h
 ·exact .inl (.inl (k _ _ (no11 h hp (by intro z;cases z)) h))
 ·exact .inl (.inr ⟨o,k _ _ (no11 h hp (by intro z;cases z)) h⟩)
 ·exact .inr h
theorem Tups.ki{H H':Hp}{p C dp:Addr}{fs:List (Str×V)}{as:List Addr}{kl:List (List Int)}(T:Tups K H as kl)(hp:H p=some (.ins C dp fs))(k:Kp p H H'):Tups K H' as kl:=⟨T.len,fun i a k' e1 e2=>sqt_ki (T.at_ i a k' e1 e2) hp k⟩
theorem flat_snoc{sx:List SX}{i:Nat}{x:SX}(h:sx[i]? = some x):(sx.take (i+1)).flatMap (fun x=>x.2.2)=(sx.take i).flatMap (fun x=>x.2.2)++x.2.2:=by
 rw[ts10 h,List.flatMap_append];simp
theorem flat_not{sx:List SX}{i j:Nat}{x:SX}{c:Addr}(nd:(sx.flatMap fun x=>x.2.2).Nodup)(h:sx[i]? = some x)(hc:x.2.2[j]? = some c):¬c∈(sx.take i).flatMap (fun x=>x.2.2)++x.2.2.take j:=by
 obtain⟨hi,rfl⟩:=List.getElem?_eq_some_iff.mp h
 obtain⟨hj,rfl⟩:=List.getElem?_eq_some_iff.mp hc
 have e:sx.flatMap (fun x=>x.2.2)=((sx.take i).flatMap (fun x=>x.2.2)++(sx[i]).2.2.take j)++((sx[i]).2.2.drop j++(sx.drop (i+1)).flatMap (fun x=>x.2.2)):=by
  conv=>lhs;rw[<-List.take_append_drop i sx,List.flatMap_append,List.drop_eq_getElem_cons hi,List.flatMap_cons]
  conv=>lhs;rw[show (sx[i]).2.2=(sx[i]).2.2.take j++(sx[i]).2.2.drop j from (List.take_append_drop _ _).symm]
  simp only[List.append_assoc]
 rw[e,List.nodup_append] at nd
 intro hm
 refine nd.2.2 _ hm _ ?_ rfl
 refine List.mem_append.mpr (.inl ?_)
 rw[List.drop_eq_getElem_cons hj]
 exact List.mem_cons_self
theorem flat_one{sx:List SX}{i j i' j':Nat}{x x':SX}{c:Addr}(nd:(sx.flatMap fun x=>x.2.2).Nodup)(h:sx[i]? = some x)(hc:x.2.2[j]? = some c)(h':sx[i']? = some x')(hc':x'.2.2[j']? = some c):i'=i/\j'=j:=by
 have main:∀{i j i' j':Nat} {x x':SX},sx[i]? = some x->x.2.2[j]? = some c->sx[i']? = some x'->x'.2.2[j']? = some c->¬(i'<i\/(i'=i/\j'<j)):=by
  intro i j i' j' x x' h hc h' hc' z
  refine flat_not nd h hc (List.mem_append.mpr ?_)
  rcases z with z | ⟨rfl,z⟩
  ·refine .inl (List.mem_flatMap.mpr ⟨x',?_,List.mem_of_getElem? hc'⟩)
   exact List.mem_of_getElem? (i:=i') (by rw[List.getElem?_take,if_pos z];exact h')
  ·rw[h] at h'
   cases h'
   exact .inr (List.mem_of_getElem? (i:=j') (by rw[List.getElem?_take,if_pos z];exact hc'))
 have:=main h hc h' hc'
 have:=main h' hc' h hc
 omega
theorem ors(T:Txt K mg t)(kb:K.In base):Ok P w K mg base 8 t.frs12 t.frs10 ["text"] (sp_states K t):=by
 refine T.read_states.fn.okX srs (fun vs H Q E h=>?_) fun cdv A outer s H vs Q E hr h=>?_
 ·obtain⟨l,bs,rfl,_⟩:=h;rfl
 ·obtain⟨l,bs,rfl,hl,hlen,hb,h⟩:=h
  have hr4:=hr.mono (show 4<=7 by decide)
  have hr2:=hr.mono (show 2<=7 by decide)
  have hr1:=hr.mono (show 1<=7 by decide)
  refine⟨_,pc11 (ps10 (i:=1) srs.nd rfl (Or.inl rfl) (pc_mk T.kR T.Reader_init (ori T) hr2 rfl pass1 (pc (pv 0) pn10)))<|
   pc11 (ps10 (i:=2) srs.nd rfl (Or.inl rfl) (pl12 pn10))<|
   pc11 (pw10 po12 (pt_not (pv10 (pm10 T.kR T.Reader_at_end (ok_at_end T) hr4 pass1 (pv 1))))
    (po10 (pe10 (pb PySem.F.plainAttrs_list PySem.F.slot_list_append PySem.F.type_list_append ma (pv 2) (pc (pf10 T.read_state (ok_read_state T kb) hr rfl (passes1 xo) (pc (pv 1) pn10)) pn10)))))<|
   pc11 (pe10 (pf10 T.demand (od10 T kb) hr1 rfl (passes1 xo) (pc (pc15 ol10 ol10 pi (pc12 cls10 (by rfl) T.b_len bl11 (pc (pv 2) pn10)) (pg10 T.gMS rfl)) pn10)))<|
   pc11 (ps_setLc (i:=3) (own:=[("state",4)]) rfl srs.nd rfl rfl (sw_true srs.kind rfl rfl rfl) (pl11 (pv 2)) (bb10 rfl) (fun _ _ _ _ _=>pn11 (i:=4) srs.nd rfl (Or.inl rfl)) (fun _ _ _ _ _=>pn12) (fun _ _ _ _ _=>pf K (pv 4) rfl))<|
   pc11 (pe10 (pf10 T.demand (od10 T kb) hr1 rfl (passes1 xo) (pc (pf10 T.all_differ (oad T) hr1 rfl pass1 (pc (pv 3) pn10)) pn10)))<|
   pc11 (pf14 po12 rfl (pl11 (pv 2)) (pn11 (i:=4) srs.nd rfl (Or.inl rfl))
    (po10 (pf14 po12 rfl (pl11 (pf11 (pv 4) rfl)) (pn11 (i:=5) srs.nd rfl (Or.inl rfl))
     (po10 (pf12 (pv 5) (pf10 T.ways_to_places (ok_places T kb) hr2 rfl (passes1 xo) (pc (pf11 (pv 5) rfl)<|pc (pv 3) pn10)) rfl)))))<|
   po10 (pr10 (pv 2)),?_⟩
  rw[Rd.re11] at h
  refine⟨_,rfl,?_⟩
  intro r dx hr0 hdx hne
  refine⟨r,dx,l,rfl,us10,rfl,?_⟩
  rw[uu]
  have sm1:=sm12 (u:=.own r) (v:=.ins t.cR dx (rdF l 0)) hr0 hdx
  have R1:RAt K t (upd (upd H dx (.own r)) r (.ins t.cR dx (rdF l 0))) r dx l bs bs:=⟨by rw[us10];unfold pl;rw[Nat.sub_self];rfl,Same.seq sm1 hl,List.suffix_refl _,hlen⟩
  generalize upd (upd H dx (.own r)) r (.ins t.cR dx (rdF l 0))=H1 at sm1 R1
  refine⟨(by show 0<=sizeLine;decide),fun sl hsl=>?_⟩
  have sm2:=su (o:=.lst []) hsl
  have hsl0:H sl=none:=Same.lss sm1 sl hsl
  have R2:=R1.same sm2
  have sm2':=sm1.trans sm2
  have hsl2:upd H1 sl (.lst []) sl=some (.lst []):=us10
  have hr0':H r=none:=hr0
  show tSeq _ _ _ _ (upd H1 sl (.lst []))
  generalize upd H1 sl (.lst [])=H2 at R2 sm2' hsl2
  refine⟨fun m σ H'=>∃(sx:List SX) (sas:List Addr) (q:List Nat),Rd.MS bs=(Rd.MS q).map (fun u=>sx.map (·.1)++u)/\sx.length+q.length<=65536/\m=q.length /\
   σ=[some (.ref l),some (.ref r),some (.ref sl),none,none,none]/\RAt K t H' r dx l bs q/\H' sl=some (.lst (sas.map V.ref))/\Sts t H2 H' sas sx/\(sx.flatMap fun x=>x.2.2).Nodup/\Same H H'/\Lss H2 H',
   ⟨_,[],[],bs,?_,?_,rfl,rfl,R2,hsl2,Ea.nil,by simp,sm2',Lss.refl _⟩,?_⟩
  ·simp
  ·simp;omega
  rintro m σ H' ⟨sx,sas,q,inv,hq2,rfl,rfl,Rq,hsq,W,nd,smq,lq2⟩
  refine⟨_,rfl,r,dx,_,rfl,Rq.ins,no_m,r,dx,l,bs,q,rfl,Rq,hb,_,rfl,?_⟩
  rw[inv,Rd.MS_step] at h
  have sq:=ss10 Rq.suf
  have lq:=Rd.sl10 false q
  have hstep:=Rd.MS_step q
  generalize Rd.skip false q=y2 at h sq lq hstep
  have R6:=Rq.put sq
  have hsr:sl≠r:=no11 hsq Rq.ins (by intro z;cases z)
  have k6:Kp r H' (RPut t H' r dx l bs y2):=Kp.upd
  have W6:Sts t H2 (RPut t H' r dx l bs y2) sas sx:=W.mono fun x a h=>h.kp R2.ins Rq.ins (by intro xs z;cases z) k6
  have hs6:RPut t H' r dx l bs y2 sl=some (.lst (sas.map V.ref)):=k6 _ _ hsr hsq
  have ls6:Lss H' (RPut t H' r dx l bs y2):=Kp.lss k6 R6.ins
  have sm6:Same H (RPut t H' r dx l bs y2):=fun b o eb=>k6 b o (non10 eb hr0') (smq b o eb)
  generalize RPut t H' r dx l bs y2=H6 at R6 k6 W6 hs6 ls6 sm6
  by_cases hy2:y2=[]
  case neg=>
   rw[if_neg hy2] at h hstep
   refine brT (by rw[decide_eq_false hy2];rfl) ?_
   refine⟨fun σ H7=>∃(q7:List Nat) (x7:SX) (a7:Addr),Rd.MS bs=(Rd.MS q7).map (fun u=>(sx++[x7]).map (·.1)++u)/\q7.length<q.length/\(sx++[x7]).length+q7.length<=65536 /\
    σ=[some (.ref l),some (.ref r),some (.ref sl),none,none,none]/\RAt K t H7 r dx l bs q7/\H7 sl=some (.lst ((sas++[a7]).map V.ref))/\Sts t H2 H7 (sas++[a7]) (sx++[x7])/\((sx++[x7]).flatMap fun x=>x.2.2).Nodup/\Same H H7/\Lss H2 H7,?_,?_⟩
   ·rintro σ7 H7 ⟨q7,x7,a7,i1,i2,i3,rfl,i5,i6,i7,i8,i9,i10⟩
    exact⟨_,i2,sx++[x7],sas++[a7],q7,i1,i3,rfl,rfl,i5,i6,i7,i8,i9,i10⟩
   ·refine⟨_,rfl,.inl ⟨rfl,_,SqL.of hs6⟩,?_⟩
    refine⟨_,rfl,use_readF R6 hb (fun e H'=>?_) fun x7 e=>⟨readState_suf sq e,fun v H7 R7 k7 hv=>?_⟩⟩
    ·rw[e] at h;exact h H'
    have l7:=Rd.rl12 e
    obtain⟨a7,cl7,cas7,rfl,hst⟩:=hv
    have hs7:H7 sl=some (.lst (sas.map V.ref)):=k7 sl _ hsr hs6
    have hsasl:sas.length<=65536:=by rw[W.len];omega
    have ls26:Lss H2 H6:=lq2.trans ls6
    refine⟨sl,_,_,rfl,rfl,hs7,?_,?_⟩
    ·rw[List.length_map,sizeLine_eq];omega
    have k8:Kp sl H7 (upd H7 sl (.lst (sas.map V.ref++[.ref a7]))):=Kp.upd
    have ls8:Lss H7 (upd H7 sl (.lst (sas.map V.ref++[.ref a7]))):=Kp.lss k8 us10
    have all7:Sts t H2 H7 (sas++[a7]) (sx++[(x7.1,cl7,cas7)]):=Ea.snoc (W6.mono fun x a h=>h.kp R2.ins R6.ins (by intro xs z;cases z) k7) (hst.lss ls26)
    have hsl_ne:sl≠r:=hsr
    refine⟨x7.2,(x7.1,cl7,cas7),a7,?_,by omega,by simp;omega,rfl,?_,?_,all7.mono fun x a h=>h.kp hsl2 hs7 (by intro xs z;cases z) k8,?_,?_,(ls26.trans (Kp.lss k7 R7.ins)).trans ls8⟩
    ·rw[inv,hstep,e,Option.bind_some,Option.map_map]
     congr 1;funext z;simp
    ·exact⟨by rw[un10 hsr.symm];exact R7.ins,sql_off hl hsl0 R7.txt,R7.suf,R7.len⟩
    ·rw[us10,List.map_append];rfl
    ·rw[List.flatMap_append,List.nodup_append]
     refine⟨nd,by simpa using hst.choose_spec.choose_spec.2.2.2.2.1,fun a ha b hb e2=>?_⟩
     have hb:b∈cas7:=by simpa using hb
     obtain⟨o,eo⟩:=sts_flat W6 ha
     rw[e2,hst.new hb] at eo
     cases eo
    ·intro b o eb
     rw[un10 (non10 eb hsl0)]
     exact k7 b o (non10 eb hr0') (sm6 b o eb)
  case pos=>
   rw[if_pos hy2] at h
   simp only[Option.map_some,List.append_nil,Option.bind_some] at h
   refine brF (by rw[decide_eq_true hy2];rfl) ?_
   have nl:(sx.map (·.1)).length=sas.length:=by rw[List.length_map,W.len]
   refine⟨_,rfl,sl,_,rfl,.inl (SqL.of hs6),_,_,rfl,rfl,?_⟩
   have q1:decide ((1:Int)<=((sas.map V.ref).length:Int))=decide (1<=(sx.map (·.1)).length):=by rw[List.length_map,<-nl];exact ln10 1 _
   have q2:decide (((sas.map V.ref).length:Int)<=16)=decide ((sx.map (·.1)).length<=16):=by rw[List.length_map,<-nl];exact ln10 _ 16
   refine⟨_,rfl,?_⟩
   by_cases w1:1<=(sx.map (·.1)).length
   case neg=>
    rw[if_neg (fun z=>w1 z.1)] at h
    exact brF (q1.trans (decide_eq_false w1)) ⟨_,rfl,iteF (h _)⟩
   refine brT (q1.trans (decide_eq_true w1)) ⟨_,_,rfl,rfl,?_⟩
   by_cases w2:(sx.map (·.1)).length<=16
   case neg=>
    rw[if_neg (fun z=>w2 z.2)] at h
    exact⟨_,rfl,brF (q2.trans (decide_eq_false w2)) (h _)⟩
   rw[if_pos ⟨w1,w2⟩] at h
   refine⟨_,rfl,brT (q2.trans (decide_eq_true w2)) ?_⟩
   have sxl:sx.length<=16:=by rw[List.length_map] at w2;exact w2
   obtain⟨nms,N6⟩:=st_names W6
   refine⟨_,rfl,sl,rfl,⟨_,SqL.of hs6⟩,fun D hD=>ll10 (K:=K) (a:=sl) (xs:=sas.map V.ref) (fun i H8=>H8=upd H6 D (.lst ((nms.map V.ref).take i))) rfl (fun i H8 _ e8=>by rw[e8];exact SqL.of (by rw[un10 (non10 hs6 hD)];exact hs6)) ?_ ?_⟩
   ·rintro i v H8 hi rfl
    obtain⟨ha,ea,rfl⟩:=ra10 hi
    have hil:i<sx.length:=by rw[<-W6.len];exact (List.getElem?_eq_some_iff.mp ea).1
    obtain⟨a',dxc,n,p1,p2,p3,p4⟩:=N6.2 i sx[i] (List.getElem?_eq_getElem hil)
    rw[ea] at p1
    cases p1
    refine⟨rfl,?_⟩
    refine⟨_,rfl,ha,_,dxc,_,_,rfl,(by rw[un10 (non10 p3 hD)];exact p3),T.kS.cl,T.nSn,stF_name _ _,(nms.map V.ref).take i,us10,?_,?_⟩
    ·rw[List.length_take,sizeLine_eq];have:=N6.1;simp;omega
    ·rw[uu,ts10 (l:=nms.map V.ref) (x:=V.ref n) (by rw[List.getElem?_map,p2];rfl)]
   ·rintro H8 rfl
    rw[List.length_map,show (nms.map V.ref).take sas.length=nms.map V.ref from List.take_of_length_le (by rw[List.length_map,N6.1,W6.len];exact Nat.le_refl _)]
    have sm8:=su (o:=.lst (nms.map V.ref)) hD
    have hD8:upd H6 D (.lst (nms.map V.ref)) D=some (.lst (nms.map V.ref)):=us10
    have N8:Tups K (upd H6 D (.lst (nms.map V.ref))) nms (((sx.map (·.1)).map fun s=>s.name).map zn):=⟨by simp[N6.1],fun i a k e1 e2=>by
     rw[List.getElem?_map,List.getElem?_map,List.getElem?_map] at e2
     cases e:sx[i]? with
     |none=>rw[e] at e2;cases e2
     |some x=>
      rw[e] at e2
      have e2:some (zn x.1.name)=some k:=e2
      cases e2
      obtain⟨a',dxc,n,p1,p2,p3,p4⟩:=N6.2 i x e
      rw[e1] at p2
      cases p2
      rw[<-bz10]
      exact SqT.of (sm8 _ _ p4)⟩
    have hs8:=sm8 _ _ hs6
    have W8:Sts t H2 (upd H6 D (.lst (nms.map V.ref))) sas sx:=W6.mono fun x a h=>h.same sm8
    have smt8:=sm6.trans sm8
    show tSeq _ _ _ _ (upd H6 D (.lst (nms.map V.ref)))
    generalize upd H6 D (.lst (nms.map V.ref))=H8 at sm8 hD8 N8 hs8 W8 smt8
    refine⟨_,rfl,D,nms,_,rfl,SqL.of hD8,N8,by simp;omega,fun H9 sm9=>?_⟩
    refine⟨_,rfl,?_⟩
    generalize hnames:((sx.map (·.1)).map fun s=>s.name)=names at h N8
    have end_:decide ((names.map zn).Nodup)=decide (names.Nodup):=by
     rw[Bool.eq_iff_iff,decide_eq_true_eq,decide_eq_true_eq];exact zn_nodup _
    by_cases ndn:names.Nodup
    case neg=>rw[if_neg ndn] at h;exact brF (end_.trans (decide_eq_false ndn)) (h _)
    rw[if_pos ndn] at h
    refine brT (end_.trans (decide_eq_true ndn)) ?_
    have hD9:=sm9 _ _ hD8
    have N9:=Tups.tk N8 sm9
    have hs9:=sm9 _ _ hs8
    have W9:Sts t H2 H9 sas sx:=W8.mono fun x a h=>h.same sm9
    have smt9:=smt8.trans sm9
    have raws:Rd.MS bs=some (sx.map (·.1)):=by rw[inv,hstep,if_pos hy2];simp
    have few:=MS_few _ _ (Nat.lt_succ_self _) _ raws
    refine⟨_,rfl,sl,rfl,⟨_,SqL.of hs9⟩,fl10 (K:=K) (a:=sl) (xs:=sas.map V.ref)
     (fun i σ Hc=>∃v4 v5,σ=[some (.ref l),some (.ref r),some (.ref sl),some (.ref D),v4,v5]/\Hc sl=some (.lst (sas.map V.ref))/\Hc D=some (.lst (nms.map V.ref))/\Tups K Hc nms (names.map zn)/\Same H Hc/\Ea (StM t H2 Hc names ((sx.take i).flatMap fun x=>x.2.2)) sas sx)
     ⟨none,none,rfl,hs9,hD9,N9,smt9,W9.mono fun x a h=>StM.of h⟩ (fun i σ Hc _ ⟨_,_,_,e,_⟩=>SqL.of e) ?_ ?_⟩
    ·rintro i v σ Hc hi ⟨v4,v5,rfl,hsc,hDc,Nc,smc,Wc⟩
     obtain⟨ha,ea,rfl⟩:=ra10 hi
     obtain⟨x,ex,dxs,nm,g1,g2,g3,g4⟩:=Wc.get ea
     refine⟨_,rfl,ha,_,dxs,_,_,rfl,g1,T.kS.cl,T.nSc,sc12 _ _,x.2.1,rfl,⟨_,SqL.of g3⟩,?_⟩
     refine fl10 (K:=K) (a:=x.2.1) (xs:=x.2.2.map V.ref)
      (fun j σ Hd=>∃v5,σ=[some (.ref l),some (.ref r),some (.ref sl),some (.ref D),some (.ref ha),v5]/\Hd sl=some (.lst (sas.map V.ref))/\Hd D=some (.lst (nms.map V.ref))/\Tups K Hd nms (names.map zn)/\Same H Hd/\Ea (StM t H2 Hd names ((sx.take i).flatMap (fun x=>x.2.2)++x.2.2.take j)) sas sx)
      ⟨v5,rfl,hsc,hDc,Nc,smc,by rw[List.take_zero,List.append_nil];exact Wc⟩ (fun j σ Hd _ ⟨_,_,_,_,_,_,e⟩=>by
       obtain⟨x',ex',_,_,_,_,g3',_⟩:=e.get ea
       rw[ex] at ex'
       cases ex'
       exact SqL.of g3') ?_ ?_
     ·rintro j v σ Hd hj ⟨v5',rfl,hsd,hDd,Nd,smd,Wd⟩
      obtain⟨ca,ec,rfl⟩:=ra10 hj
      obtain⟨x',ex',dxs',nm',k1,k2,k3,k4⟩:=Wd.get ea
      rw[ex] at ex'
      cases ex'
      obtain⟨c,ecc,_,raw⟩:=k4.get ec
      obtain⟨a',dxc,nmc,wy,as,bn,e0,c1,c2,c3,c4,c5,c6⟩:=raw (flat_not nd ex ec)
      cases e0
      have hx:x.1∈sx.map (·.1):=List.mem_map.mpr ⟨x,List.mem_of_getElem? ex,rfl⟩
      have hcm:c∈x.1.choices:=List.mem_of_getElem? ecc
      have hfew:=few _ hx _ hcm
      refine⟨_,rfl,ca,_,dxc,_,_,rfl,c1,T.kC.cl,T.nCw,cw _ _ _ _,_,rfl,wy,D,as,bn,nms,c.ways,names,rfl,SqL.of c3,c4,SqL.of hDd,Nd,by omega,?_⟩
      by_cases hall:(c.ways.all fun w=>names.contains w.1)=true
      case neg=>
       rw[if_neg hall]
       have hno:¬((sx.map (·.1)).all fun s=>s.choices.all fun c=>c.ways.all fun w=>names.contains w.1)=true:=fun z=>by
        have z1:=List.all_eq_true.mp z x.1 hx
        have z2:=List.all_eq_true.mp z1 c hcm
        exact hall z2
       rw[if_neg hno] at h
       exact h
      rw[if_pos hall]
      intro p ps He sme hp hpe Ee
      have c1e:=sme _ _ c1
      refine⟨_,rfl,ca,_,dxc,_,rfl,c1e,T.kC.cl,T.nCw,(by show 4<1000;decide),?_⟩
      rw[chF_put]
      have kp:Kp ca He (upd He ca (.ins t.cC dxc (chF (.ref nmc) (.int c.gain) (.ref p) (.int (c.ways.map fun w=>(w.2:Int)).sum)))):=Kp.upd
      have new:ChP t (upd He ca (.ins t.cC dxc (chF (.ref nmc) (.int c.gain) (.ref p) (.int (c.ways.map fun w=>(w.2:Int)).sum)))) (plc names c) ca:=by
       refine⟨dxc,nmc,p,ps,?_,Kp.tk kp c1e _ _ (sme _ _ c2),kp _ _ (no11 hpe c1e (by intro z;cases z)) hpe,Ee.mono fun x a h=>Kp.tk kp c1e _ _ h⟩
       rw[us10]
       have:((plc names c).ways.map fun w=>(w.2:Int))=(c.ways.map fun w=>(w.2:Int)):=by unfold plc;rw[List.map_map];rfl
       rw[this];rfl
      generalize upd He ca (.ins t.cC dxc (chF (.ref nmc) (.int c.gain) (.ref p) (.int (c.ways.map fun w=>(w.2:Int)).sum)))=Hf at kp new
      refine⟨some (.ref ca),rfl,kp _ _ (no11 (sme _ _ hsd) c1e (by intro z;cases z)) (sme _ _ hsd),kp _ _ (no11 (sme _ _ hDd) c1e (by intro z;cases z)) (sme _ _ hDd),Tups.ki (Tups.tk Nd sme) c1e kp,?_,?_⟩
      ·intro b o eb
       refine kp b o (fun z=>?_) (sme _ _ (smd _ _ eb))
       rw[z,Same.lss sm2' _ c5] at eb
       cases eb
      ·rw[ts10 ec,<-List.append_assoc]
       refine⟨Wd.len,fun i' x' e'=>?_⟩
       obtain⟨a',e1,e2⟩:=Wd.at_ i' x' e'
       refine⟨a',e1,StM.step (c:=c) (e2.same sme) c1e kp fun j' e3 c' e4=>?_⟩
       obtain⟨rfl,rfl⟩:i'=i/\j'=j:=flat_one nd ex ec e' e3
       rw[ex] at e'
       cases e'
       rw[ecc] at e4
       cases e4
       exact⟨new,hall⟩
     ·rintro σ Hd ⟨v5',rfl,hsd,hDd,Nd,smd,Wd⟩
      rw[List.length_map,List.take_length,<-flat_snoc ex] at Wd
      exact⟨_,_,rfl,hsd,hDd,Nd,smd,Wd⟩
    ·rintro σ Hd ⟨v4,v5,rfl,hsd,hDd,Nd,smd,Wd⟩
     rw[List.length_map,W.len,List.take_length] at Wd
     have fin:∀(i:Nat) (x:SX),sx[i]? = some x->∃a,sas[i]? = some a/\StP t Hd (plS names x.1) a/\(x.1.choices.all fun c=>c.ways.all fun w=>names.contains w.1)=true:=fun i x e=>by
      obtain⟨a,e1,e2⟩:=Wd.at_ i x e
      exact⟨a,e1,e2.all fun c hc=>List.mem_flatMap.mpr ⟨x,List.mem_of_getElem? e,hc⟩⟩
     have hall:((sx.map (·.1)).all fun s=>s.choices.all fun c=>c.ways.all fun w=>names.contains w.1)=true:=by
      rw[List.all_eq_true]
      intro s hs
      obtain⟨x,hx,rfl⟩:=List.mem_map.mp hs
      obtain⟨i,hi⟩:=mem_at hx
      obtain⟨_,_,_,z⟩:=fin i x hi
      exact z
     rw[if_pos hall,placed_eq,hnames] at h
     refine⟨_,rfl,h _ _ smd ⟨sl,sas,rfl,hsd,?_,fun i s e=>?_⟩⟩
     ·rw[W.len];simp
     ·rw[List.getElem?_map,List.getElem?_map] at e
      cases ex:sx[i]? with
      |none=>rw[ex] at e;cases e
      |some x=>
       rw[ex] at e
       cases e
       obtain⟨a,e1,e2,_⟩:=fin i x ex
       exact⟨a,e1,e2⟩
end
end Ck
end
noncomputable section
namespace Ck
open PySem PySem.Spec PyProof.Rows L2
section
variable{P:Program}{w:World}{K:PySem.W.Frag}{mg:Str->Option Value}{base:Heap}{t:Adr}
theorem or(T:Txt K mg t)(kb:K.In base):OwnCls "OutOfRange" t.xO [.type "Exception",.type "BaseException",.type "object"] "Exception.__new__" mg base:=oo kb T.e_OutOfRange.mg T.e_OutOfRange.ex
def sp_range(t:Adr):Sp:=fun vs H Q E=>∃n a b:Int,vs=[.int n,.int a,.int b]/\if a<=n/\n<=b then Q .non H else E (.ref t.xO) none H
theorem odr(T:Txt K mg t)(kb:K.In base):Ok P w K mg base 1 t.fdr10 t.fdr ["number","least","greatest"] (sp_range t):=by
 refine T.demand_range.fn.okX sdr (fun vs H Q E h=>?_) fun cdv A outer s H vs Q E hr h=>?_
 ·obtain⟨n,a,b,rfl,_⟩:=h;rfl
 ·obtain⟨n,a,b,rfl,h⟩:=h
  refine⟨_,po10 (ps_if (pt_not (pt_chain ol10 ol10 (pv 1) (pv 0) (pv 2))) (po10 (pr13 xo rfl (or T kb) PySem.F.excBase_Exception)) pn13),?_⟩
  refine⟨_,rfl,_,rfl,_,_,rfl,rfl,_,rfl,?_⟩
  by_cases h1:a<=n
  case neg=>
   rw[if_neg (fun z=>h1 z.1)] at h
   exact brF (decide_eq_false h1) ⟨_,rfl,iteT h⟩
  refine brT (decide_eq_true h1) ⟨_,rfl,_,_,rfl,rfl,_,rfl,?_⟩
  by_cases h2:n<=b
  ·rw[if_pos ⟨h1,h2⟩] at h
   exact brF (by rw[decide_eq_true h2];rfl) h
  ·rw[if_neg (fun z=>h2 z.2)] at h
   exact brT (by rw[decide_eq_false h2];rfl) h
end
end Ck
end
noncomputable section
namespace Ck
open PySem PySem.Spec PyProof.Rows L2
section
variable{P:Program}{w:World}{K:PySem.W.Frag}{mg:Str->Option Value}{base:Heap}{t:Adr}
theorem og(T:Txt K mg t)(kb:K.In base):OwnCls "NoSuchGoal" t.xN10 [.type "Exception",.type "BaseException",.type "object"] "Exception.__new__" mg base:=oo kb T.e_NoSuchGoal.mg T.e_NoSuchGoal.ex
theorem og10(T:Txt K mg t)(kb:K.In base):OwnCls "GainTooLow" t.xG [.type "Exception",.type "BaseException",.type "object"] "Exception.__new__" mg base:=oo kb T.e_GainTooLow.mg T.e_GainTooLow.ex
theorem or10(T:Txt K mg t)(kb:K.In base):OwnCls "NoRoom" t.xN11 [.type "Exception",.type "BaseException",.type "object"] "Exception.__new__" mg base:=oo kb T.e_NoRoom.mg T.e_NoRoom.ex
inductive Told(t:Adr):Value->Int->Prop
 |range:Told t (.ref t.xO) (-1)
 |text:Told t (.ref t.xN) (-2)
 |goal:Told t (.ref t.xN10) (-3)
 |gain:Told t (.ref t.xG) (-4)
 |room:Told t (.ref t.xN11) (-7)
def AnsE(t:Adr)(Q:VK):XK:=fun cls _ H1=>∃c:Int,Told t cls c/\∀l,H1 l=none->Q (.ref l) (upd H1 l (.lst [.int c]))
theorem answer_run(T:Txt K mg t)(kb:K.In base){A:Around}{outer:List Env}{s:Shared}{H:Hp}{Q:VK}{E:XK}{p:Addr}{o:Obj}{fd:FuncData}{k:Nat}(hr:Room (k+1) A)(e0:Env0 P w K mg base A outer s H)
  (ho:s.heap.get? p=some o) (hd:o.data=.func fd)
  (run:∀(env1:Env) (A1:Around) (s1:Shared),Room k A1->Env0 P w K mg base A1 (env1::outer) s1 H->(∀b o,s.heap.get? b=some o->s1.heap.get? b=some o) ->
   codeAny (model P w) A1 (.call (.ref p) ⟨[],[]⟩) (CR (CX1 P w) (env1::outer) P w H s1 Q (AnsE t Q)) s1) :
  codeAny (model P w) A (.call (.ref t.f_answer) ⟨[.ref p],[]⟩) (CR (CX1 P w) outer P w H s Q E) s:=by
 obtain⟨oc,od,kV,doc,pm,an,cdv,ct,osl,efd,lk,hcd⟩:=T.answer.fn.ex
 have KX:K.In s.heap:=kb.keeps fun b o e=>(e0.bs b o e).1
 have hb:=T.answer.bd s [.ref p] KX rfl
 rw[efd] at hb lk
 refine run_at (vs:=[.ref p]) (us:=[.ref p]) (E:=E) lk hcd sc_answer rfl hr e0 hb (.cons rfl .nil) fun s1 hr1 I kp=>?_
 have hS:∀{D:Ends} {f:Flow} {s':Shared},D.rt=Q->(∀σ H,¬D.nx σ H)->(∀σ H,¬D.bk σ H)->(∀σ H,¬D.ct σ H)->SP (cxOf (CX1 P w) P w K mg base ["work"] "answer" (defScope da) t.f_answer cdv A outer s H E) [] D f s'->(match f with
    |.ret u=>CR (CX1 P w) outer P w H s Q E (.ok (.ret u)) s'
    |.next=>CR (CX1 P w) outer P w H s Q E (.ok (.ret .none)) s'
    |_=>False):=by
  intro D f s' e1 e2 e3 e4 h
  cases f with
  |ret u=>obtain⟨v,σ',H',J,rv,q⟩:=h;rw[e1] at q;exact⟨v,H',J.os,J.bare,J.base,J.hok,rv,q⟩
  |next=>obtain⟨σ',H',_,q⟩:=h;exact (e2 _ _ q).elim
  |brk=>obtain⟨σ',H',_,q⟩:=h;exact (e3 _ _ q).elim
  |cont=>obtain⟨σ',H',_,q⟩:=h;exact (e4 _ _ q).elim
 refine wpAny_execs_cons (wpAny_mono (try_call (Ds:={ nx:=fun _ _=>False,rt:=Q }) (i:=0) (p:=p) (E:=AnsE t Q) I rfl rfl rfl (Or.inl rfl) rfl (kp _ _ ho) hd (run _ _ s1 hr1 I.env0 kp) ?_) (fun f s' h=>?_) fun e s' h=>h)
 ·rintro a C a0 B h3 s' H1 fl again ⟨c,tc,hq⟩
  have I3:=again h3 fl (Heap.UpToSlots.refl _)
  have ox:=PySem.F.excBase_Exception
  cases tc with
  |range=>exact hit I3 fl rfl (or T kb) ox (fun E=>po10 (pr10 (pl12 (pc (pg10 T.gOO rfl) pn10)))) ⟨(by show 1<=sizeLine;decide),hq⟩ again
  |text=>
   refine miss I3 fl rfl (own_no T kb) (or T kb) ox T.s_NoSuchText_OutOfRange ?_
   exact hit I3 fl rfl (own_no T kb) ox (fun E=>po10 (pr10 (pl12 (pc (pg10 T.g_NO_SUCH_TEXT rfl) pn10)))) ⟨(by show 1<=sizeLine;decide),hq⟩ again
  |goal=>
   refine miss I3 fl rfl (og T kb) (or T kb) ox T.s_NoSuchGoal_OutOfRange ?_
   refine miss I3 fl rfl (og T kb) (own_no T kb) ox T.s_NoSuchGoal_NoSuchText ?_
   exact hit I3 fl rfl (og T kb) ox (fun E=>po10 (pr10 (pl12 (pc (pg10 T.gNS rfl) pn10)))) ⟨(by show 1<=sizeLine;decide),hq⟩ again
  |gain=>
   refine miss I3 fl rfl (og10 T kb) (or T kb) ox T.s_GainTooLow_OutOfRange ?_
   refine miss I3 fl rfl (og10 T kb) (own_no T kb) ox T.s_GainTooLow_NoSuchText ?_
   refine miss I3 fl rfl (og10 T kb) (og T kb) ox T.s_GainTooLow_NoSuchGoal ?_
   exact hit I3 fl rfl (og10 T kb) ox (fun E=>po10 (pr10 (pl12 (pc (pg10 T.gGT rfl) pn10)))) ⟨(by show 1<=sizeLine;decide),hq⟩ again
  |room=>
   refine miss I3 fl rfl (or10 T kb) (or T kb) ox T.s_NoRoom_OutOfRange ?_
   refine miss I3 fl rfl (or10 T kb) (own_no T kb) ox T.s_NoRoom_NoSuchText ?_
   refine miss I3 fl rfl (or10 T kb) (og T kb) ox T.s_NoRoom_NoSuchGoal ?_
   refine miss I3 fl rfl (or10 T kb) (og10 T kb) ox T.s_NoRoom_GainTooLow ?_
   exact hit I3 fl rfl (or10 T kb) ox (fun E=>po10 (pr10 (pl12 (pc (pg10 T.g_NO_ROOM rfl) pn10)))) ⟨(by show 1<=sizeLine;decide),hq⟩ again
 ·have z:=hS (D:={ nx:=fun _ _=>False,rt:=Q }) rfl (fun _ _ z=>z) (fun _ _ z=>z) (fun _ _ z=>z) h
  cases f with
  |next=>exact wpAny_execs_nil z
  |ret u=>exact z
  |brk=>exact z
  |cont=>exact z
end
end Ck
end
noncomputable section
namespace Ck
open PySem PySem.Spec PyProof.Rows L2
section
variable{P:Program}{w:World}{K:PySem.W.Frag}{mg:Str->Option Value}{base:Heap}{t:Adr}
def Given(K:PySem.W.Frag)(t:Adr)(H:Hp)(Q:VK)(E:XK)(l:Addr)(bs:List Nat)(room:Int):Prop:=SqL K H l (byts bs)/\(∀c∈bs,c<256) /\
 if bs.length<=65536/\0<=room/\room<=65536 then OptP (Rd.readStates bs) (∀H',E (.ref t.xN) none H') (fun net=>∀v H',Same H H'->NetI t net v H'->Q v H') else ∀H',E (.ref t.xO) none H'
def sp_given(K:PySem.W.Frag)(t:Adr):Sp:=fun vs H Q E=>∃l bs room,vs=[.ref l,.int room]/\Given K t H Q E l bs room
theorem ok_read_given(T:Txt K mg t)(kb:K.In base):Ok P w K mg base 9 t.frg12 t.frg11 ["text","room"] (sp_given K t):=by
 refine T.read_given.fn.okX sc_read_given (fun vs H Q E h=>?_) fun cdv A outer s H vs Q E hr h=>?_
 ·obtain⟨l,bs,room,rfl,_⟩:=h;rfl
 ·obtain⟨l,bs,room,rfl,hl,hb,h⟩:=h
  have hr1:=hr.mono (show 1<=8 by decide)
  refine⟨_,pc11 (pe10 (pf10 T.demand_range (odr T kb) hr1 rfl (passes1 xo) (pc (pc12 cls10 (by rfl) T.b_len bl11 (pc (pv 0) pn10))<|pc pi<|pc (pg10 T.gLT rfl) pn10)))<|
   pc11 (pe10 (pf10 T.demand_range (odr T kb) hr1 rfl (passes1 xo) (pc (pv 1)<|pc pi<|pc (pg10 T.gGR rfl) pn10)))<|
   po10 (pr10 (pf10 T.read_states (ors T kb) hr rfl (passes1 xo) (pc (pv 0) pn10))),?_⟩
  refine⟨_,rfl,l,_,rfl,.inl hl,_,_,_,rfl,?_⟩
  rw[bl10]
  by_cases h1:bs.length<=65536
  case neg=>
   rw[if_neg (fun z=>h1 z.1)] at h
   rw[if_neg (fun z=>h1 (by omega))]
   exact h _
  rw[if_pos ⟨by omega,by omega⟩]
  refine⟨_,rfl,_,_,_,rfl,?_⟩
  by_cases h2:0<=room/\room<=65536
  case neg=>
   rw[if_neg (fun z=>h2 z.2)] at h
   rw[if_neg h2]
   exact h _
  rw[if_pos ⟨h1,h2⟩] at h
  rw[if_pos h2]
  exact⟨_,rfl,l,bs,rfl,hl,h1,hb,h⟩
end
end Ck
end
noncomputable section
namespace Ck
open PySem PySem.Spec PyProof.Rows L2
section
variable{P:Program}{w:World}{K:PySem.W.Frag}{mg:Str->Option Value}{base:Heap}{t:Adr}
def sp_goals(K:PySem.W.Frag)(t:Adr):Sp:=fun vs H Q E=>∃l bs room g,vs=[.ref l,.int room,.int g]/\SqL K H l (byts bs)/\(∀c∈bs,c<256) /\
 if (0<=g/\g<=65535)/\bs.length<=65536/\0<=room/\room<=65536 then OptP (Rd.readStates bs) (∀H',E (.ref t.xN) none H') (fun net=>if 2^net.length<=g.toNat then ∀H',E (.ref t.xN10) none H' else ∀v H',Same H H'->NetI t net v H'->Q v H') else ∀H',E (.ref t.xO) none H'
theorem shr_zero{g:Int}{n:Nat}(hg:0<=g):decide (V.int (g/2^n)=V.int 0)=decide (¬2^n<=g.toNat):=by
 rw[di,Bool.eq_iff_iff,beq_iff_eq,decide_eq_true_eq]
 obtain⟨m,rfl⟩:=Int.eq_ofNat_of_zero_le hg
 have e:(m:Int)/2^n=((m/2^n:Nat):Int):=by push_cast;rfl
 rw[e,Int.toNat_natCast]
 have hp:0<2^n:=Nat.two_pow_pos n
 constructor
 ·intro z q
  have:m/2^n=0:=by omega
  rw[Nat.div_eq_zero_iff] at this
  omega
 ·intro q
  have:m/2^n=0:=Nat.div_eq_of_lt (by omega)
  omega
theorem org(T:Txt K mg t)(kb:K.In base):Ok P w K mg base 10 t.frg10 t.frg ["text","room","goals"] (sp_goals K t):=by
 refine T.read_given_goals.fn.okX srg (fun vs H Q E h=>?_) fun cdv A outer s H vs Q E hr h=>?_
 ·obtain⟨l,bs,room,g,rfl,_⟩:=h;rfl
 ·obtain⟨l,bs,room,g,rfl,hl,hb,h⟩:=h
  have hr1:=hr.mono (show 1<=9 by decide)
  refine⟨_,pc11 (pe10 (pf10 T.demand_range (odr T kb) hr1 rfl (passes1 xo) (pc (pv 2)<|pc pi<|pc (pg10 T.gGG rfl) pn10)))<|
   pc11 (ps10 (i:=3) srg.nd rfl (Or.inl rfl) (pf10 T.read_given (ok_read_given T kb) hr rfl (passes1 xo) (pc (pv 0)<|pc (pv 1) pn10)))<|
   pc11 (ps_if (pc13 op_ne (po11 op_shr (pv 2) (pc12 cls10 (by rfl) T.b_len bl11 (pc (pv 3) pn10))) pi (nomark _)) (po10 (pr13 xo rfl (og T kb) PySem.F.excBase_Exception)) pn13)<|
   po10 (pr10 (pv 3)),?_⟩
  refine⟨_,rfl,_,_,_,rfl,?_⟩
  by_cases h1:0<=g/\g<=65535
  case neg=>
   rw[if_neg (fun z=>h1 z.1)] at h
   rw[if_neg h1]
   exact h _
  rw[if_pos h1]
  refine⟨_,rfl,_,rfl,l,bs,room,rfl,hl,hb,?_⟩
  by_cases h2:bs.length<=65536/\0<=room/\room<=65536
  case neg=>
   rw[if_neg (fun z=>h2 z.2)] at h
   rw[if_neg h2]
   exact h
  rw[if_pos ⟨h1,h2⟩] at h
  rw[if_pos h2]
  cases e:Rd.readStates bs with
  |none=>rw[e] at h;exact h
  |some net=>
   rw[e] at h
   intro v H' sm hv
   obtain⟨sl,sas,rfl,hsl,hst⟩:=id hv
   refine⟨_,rfl,_,rfl,sl,_,rfl,.inl (SqL.of hsl),_,_,rfl,rfl,by omega,rfl,_,rfl,?_⟩
   have ez:=shr_zero (g:=g) (n:=sas.length) h1.1
   have en:((sas.map V.ref).length:Int).toNat=sas.length:=by simp
   have elen:=hst.len
   have eb:(!decide (V.int (g/2^((sas.map V.ref).length:Int).toNat)=V.int 0))=decide (2^sas.length<=g.toNat):=by
    rw[en,ez]
    by_cases z:2^sas.length<=g.toNat
    ·rw[decide_eq_false (fun q=>q z),decide_eq_true z];rfl
    ·rw[decide_eq_true z,decide_eq_false z];rfl
   have h:if 2^net.length<=g.toNat then ∀H',E (.ref t.xN10) none H' else ∀v H',Same H H'->NetI t net v H'->Q v H':=h
   rw[<-elen] at h
   by_cases h3:2^sas.length<=g.toNat
   ·rw[if_pos h3] at h
    exact brT (eb.trans (decide_eq_true h3)) (h _)
   ·rw[if_neg h3] at h
    exact brF (eb.trans (decide_eq_false h3)) ⟨_,rfl,h _ _ sm hv⟩
end
end Ck
end
noncomputable section
namespace Ck
open PySem PySem.Spec PyProof.Rows L2
section
variable{P:Program}{w:World}{K:PySem.W.Frag}{mg:Str->Option Value}{base:Heap}{t:Adr}
theorem mark_eq{g:Int}{s:Nat}(hg:0<=g):Builtin.bitAnd (g/2^s) 1=if Ra61.isGoal g.toNat s=true then 1 else 0:=by
 rw[PyProof.Rows.bitAnd_m1]
 obtain⟨m,rfl⟩:=Int.eq_ofNat_of_zero_le hg
 have e:(m:Int)/2^s%2=((m/2^s%2:Nat):Int):=by push_cast;rfl
 rw[e,Int.toNat_natCast]
 unfold Ra61.isGoal
 have:m/2^s%2=0\/m/2^s%2=1:=by omega
 rcases this with q | q<;>rw[q]<;>rfl
def marksN(n:Nat)(g:Nat):List Int:=(List.range n).map fun s=>if Ra61.isGoal g s=true then 1 else 0
def sp_marks(K:PySem.W.Frag):Sp:=fun vs H Q _=>∃g sl xs,vs=[.int g,.ref sl]/\0<=g/\SqL K H sl xs/\xs.length<=16/\∀D,H D=none->Q (.ref D) (upd H D (.lst ((marksN xs.length g.toNat).map V.int)))
theorem ogm(T:Txt K mg t):Ok P w K mg base 1 t.fgm10 t.fgm ["goals","states"] (sp_marks K):=by
 refine T.goal_marks.fn.okX sgm (fun vs H Q E h=>?_) fun cdv A outer s H vs Q E hr h=>?_
 ·obtain⟨g,sl,xs,rfl,_⟩:=h;rfl
 ·obtain⟨g,sl,xs,rfl,hg,hl,hn,h⟩:=h
  refine⟨_,po10 (pr10 (pl14 (own:=[("place",2)]) rfl sgm.nd (pr11 (by rfl) T.b_range (pc (pc12 cls10 (by rfl) T.b_len bl11 (pc (pv 1) pn10)) pn10)) (bb10 rfl) (fun _ _ _ _ _=>pn11 (i:=2) sgm.nd rfl (Or.inl rfl)) (fun _ _ _ _ _=>pn12)
   (fun _ _ _ _ _=>po11 op_and (po11 op_shr (pv 0) (pv 2)) pi))),?_⟩
  refine⟨_,rfl,sl,_,rfl,.inl hl,_,rfl,by omega,by omega,fun D hD=>?_⟩
  have en:(xs.length:Int).toNat=xs.length:=by simp
  refine lc_range (n:=(xs.length:Int).toNat) (fun i H8=>H8=upd H D (.lst (((marksN xs.length g.toNat).map V.int).take i))) rfl ?_ ?_
  ·rintro i H8 hi rfl
   rw[en] at hi
   refine⟨rfl,?_⟩
   refine⟨_,rfl,_,rfl,_,_,rfl,rfl,by omega,_,_,rfl,rfl,_,us10,?_,?_⟩
   ·rw[List.length_take,sizeLine_eq];unfold marksN;simp;omega
   ·have e1:(0+(i:Int)).toNat=i:=by omega
    show upd (upd _ D _) D (.lst (_++[V.int (Builtin.bitAnd (g/2^(0+(i:Int)).toNat) 1)]))=_
    rw[uu,e1,mark_eq hg,ts10 (l:=(marksN xs.length g.toNat).map V.int) (x:=V.int (if Ra61.isGoal g.toNat i=true then 1 else 0)) (by unfold marksN;rw[List.getElem?_map,List.getElem?_map,List.getElem?_range hi];rfl)]
  ·rintro H8 rfl
   rw[en,List.take_of_length_le (by unfold marksN;simp)]
   exact h D hD
end
end Ck
end
noncomputable section
namespace Ck
open PySem PySem.Spec PyProof.Rows L2
section
variable{P:Program}{w:World}{K:PySem.W.Frag}{mg:Str->Option Value}{base:Heap}{t:Adr}
theorem gcd_step(x y:Int):Int.gcd y (x%y)=Int.gcd x y:=by
 rw[Int.emod_def,Int.gcd_comm x y]
 simp
def sp_gcd:Sp:=fun vs H Q _=>∃a b:Int,vs=[.int a,.int b]/\0<b/\Q (.int (Int.gcd a b:Nat)) H
theorem ocd(T:Txt K mg t):Ok P w K mg base 1 t.fcd10 t.fcd ["number","other"] sp_gcd:=by
 refine T.common_divisor.fn.okX scd (fun vs H Q E h=>?_) fun cdv A outer s H vs Q E hr h=>?_
 ·obtain⟨a,b,rfl,_⟩:=h;rfl
 ·obtain⟨a,b,rfl,hb,h⟩:=h
  refine⟨_,pc11 (pw10 po12 (pc13 op_ne (pv 1) pi (nomark _))
    (pc11 (ps10 (i:=2) scd.nd rfl (Or.inl rfl) (po11 op_mod (pv 0) (pv 1)))<|
      pc11 (ps10 (i:=0) scd.nd rfl (Or.inl rfl) (pv 1))<|
      po10 (ps10 (i:=1) scd.nd rfl (Or.inl rfl) (pv 2))))<|
   po10 (pr10 (pv 0)),?_⟩
  refine⟨fun m σ H'=>∃(x y:Int) (v2:Option V),σ=[some (.int x),some (.int y),v2]/\0<=y/\(0<x\/0<y)/\Int.gcd x y=Int.gcd a b/\m=y.toNat/\H'=H,⟨_,a,b,none,rfl,by omega,.inr hb,rfl,rfl,rfl⟩,?_⟩
  rintro m σ H' ⟨x,y,v2,rfl,hy,hxy,e,rfl,hH⟩
  have hH':=hH.symm
  subst hH'
  refine⟨_,rfl,rfl,_,rfl,?_⟩
  by_cases h0:y=0
  ·subst h0
   refine brF (by rw[di];rfl) ⟨_,rfl,?_⟩
   have hx:0<x:=by omega
   rw[Int.gcd_zero] at e
   have ex:x=((Int.gcd a b:Nat):Int):=by omega
   rw[ex]
   exact h
  ·have hy1:0<y:=by omega
   refine brT (by rw[di];simpa using h0) ⟨fun σ H'=>∃v2,σ=[some (.int y),some (.int (x%y)),v2]/\H'=H,?_,?_⟩
   ·rintro σ' H' ⟨v2',rfl,hH2⟩
    have hlt:=Int.emod_lt_of_pos x hy1
    have hge:=Int.emod_nonneg x h0
    exact⟨(x%y).toNat,by omega,y,x%y,v2',rfl,hge,.inl (by omega),(gcd_step x y).trans e,rfl,hH2⟩
   ·refine⟨_,rfl,_,rfl,_,_,rfl,rfl,hy1,_,rfl,_,rfl,?_⟩
    exact⟨_,rfl,rfl⟩
end
end Ck
end
noncomputable section
namespace Ck
open PySem PySem.Spec PyProof.Rows L2
section
variable{P:Program}{w:World}{K:PySem.W.Frag}{mg:Str->Option Value}{base:Heap}{t:Adr}
def vaF(tops bot:V):List (Str×V):=putF "bottom" bot (putF "tops" tops [])
def quF(os es:V):List (Str×V):=putF "ends" es (putF "options" os [])
theorem vt(a b:V):(vaF a b).lookup ("tops":Str)=some a:=by
 unfold vaF;rw[lp10,if_neg (by decide),lp10,if_pos rfl]
theorem vb(a b:V):(vaF a b).lookup ("bottom":Str)=some b:=by
 unfold vaF;rw[lp10,if_pos rfl]
theorem qo10(a b:V):(quF a b).lookup ("options":Str)=some a:=by
 unfold quF;rw[lp10,if_neg (by decide),lp10,if_pos rfl]
theorem quF_ends(a b:V):(quF a b).lookup ("ends":Str)=some b:=by
 unfold quF;rw[lp10,if_pos rfl]
def svi(t:Adr):Sp:=fun vs H Q _=>∃x dx a b,vs=[.ref x,a,b]/\H x=some (.ins t.cV dx [])/\Q .non (upd H x (.ins t.cV dx (vaF a b)))
theorem ovi(T:Txt K mg t):Ok P w K mg base 1 t.fVi10 t.fVi ["self","tops","bottom"] (svi t):=by
 refine T.Values_init.fn.okX sVi (fun vs H Q E h=>?_) fun cdv A outer s H vs Q E hr h=>?_
 ·obtain⟨x,dx,a,b,rfl,_⟩:=h;rfl
 ·obtain⟨x,dx,a,b,rfl,hx,h⟩:=h
  refine⟨_,pc11 (pf12 (pv 0) (pv 1) rfl) (po10 (pf12 (pv 0) (pv 2) rfl)),?_⟩
  refine⟨_,rfl,_,rfl,x,_,dx,_,rfl,hx,T.kV10.cl,T.nVt,(by show 0<1000;decide),?_⟩
  refine⟨_,rfl,_,rfl,x,_,dx,_,rfl,us10,T.kV10.cl,T.nVb,(by show 1<1000;decide),?_⟩
  rw[uu]
  exact h
def sqi(t:Adr):Sp:=fun vs H Q _=>∃x dx a b,vs=[.ref x,a,b]/\H x=some (.ins t.cQ dx [])/\Q .non (upd H x (.ins t.cQ dx (quF a b)))
theorem oqi(T:Txt K mg t):Ok P w K mg base 1 t.fQi14 t.fQi13 ["self","options","ends"] (sqi t):=by
 refine T.Quest_init.fn.okX sc_Quest_init (fun vs H Q E h=>?_) fun cdv A outer s H vs Q E hr h=>?_
 ·obtain⟨x,dx,a,b,rfl,_⟩:=h;rfl
 ·obtain⟨x,dx,a,b,rfl,hx,h⟩:=h
  refine⟨_,pc11 (pf12 (pv 0) (pv 1) rfl) (po10 (pf12 (pv 0) (pv 2) rfl)),?_⟩
  refine⟨_,rfl,_,rfl,x,_,dx,_,rfl,hx,T.kQ.cl,T.nQo,(by show 0<1000;decide),?_⟩
  refine⟨_,rfl,_,rfl,x,_,dx,_,rfl,us10,T.kQ.cl,T.nQe,(by show 1<1000;decide),?_⟩
  rw[uu]
  exact h
def OpI(t:Adr)(H:Hp)(o:Fq.Opt)(a:Addr):Prop:=∃dx nm wy ps,H a=some (.ins t.cC dx (chF (.ref nm) (.int o.gain) (.ref wy) (.int o.tot)))/\H nm=some (.tup (byts o.name))/\H wy=some (.lst (ps.map V.ref))/\Ea (WayP H) ps o.ways
theorem OpI.same{H H':Hp}{o:Fq.Opt}{a:Addr}(h:OpI t H o a)(k:Same H H'):OpI t H' o a:=by
 obtain⟨dx,nm,wy,ps,h1,h2,h3,h4⟩:=h
 exact⟨dx,nm,wy,ps,k _ _ h1,k _ _ h2,k _ _ h3,h4.mono fun x a h=>k _ _ h⟩
end
end Ck
end
noncomputable section
namespace Ck
open PySem PySem.Spec PyProof.Rows L2
section
variable{P:Program}{w:World}{K:PySem.W.Frag}{mg:Str->Option Value}{base:Heap}{t:Adr}
def OsI(t:Adr)(H:Hp)(os:List Fq.Opt)(a:Addr):Prop:=∃as:List Addr,H a=some (.lst (as.map V.ref))/\Ea (OpI t H) as os
theorem OsI.same{H H':Hp}{os:List Fq.Opt}{a:Addr}(h:OsI t H os a)(k:Same H H'):OsI t H' os a:=by
 obtain⟨as,h1,h2⟩:=h
 exact⟨as,k _ _ h1,h2.mono fun x a h=>h.same k⟩
def rawO(c:Ra61.Choice):Fq.Opt:=⟨c.name,c.gain,c.ways,(c.weight:Int)⟩
theorem ChP.op{H:Hp}{c:Ra61.Choice}{a:Addr}(h:ChP t H c a):OpI t H (rawO c) a:=by
 obtain⟨dx,nm,wy,ps,h1,h2,h3,h4⟩:=h
 have e:(c.ways.map fun w=>(w.2:Int)).sum=((rawO c).tot):=by
  show _=(((c.ways.map fun w=>w.2).sum:Nat):Int)
  induction c.ways with
  |nil=>rfl
  |cons w r ih=>rw[List.map_cons,List.map_cons,List.sum_cons,List.sum_cons,ih,Int.natCast_add]
 exact⟨dx,nm,wy,ps,by rw[<-e];exact h1,h2,h3,h4⟩
theorem Ea.map{α β:Type}{R:α->Addr->Prop}{S:β->Addr->Prop}{f:α->β}{as:List Addr}{xs:List α}(E:Ea R as xs)(h:∀x a,R x a->S (f x) a):Ea S as (xs.map f):=
 ⟨by rw[List.length_map];exact E.len,fun i y e=>by
  rw[List.getElem?_map] at e
  cases q:xs[i]? with
  |none=>rw[q] at e;cases e
  |some x=>rw[q] at e;cases e;obtain⟨a,e1,e2⟩:=E.at_ i x q;exact⟨a,e1,h x a e2⟩⟩
def OpD(t:Adr)(H:Hp)(D:Addr)(o:Fq.Opt)(a:Addr):Prop:=∃dx nm wy ps,H a=some (.ins t.cC dx (chF (.ref nm) (.int o.gain) (.ref wy) (.int o.tot)))/\H nm=some (.tup (byts o.name))/\H wy=some (.lst (ps.map V.ref))/\Ea (WayP H) ps o.ways/\wy≠D
def OsD(t:Adr)(H:Hp)(D:Addr)(os:List Fq.Opt)(a:Addr):Prop:=a≠D/\∃as:List Addr,H a=some (.lst (as.map V.ref))/\Ea (OpD t H D) as os
theorem OpD.op{H:Hp}{D:Addr}{o:Fq.Opt}{a:Addr}(h:OpD t H D o a):OpI t H o a:=by
 obtain⟨dx,nm,wy,ps,h1,h2,h3,h4,_⟩:=h
 exact⟨dx,nm,wy,ps,h1,h2,h3,h4⟩
theorem OpD.same{H H':Hp}{D:Addr}{o:Fq.Opt}{a:Addr}(h:OpD t H D o a)(k:Same H H'):OpD t H' D o a:=by
 obtain⟨dx,nm,wy,ps,h1,h2,h3,h4,h5⟩:=h
 exact⟨dx,nm,wy,ps,k _ _ h1,k _ _ h2,k _ _ h3,h4.mono fun x a h=>k _ _ h,h5⟩
theorem OpD.put{H:Hp}{D:Addr}{o:Fq.Opt}{a:Addr}{xs ys:List V}(h:OpD t H D o a)(hD:H D=some (.lst xs)):OpD t (upd H D (.lst ys)) D o a:=by
 obtain⟨dx,nm,wy,ps,h1,h2,h3,h4,h5⟩:=h
 exact⟨dx,nm,wy,ps,by rw[un10 (no11 h1 hD (by intro z;cases z))];exact h1,by rw[un10 (no11 h2 hD (by intro z;cases z))];exact h2,by rw[un10 h5];exact h3,h4.mono fun x a h=>by
  show (upd H D (.lst ys)) a=_
  rw[un10 (no11 (show H a=_ from h) hD (by intro z;cases z))];exact h,h5⟩
theorem OpI.new{H H':Hp}{D:Addr}{o:Fq.Opt}{a:Addr}(h:OpI t H o a)(hD:H D=none)(k:Same H H'):OpD t H' D o a:=by
 obtain⟨dx,nm,wy,ps,h1,h2,h3,h4⟩:=h
 exact⟨dx,nm,wy,ps,k _ _ h1,k _ _ h2,k _ _ h3,h4.mono fun x a h=>k _ _ h,non10 h3 hD⟩
theorem OsD.os{H:Hp}{D:Addr}{os:List Fq.Opt}{a:Addr}(h:OsD t H D os a):OsI t H os a:=by
 obtain⟨_,as,h1,h2⟩:=h
 exact⟨as,h1,h2.mono fun x a h=>h.op⟩
theorem OsD.same{H H':Hp}{D:Addr}{os:List Fq.Opt}{a:Addr}(h:OsD t H D os a)(k:Same H H'):OsD t H' D os a:=by
 obtain⟨h0,as,h1,h2⟩:=h
 exact⟨h0,as,k _ _ h1,h2.mono fun x a h=>h.same k⟩
theorem OsD.put{H:Hp}{D:Addr}{os:List Fq.Opt}{a:Addr}{xs ys:List V}(h:OsD t H D os a)(hD:H D=some (.lst xs)):OsD t (upd H D (.lst ys)) D os a:=by
 obtain⟨h0,as,h1,h2⟩:=h
 exact⟨h0,as,by rw[un10 h0];exact h1,h2.mono fun x a h=>h.put hD⟩
theorem OsI.new{H H':Hp}{D:Addr}{os:List Fq.Opt}{a:Addr}(h:OsI t H os a)(hD:H D=none)(k:Same H H'):OsD t H' D os a:=by
 obtain⟨as,h1,h2⟩:=h
 exact⟨non10 h1 hD,as,k _ _ h1,h2.mono fun x a h=>h.new hD k⟩
end
end Ck
end
noncomputable section
namespace Ck
open PySem PySem.Spec PyProof.Rows L2
section
variable{P:Program}{w:World}{K:PySem.W.Frag}{mg:Str->Option Value}{base:Heap}{t:Adr}
def timesO(m:Int)(o:Fq.Opt):Fq.Opt:=⟨o.name,o.gain*m,o.ways,o.tot⟩
def NewO(t:Adr)(H0 H:Hp)(o:Fq.Opt)(a:Addr):Prop:=∃dx nm wy ps,H a=some (.ins t.cC dx (chF (.ref nm) (.int o.gain) (.ref wy) (.int o.tot)))/\H0 nm=some (.tup (byts o.name))/\H0 wy=some (.lst (ps.map V.ref))/\Ea (WayP H0) ps o.ways
def sp_gains(K:PySem.W.Frag)(t:Adr):Sp:=fun vs H Q _=>∃(H0:Hp) (cl:Addr) (m:Int) (cas:List Addr) (os:List Fq.Opt),vs=[.ref cl,.int m]/\Same H0 H/\(m=0\/m = -1)/\SqL K H cl (cas.map V.ref)/\Ea (OpI t H0) cas os/\cas.length<=8 /\
 ∀(D:Addr) (as:List Addr) (H':Hp),Same H H'->H D=none->H' D=some (.lst (as.map V.ref))->Ea (NewO t H0 H') as (os.map (timesO m))->Q (.ref D) H'
theorem NewO.op{H0 H:Hp}{o:Fq.Opt}{a:Addr}(h:NewO t H0 H o a)(k:Same H0 H):OpI t H o a:=by
 obtain⟨dx,nm,wy,ps,h1,h2,h3,h4⟩:=h
 exact⟨dx,nm,wy,ps,h1,k _ _ h2,k _ _ h3,h4.mono fun x a h=>k _ _ h⟩
theorem ogt(T:Txt K mg t):Ok P w K mg base 3 t.fgt10 t.fgt ["choices","times"] (sp_gains K t):=by
 refine T.gains_taken.fn.okX sgt (fun vs H Q E h=>?_) fun cdv A outer s H vs Q E hr h=>?_
 ·obtain⟨H0,cl,m,cas,os,rfl,_⟩:=h;rfl
 ·obtain⟨H0,cl,m,cas,os,rfl,k0,hm,hl,W,hn,h⟩:=h
  refine⟨_,po10 (pr10 (pl14 (own:=[("choice",2)]) rfl sgt.nd (pl11 (pv 0)) (bb10 rfl) (fun _ _ _ _ _=>pn11 (i:=2) sgt.nd rfl (Or.inl rfl)) (fun _ _ _ _ _=>pn12)
   (fun _ _ _ _ _=>pc_mk T.kC T.Choice_init (oci T) hr rfl pass1 (pc (pf K (pv 2) rfl)<|pc (po11 om (pf K (pv 2) rfl) (pv 1))<|pc (pf K (pv 2) rfl)<|pc (pf K (pv 2) rfl) pn10)))),?_⟩
  refine⟨_,rfl,cl,rfl,⟨_,hl⟩,fun D hD=>ll10 (K:=K) (a:=cl) (xs:=cas.map V.ref) (fun i H9=>∃as:List Addr,as.length=i/\Same H H9/\H9 D=some (.lst (as.map V.ref))/\Ea (NewO t H0 H9) as ((os.map (timesO m)).take i))
   ⟨[],rfl,su hD,us10,Ea.nil⟩ (fun i H9 _ ⟨_,_,e,_,_⟩=>Same.seq e hl) ?_ ?_⟩
  ·rintro i v H9 hi ⟨as,has,s9,h9,E9⟩
   obtain⟨ca,ea,rfl⟩:=ra10 hi
   obtain⟨o,eo,dx,nm,wy,ps,c1,c2,c3,c4⟩:=W.get ea
   have c1':=s9 _ _ (k0 _ _ c1)
   refine⟨rfl,?_⟩
   refine⟨_,rfl,ca,_,dx,_,_,rfl,c1',T.kC.cl,T.nCn,chF_name _ _ _ _,_,rfl,ca,_,dx,_,_,rfl,c1',T.kC.cl,T.nCg,cg _ _ _ _,_,rfl,_,_,rfl,rfl,?_,_,rfl,ca,_,dx,_,_,rfl,c1',T.kC.cl,T.nCw,cw _ _ _ _,_,rfl,ca,_,dx,_,_,rfl,c1',T.kC.cl,T.nCt,ct10 _ _ _ _,?_⟩
   ·exact .inr (by rcases hm with rfl | rfl<;>exact⟨by decide,by decide⟩)
   intro x dx2 hx hdx2 hne
   refine⟨x,dx2,_,_,_,_,rfl,us10,rfl,?_⟩
   rw[uu]
   have sm:=sm12 (u:=.own x) (v:=.ins t.cC dx2 (chF (.ref nm) (.int (o.gain*m)) (.ref wy) (.int o.tot))) hx hdx2
   refine⟨as.map V.ref,sm _ _ h9,?_,as++[x],by simp[has],?_,?_,?_⟩
   ·rw[List.length_map,has,sizeLine_eq]
    have:=(List.getElem?_eq_some_iff.mp ea).1
    omega
   ·intro b ob eb
    rw[un10 (non10 eb hD)]
    exact sm _ _ (s9 _ _ eb)
   ·rw[us10,List.map_append];rfl
   ·have hDl:=sm _ _ h9
    rw[ts10 (l:=os.map (timesO m)) (x:=timesO m o) (by rw[List.getElem?_map,eo];rfl)]
    have hxD:x≠D:=fun z=>by rw[z,h9] at hx;cases hx
    refine Ea.snoc (E9.mono fun o' a' h'=>?_) ⟨dx2,nm,wy,ps,by rw[un10 hxD];exact us10,c2,c3,c4⟩
    obtain⟨dx',nm',wy',ps',q1,q2,q3,q4⟩:=h'
    exact⟨dx',nm',wy',ps',by rw[un10 (no11 q1 h9 (by intro z;cases z))];exact sm _ _ q1,q2,q3,q4⟩
  ·rintro H9 ⟨as,has,s9,h9,E9⟩
   rw[List.length_map] at has E9
   rw[List.take_of_length_le (by rw[List.length_map,<-W.len];exact Nat.le_refl _)] at E9
   exact h D as H9 s9 hD h9 E9
end
end Ck
end
noncomputable section
namespace Ck
open PySem PySem.Spec PyProof.Rows L2
section
variable{P:Program}{w:World}{K:PySem.W.Frag}{mg:Str->Option Value}{base:Heap}{t:Adr}
def OsN(t:Adr)(H0 H:Hp)(os:List Fq.Opt)(a:Addr):Prop:=∃as:List Addr,H a=some (.lst (as.map V.ref))/\Ea (NewO t H0 H) as os
theorem OsN.os{H0 H:Hp}{os:List Fq.Opt}{a:Addr}(h:OsN t H0 H os a)(k:Same H0 H):OsI t H os a:=by
 obtain⟨as,h1,h2⟩:=h
 exact⟨as,h1,h2.mono fun x a h=>h.op k⟩
theorem NewO.same{H0 H H':Hp}{o:Fq.Opt}{a:Addr}(h:NewO t H0 H o a)(k:Same H H'):NewO t H0 H' o a:=by
 obtain⟨dx,nm,wy,ps,h1,h2,h3,h4⟩:=h
 exact⟨dx,nm,wy,ps,k _ _ h1,h2,h3,h4⟩
theorem OsN.same{H0 H H':Hp}{os:List Fq.Opt}{a:Addr}(h:OsN t H0 H os a)(k:Same H H'):OsN t H0 H' os a:=by
 obtain⟨as,h1,h2⟩:=h
 exact⟨as,k _ _ h1,h2.mono fun x a h=>h.same k⟩
theorem NewO.put{H0 H:Hp}{o:Fq.Opt}{a D:Addr}{xs ys:List V}(h:NewO t H0 H o a)(hD:H D=some (.lst xs)):NewO t H0 (upd H D (.lst ys)) o a:=by
 obtain⟨dx,nm,wy,ps,h1,h2,h3,h4⟩:=h
 exact⟨dx,nm,wy,ps,by rw[un10 (no11 h1 hD (by intro z;cases z))];exact h1,h2,h3,h4⟩
theorem OsN.put{H0 H:Hp}{os:List Fq.Opt}{a D:Addr}{xs ys:List V}(h:OsN t H0 H os a)(hD:H D=some (.lst xs))(ne:a≠D):OsN t H0 (upd H D (.lst ys)) os a:=by
 obtain⟨as,h1,h2⟩:=h
 exact⟨as,by rw[un10 ne];exact h1,h2.mono fun x a h=>h.put hD⟩
def tillO(N:Ra61.Net)(g:Nat)(m:Int)(s:Nat):List Fq.Opt:=if Ra61.isGoal g s=true then [] else (Ra61.choicesOf N s).map (Fq.optOf m)
def sp_till(K:PySem.W.Frag)(t:Adr):Sp:=fun vs H Q _=>∃(ml sl:Addr) (m:Int) (N:Ra61.Net) (g:Nat) (sas:List Addr),vs=[.ref ml,.ref sl,.int m]/\(m=0\/m = -1)/\SqL K H ml ((marksN N.length g).map V.int)/\SqL K H sl (sas.map V.ref)/\Ea (StP t H) sas N/\Fq.Good N /\
 ∀(D:Addr) (ls:List Addr) (H':Hp),Same H H'->H D=none->H' D=some (.lst (ls.map V.ref))->Ea (OsI t H') ls (Fq.till N g m)->Q (.ref D) H'
theorem marks_at{n g i:Nat}{v:V}(h:((marksN n g).map V.int)[i]? = some v):i<n/\v=.int (if Ra61.isGoal g i=true then 1 else 0):=by
 unfold marksN at h
 rw[List.getElem?_map,List.getElem?_map] at h
 by_cases hi:i<n
 ·rw[List.getElem?_range hi] at h
  cases h
  exact⟨hi,rfl⟩
 ·rw[List.getElem?_eq_none (by simpa using hi)] at h
  cases h
theorem oot(T:Txt K mg t):Ok P w K mg base 4 t.fot10 t.fot ["marks","states","times"] (sp_till K t):=by
 refine T.options_till.fn.okX sot (fun vs H Q E h=>?_) fun cdv A outer s H vs Q E hr h=>?_
 ·obtain⟨ml,sl,m,N,g,sas,rfl,_⟩:=h;rfl
 ·obtain⟨ml,sl,m,N,g,sas,rfl,hm,hml,hsl,W,G,h⟩:=h
  refine⟨_,po10 (pr10 (pl14 (own:=[("mark",3),("state",4)]) rfl sot.nd (pz (by rfl) T.b_zip (pc (pv 0)<|pc (pv 1) pn10)) (bb10 rfl)
   (fun _ _ _ _ _=>pg_two K (i:=3) (j:=4) rfl sot.nd rfl rfl (Or.inl rfl) (Or.inl rfl)) (fun _ _ _ _ _=>pn12)
   (fun _ _ _ _ _=>pi11 (pt_truK K (pv 3)) (pl12 pn10) (pf10 T.gains_taken (ogt T) hr rfl pass1 (pc (pf K (pv 4) rfl)<|pc (pv 2) pn10))))),?_⟩
  have nl:(marksN N.length g).length=N.length:=by unfold marksN;simp
  have hlen:((marksN N.length g).map V.int).length=(sas.map V.ref).length:=by rw[List.length_map,List.length_map,nl,W.len]
  refine⟨_,rfl,_,rfl,ml,sl,_,_,rfl,hml,hsl,fun D hD=>lc_zip (K:=K) (a:=ml) (b:=sl) (xs:=(marksN N.length g).map V.int) (ys:=sas.map V.ref) hlen
   (fun i H9=>∃ls:List Addr,ls.length=i/\Same H H9/\H9 D=some (.lst (ls.map V.ref))/\Ea (fun os a=>OsN t H H9 os a/\a≠D) ls ((Fq.till N g m).take i))
   ⟨[],rfl,su hD,us10,Ea.nil⟩ (fun i H9 _ ⟨_,_,e,_,_⟩=>⟨Same.seq e hml,Same.seq e hsl⟩) ?_ ?_⟩
  ·rintro i v u H9 T9 hi hj hT9 ⟨ls,hls,s9,h9,E9⟩
   obtain⟨hin,rfl⟩:=marks_at hi
   obtain⟨sa,ea,rfl⟩:=ra10 hj
   obtain⟨st,es,dx,nm,cl,cas,c1,c2,c3,c4⟩:=W.get ea
   have hu:∀{b o},H9 b=some o->(upd H9 T9 (.tup [.int (if Ra61.isGoal g i=true then 1 else 0),.ref sa])) b=some o:=fun {b o} e=>by rw[un10 (non10 e hT9)];exact e
   have tl:(Fq.till N g m)[i]? = some (tillO N g m i):=by
    unfold Fq.till;rw[List.getElem?_map,List.getElem?_range hin];rfl
   have lsl:ls.length<sizeLine:=by rw[sizeLine_eq];have:=G.len.2;omega
   refine gTwo.at us10 ⟨rfl,?_⟩
   have same1:Same H (upd H9 T9 (.tup [.int (if Ra61.isGoal g i=true then 1 else 0),.ref sa])):=fun b o e=>hu (s9 b o e)
   have fin:∀(z:Addr) (H4:Hp),Same (upd H9 T9 (.tup [.int (if Ra61.isGoal g i=true then 1 else 0),.ref sa])) H4->OsN t H H4 (tillO N g m i) z->z≠D->∃acc,H4 D=some (.lst acc)/\acc.length<sizeLine/\∃ls:List Addr,ls.length=i+1/\Same H (upd H4 D (.lst (acc++[V.ref z]))) /\
     (upd H4 D (.lst (acc++[V.ref z]))) D=some (.lst (ls.map V.ref))/\Ea (fun os a=>OsN t H (upd H4 D (.lst (acc++[V.ref z]))) os a/\a≠D) ls ((Fq.till N g m).take (i+1)):=fun z H4 k4 hz hne=>by
    have hD4:=k4 _ _ (hu h9)
    refine⟨ls.map V.ref,hD4,by rw[List.length_map];exact lsl,ls++[z],by simp[hls],fun b o e=>?_,by rw[us10,List.map_append];rfl,?_⟩
    ·rw[un10 (non10 e hD)]
     exact k4 _ _ (hu (s9 _ _ e))
    ·rw[ts10 tl]
     exact Ea.snoc (E9.mono fun x a h=>⟨(h.1.same fun b o e=>k4 _ _ (hu e)).put hD4 h.2,h.2⟩) ⟨hz.put hD4 hne,hne⟩
   by_cases hg:Ra61.isGoal g i=true
   ·refine⟨_,rfl,true,?_,?_⟩
    ·rw[if_pos hg];rfl
    ·refine brT rfl ?_
     refine⟨by simp,fun z hz=>fin z _ (su hz) ?_ (fun q=>by rw[q,hu h9] at hz;cases hz)⟩
     have e0:tillO N g m i=[]:=by unfold tillO;rw[if_pos hg]
     rw[e0]
     exact⟨[],us10,Ea.nil⟩
   ·refine⟨_,rfl,false,?_,?_⟩
    ·rw[if_neg hg];rfl
    ·have c3':Same H (upd H9 T9 (.tup [.int (if Ra61.isGoal g i=true then 1 else 0),.ref sa])):=same1
     have stm:=List.mem_of_getElem? es
     refine brF rfl ?_
     refine⟨_,rfl,sa,_,dx,_,_,rfl,same1 _ _ c1,T.kS.cl,T.nSc,sc12 _ _,_,rfl,H,cl,m,cas,st.choices.map rawO,rfl,same1,hm,.inl (.inl (same1 _ _ c3)),c4.map fun x a h=>h.op,by rw[c4.len];exact G.few st stm,?_⟩
     intro z as H4 k4 hz hz4 E4
     refine fin z H4 k4 ⟨as,hz4,?_⟩ (fun q=>by rw[q,hu h9] at hz;cases hz)
     have e0:tillO N g m i=(Ra61.choicesOf N i).map (Fq.optOf m):=by unfold tillO;rw[if_neg hg]
     rw[e0]
     have:(st.choices.map rawO).map (timesO m)=(Ra61.choicesOf N i).map (Fq.optOf m):=by
      rw[List.map_map]
      unfold Ra61.choicesOf
      rw[es];rfl
     rw[<-this]
     exact E4
  ·rintro H9 ⟨ls,hls,s9,h9,E9⟩
   rw[List.length_map,nl] at hls E9
   rw[List.take_of_length_le (by unfold Fq.till;simp)] at E9
   exact h D ls H9 s9 hD h9 (E9.mono fun x a h=>h.1.os s9)
end
end Ck
end
noncomputable section
namespace Ck
open PySem PySem.Spec PyProof.Rows L2
section
variable{P:Program}{w:World}{K:PySem.W.Frag}{mg:Str->Option Value}{base:Heap}{t:Adr}
def VaI(K:PySem.W.Frag)(t:Adr)(H:Hp)(va:Addr)(tops:List Int)(bot:Int):Prop:=∃dv tl,H va=some (.ins t.cV dv (vaF (.ref tl) (.int bot)))/\SqL K H tl (tops.map V.int)
theorem VaI.same{H H':Hp}{va:Addr}{tops:List Int}{bot:Int}(h:VaI K t H va tops bot)(k:Same H H'):VaI K t H' va tops bot:=by
 obtain⟨dv,tl,h1,h2⟩:=h
 exact⟨dv,tl,k _ _ h1,k.seq h2⟩
structure Small(o:Fq.Opt)(n:Nat):Prop where
 gain:-1000<=o.gain/\o.gain<=1000
 tot:0<o.tot/\o.tot<=16000000
 ways:o.ways.length<=16/\∀w∈o.ways,w.1<n/\w.2<=1000000
theorem Small.gt{o:Fq.Opt}{n:Nat}(S:Small o n):-(2^64)<o.gain*o.tot/\o.gain*o.tot<2^64:=by
 obtain⟨a,b⟩:=S.gain
 obtain⟨c,d⟩:=S.tot
 have h1:o.gain*o.tot<=1000*o.tot:=Int.mul_le_mul_of_nonneg_right b (by omega)
 have h2:(-1000)*o.tot<=o.gain*o.tot:=Int.mul_le_mul_of_nonneg_right a (by omega)
 constructor<;>omega
theorem atI_lt{α:Type}{xs:List α}{i:Nat}(h:i<xs.length):atI xs (i:Int)=xs[i]?:=by
 unfold atI ixN
 rw[if_pos (by omega),Int.toNat_natCast]
 by_cases q:i<xs.length
 ·simp[q]
 ·exact absurd h q
theorem wat0{a b:Int}:atI [V.int a,V.int b] 0=some (.int a):=rfl
theorem wat1{a b:Int}:atI [V.int a,V.int b] 1=some (.int b):=rfl
def sp_top_by(K:PySem.W.Frag)(t:Adr):Sp:=fun vs H Q _=>∃(sf:V) (c va:Addr) (o:Fq.Opt) (tops:List Int) (bot:Int),vs=[sf,.ref c,.ref va]/\OpI t H o c/\VaI K t H va tops bot/\Small o tops.length /\
 ∀H',Same H H'->Q (.int (o.top tops bot)) H'
theorem gi{tops:List Int}{i:Nat}(h:i<tops.length):atI (tops.map V.int) (i:Int)=some (.int (tops.getD i 0)):=by
 rw[atI_lt (by rw[List.length_map];exact h),List.getElem?_map,List.getElem?_eq_getElem h,List.getD_eq_getElem?_getD,List.getElem?_eq_getElem h]
 rfl
theorem ok_top_by(T:Txt K mg t):Ok P w K mg base 1 t.fQt10 t.fQt ["self","choice","values"] (sp_top_by K t):=by
 refine T.Quest_top_by.fn.okX sQt (fun vs H Q E h=>?_) fun cdv A outer s H vs Q E hr h=>?_
 ·obtain⟨sf,c,va,o,tops,bot,rfl,_⟩:=h;rfl
 ·obtain⟨sf,c,va,o,tops,bot,rfl,⟨dx,nm,wy,ps,c1,c2,c3,c4⟩,⟨dv,tl,v1,v2⟩,S,h⟩:=h
  refine⟨_,pc11 (ps10 (i:=3) sQt.nd rfl (Or.inl rfl) (pc12 (cr_sum rfl) (by rfl) T.b_sum bt_sum (pc
    (pl14 (own:=[("way",4)]) rfl sQt.nd (pl11 (pf K (pv 1) rfl)) (bb10 rfl) (fun _ _ _ _ _=>pn11 (i:=4) sQt.nd rfl (Or.inl rfl)) (fun _ _ _ _ _=>pn12)
     (fun _ _ _ _ _=>po11 om (pi10 (ixT K) (pv 4) pi (fun _ _=>rfl)) (pi10 (ixL K) (pf K (pv 2) rfl) (pi10 (ixT K) (pv 4) pi (fun _ _=>rfl)) (fun _ _=>rfl)))) pn10)))<|
   po10 (pr10 (po11 oa (po11 om (po11 om (pf K (pv 1) rfl) (pf K (pv 1) rfl)) (pf K (pv 2) rfl)) (pv 3))),?_⟩
  refine⟨_,rfl,c,_,dx,_,_,rfl,c1,T.kC.cl,T.nCw,cw _ _ _ _,wy,rfl,⟨_,SqL.of c3⟩,fun D hD=>ll10 (K:=K) (a:=wy) (xs:=ps.map V.ref) (fun i H9=>H9=upd H D (.lst (((o.ways.map fun w=>(w.2:Int)*tops.getD w.1 0).map V.int).take i))) rfl (fun i H9 _ e9=>by rw[e9];exact SqL.of (by rw[un10 (non10 c3 hD)];exact c3)) ?_ ?_⟩
  ·rintro i v H9 hi rfl
   obtain⟨pa,ea,rfl⟩:=ra10 hi
   obtain⟨wv,ew,hw⟩:=c4.get ea
   have hk:∀{b u},H b=some u->(upd H D (.lst (((o.ways.map fun w=>(w.2:Int)*tops.getD w.1 0).map V.int).take i))) b=some u:=fun {b u} e=>by rw[un10 (non10 e hD)];exact e
   have wm:=S.ways.2 wv (List.mem_of_getElem? ew)
   refine⟨rfl,?_⟩
   refine⟨_,rfl,pa,_,_,_,rfl,rfl,SqT.of (hk hw),wat1,_,rfl,va,_,dv,_,_,rfl,hk v1,T.kV10.cl,T.nVt,vt _ _,_,rfl,pa,_,_,_,rfl,rfl,SqT.of (hk hw),wat0,tl,_,_,_,rfl,rfl,Same.seq (fun b u e=>hk e) v2,gi wm.1,_,_,rfl,rfl,?_,_,us10,?_,?_⟩
   ·left;constructor<;>omega
   ·rw[List.length_take,sizeLine_eq];have:=S.ways.1;simp;omega
   ·rw[uu,ts10 (l:=(o.ways.map fun w=>(w.2:Int)*tops.getD w.1 0).map V.int) (x:=V.int ((wv.2:Int)*tops.getD wv.1 0)) (by rw[List.getElem?_map,List.getElem?_map,ew];rfl)]
  ·rintro H9 rfl
   rw[List.length_map,show ((o.ways.map fun w=>(w.2:Int)*tops.getD w.1 0).map V.int).take ps.length=(o.ways.map fun w=>(w.2:Int)*tops.getD w.1 0).map V.int from List.take_of_length_le (by rw[List.length_map,List.length_map,c4.len];exact Nat.le_refl _)]
   have sm:=su (o:=.lst ((o.ways.map fun w=>(w.2:Int)*tops.getD w.1 0).map V.int)) hD
   refine⟨D,_,rfl,SqL.of us10,?_⟩
   refine⟨_,rfl,c,_,dx,_,_,rfl,sm _ _ c1,T.kC.cl,T.nCg,cg _ _ _ _,_,rfl,c,_,dx,_,_,rfl,sm _ _ c1,T.kC.cl,T.nCt,ct10 _ _ _ _,_,_,rfl,rfl,?_,_,rfl,va,_,dv,_,_,rfl,sm _ _ v1,T.kV10.cl,T.nVb,vb _ _,_,_,rfl,rfl,?_,_,rfl,_,_,rfl,rfl,?_⟩
   ·have:=S.gain;left;constructor<;>omega
   ·exact .inl S.gt
   ·exact h _ sm
end
end Ck
end
noncomputable section
namespace Ck
open PySem PySem.Spec PyProof.Rows L2
section
variable{P:Program}{w:World}{K:PySem.W.Frag}{mg:Str->Option Value}{base:Heap}{t:Adr}
theorem quF_no{a b:V}{m:Str}(h1:(m==("options":Str))=false)(h2:(m==("ends":Str))=false):(quF a b).lookup m=none:=by
 unfold quF
 rw[lp10,if_neg (fun z=>by rw[z] at h2;exact absurd h2 (by decide)),lp10,if_neg (fun z=>by rw[z] at h1;exact absurd h1 (by decide))]
 rfl
def QuI(t:Adr)(H:Hp)(q ol:Addr):Prop:=∃dq en,H q=some (.ins t.cQ dq (quF (.ref ol) en))
theorem QuI.same{H H':Hp}{q ol:Addr}(h:QuI t H q ol)(k:Same H H'):QuI t H' q ol:=by
 obtain⟨dq,en,h⟩:=h
 exact⟨dq,en,k _ _ h⟩
def sp_better(K:PySem.W.Frag)(t:Adr):Sp:=fun vs H Q _=>∃(q ol a b va:Addr) (o p:Fq.Opt) (tops:List Int) (bot:Int),vs=[.ref q,.ref a,.ref b,.ref va]/\QuI t H q ol/\OpI t H o a/\OpI t H p b/\VaI K t H va tops bot/\Small o tops.length/\Small p tops.length /\
 ∀H',Same H H'->Q (.bl (o.better p tops bot)) H'
theorem ok_is_better(T:Txt K mg t):Ok P w K mg base 2 t.fQi10 t.fQi ["self","choice","other","values"] (sp_better K t):=by
 refine T.Quest_is_better.fn.okX sQi10 (fun vs H Q E h=>?_) fun cdv A outer s H vs Q E hr h=>?_
 ·obtain⟨q,ol,a,b,va,o,p,tops,bot,rfl,_⟩:=h;rfl
 ·obtain⟨q,ol,a,b,va,o,p,tops,bot,rfl,hq,ho,hp,hv,So,Sp_,h⟩:=h
  refine⟨_,po10 (pr10 (pc14 op_gt (po11 om (pc_me T.kQ T.Quest_top_by (ok_top_by T) hr pass1 (pv 0) (pc (pv 1)<|pc (pv 3) pn10)) (pf K (pv 2) rfl)) (po11 om (pc_me T.kQ T.Quest_top_by (ok_top_by T) hr pass1 (pv 0) (pc (pv 2)<|pc (pv 3) pn10)) (pf K (pv 1) rfl)) (nomark _))),?_⟩
  obtain⟨dq,en,q1⟩:=id hq
  refine⟨_,rfl,q,dq,_,rfl,q1,quF_no (by decide) (by decide),_,rfl,_,rfl,.ref q,a,va,o,tops,bot,rfl,ho,hv,So,fun H1 k1=>?_⟩
  obtain⟨dx,nm,wy,ps,b1,b2,b3,b4⟩:=hp.same k1
  refine⟨_,rfl,b,_,dx,_,_,rfl,b1,T.kC.cl,T.nCt,ct10 _ _ _ _,_,_,rfl,rfl,?_,?_⟩
  ·have:=Sp_.tot;right;constructor<;>omega
  refine⟨_,rfl,q,dq,_,rfl,k1 _ _ q1,quF_no (by decide) (by decide),_,rfl,_,rfl,.ref q,b,va,p,tops,bot,rfl,hp.same k1,hv.same k1,Sp_,fun H2 k2=>?_⟩
  obtain⟨dx,nm,wy,ps,a1,a2,a3,a4⟩:=(ho.same k1).same k2
  refine⟨_,rfl,a,_,dx,_,_,rfl,a1,T.kC.cl,T.nCt,ct10 _ _ _ _,_,_,rfl,rfl,?_,?_⟩
  ·have:=So.tot;right;constructor<;>omega
  exact⟨_,_,rfl,rfl,h _ (k1.trans k2)⟩
end
end Ck
end
noncomputable section
namespace Ck
open PySem PySem.Spec PyProof.Rows L2
section
variable{P:Program}{w:World}{K:PySem.W.Frag}{mg:Str->Option Value}{base:Heap}{t:Adr}
def pk(os:List Fq.Opt)(tops:List Int)(bot:Int)(b:Nat):Nat->Nat
 |0=>b
 |j+1=>if ((os.getD j Fq.none0).better (os.getD (pk os tops bot b j) Fq.none0) tops bot)=true then j else pk os tops bot b j
theorem pk_from{os:List Fq.Opt}{tops:List Int}{bot:Int}{b:Nat}:∀(k j:Nat),j+k=os.length->Fq.pickFrom os tops bot j (os.drop j) (pk os tops bot b j)=pk os tops bot b os.length
 |0,j,h=>by
  have:j=os.length:=by omega
  subst this
  rw[List.drop_length];rfl
 |k+1,j,h=>by
  have hj:j<os.length:=by omega
  rw[List.drop_eq_getElem_cons hj]
  have e:os.getD j Fq.none0=os[j]:=by rw[List.getD_eq_getElem?_getD,List.getElem?_eq_getElem hj];rfl
  show Fq.pickFrom os tops bot (j+1) (os.drop (j+1)) (if os[j].better (os.getD (pk os tops bot b j) Fq.none0) tops bot=true then j else pk os tops bot b j)=_
  rw[<-e]
  exact pk_from k (j+1) (by omega)
theorem pk_pick{os:List Fq.Opt}{tops:List Int}{bot:Int}{b:Nat}:Fq.pick os tops bot b=pk os tops bot b os.length:=by
 have:=pk_from (os:=os) (tops:=tops) (bot:=bot) (b:=b) os.length 0 (by omega)
 rw[List.drop_zero] at this
 exact this
theorem pk_lt{os:List Fq.Opt}{tops:List Int}{bot:Int}{b:Nat}(hb:b<os.length):∀j,j<=os.length->pk os tops bot b j<os.length
 |0,_=>hb
 |j+1,h=>by
  unfold pk
  split
  ·omega
  ·exact pk_lt hb j (by omega)
def sp_improved(K:PySem.W.Frag)(t:Adr):Sp:=fun vs H Q _=>∃(q ol pl va:Addr) (ls:List Addr) (opts:List (List Fq.Opt)) (plan tops:List Int) (bot:Int),vs=[.ref q,.ref pl,.ref va]/\QuI t H q ol/\H ol=some (.lst (ls.map V.ref))/\Ea (OsI t H) ls opts /\
 SqL K H pl (plan.map V.int)/\VaI K t H va tops bot/\(∀os∈opts,os.length<=8/\∀o∈os,Small o tops.length)/\opts.length<=16/\La.Fits opts opts.length plan /\
 ∀D H',Same H H'->H D=none->H' D=some (.lst ((La.betterM opts opts.length plan tops bot).map V.int))->Q (.ref D) H'
theorem ok_improved(T:Txt K mg t):Ok P w K mg base 3 t.fQi12 t.fQi11 ["self","plan","values"] (sp_improved K t):=by
 refine T.Quest_improved.fn.okX sQi (fun vs H Q E h=>?_) fun cdv A outer s H vs Q E hr h=>?_
 ·obtain⟨q,ol,pl,va,ls,opts,plan,tops,bot,rfl,_⟩:=h;rfl
 ·obtain⟨q,ol,pl,va,ls,opts,plan,tops,bot,rfl,hq,hol,W,hpl,hv,S,hn,F,h⟩:=h
  refine⟨_,pc11 (ps10 (i:=3) sQi.nd rfl (Or.inl rfl) (pc16 clo (by rfl) T.b_list bt_list (pc (pv 1) pn10)))<|
   pc11 (pf14 po12 rfl (pi_enum (by rfl) T.be (pc (pf K (pv 0) rfl) pn10)) (pg_two K (i:=4) (j:=5) rfl sQi.nd rfl rfl (Or.inl rfl) (Or.inl rfl))
    (po10 (pf14 po12 rfl (pi_enum (by rfl) T.be (pc (pv 5) pn10)) (pg_two K (i:=6) (j:=7) rfl sQi.nd rfl rfl (Or.inl rfl) (Or.inl rfl))
     (po10 (ps_if (pv10 (pc_me T.kQ T.Quest_is_better (ok_is_better T) hr pass1 (pv 0) (pc (pv 7)<|pc (pi10 (ixL K) (pv 5) (pi10 (ixL K) (pv 3) (pv 4) (fun _ _=>rfl)) (fun _ _=>rfl))<|pc (pv 2) pn10)))
      (po10 (ps_asg (pv 6) (pg_sub (pv 3) (pv 4) sl11))) pn13)))))<|
   po10 (pr10 (pv 3)),?_⟩
  refine⟨_,rfl,pl,_,rfl,.inl hpl,fun D hD=>?_⟩
  have s0:=su (o:=.lst (plan.map V.int)) hD
  obtain⟨dq,en,q1⟩:=id hq
  refine⟨_,rfl,q,_,dq,_,_,rfl,s0 _ _ q1,T.kQ.cl,T.nQo,qo10 _ _,ol,_,rfl,SqL.of (s0 _ _ hol),?_⟩
  have bl:(La.betterM opts opts.length plan tops bot).length=opts.length:=by simp[La.betterM]
  have pll:plan.length=opts.length:=F.len
  refine fe (K:=K) (a:=ol) (xs:=ls.map V.ref) (fun i σ H9=>∃v4 v5 v6 v7,σ=[some (.ref q),some (.ref pl),some (.ref va),some (.ref D),v4,v5,v6,v7]/\Same H H9/\H9 D=some (.lst (((La.betterM opts opts.length plan tops bot).take i++plan.drop i).map V.int)))
   ⟨none,none,none,none,rfl,s0,by rw[List.take_zero,List.drop_zero,List.nil_append];exact us10⟩ (fun i σ H9 _ ⟨_,_,_,_,_,e,_⟩=>SqL.of (e _ _ hol)) ?_ ?_
  ·rintro i x σ H9 T9 hi hT9 ⟨v4,v5,v6,v7,rfl,s9,h9⟩
   obtain⟨l,el,rfl⟩:=ra10 hi
   obtain⟨os,eo,as,l1,l2⟩:=W.get el
   have hin:i<opts.length:=(List.getElem?_eq_some_iff.mp eo).1
   have go:opts.getD i []=os:=by rw[List.getD_eq_getElem?_getD,eo];rfl
   obtain⟨o8,So⟩:=S os (List.mem_of_getElem? eo)
   have s9':Same H9 (upd H9 T9 (.tup [.int (i:Nat),.ref l])):=su hT9
   have gp:plan.drop i=plan.getD i 0::plan.drop (i+1):=by
    rw[List.drop_eq_getElem_cons (by omega),List.getD_eq_getElem?_getD,List.getElem?_eq_getElem (by omega)];rfl
   let cur:Nat->Int:=fun j=>if os.length=0 then plan.getD i 0 else ((pk os tops bot (plan.getD i 0).toNat j:Nat):Int)
   let row:Int->List V:=fun x=>((La.betterM opts opts.length plan tops bot).take i++x::plan.drop (i+1)).map V.int
   have til:((La.betterM opts opts.length plan tops bot).take i).length=i:=by rw[List.length_take,bl];omega
   have c0:cur 0=plan.getD i 0:=by
    show (if os.length=0 then plan.getD i 0 else ((plan.getD i 0).toNat:Int))=_
    split
    ·rfl
    ·rename_i ne
     have:=(F.at_ i hin (by rw[go];exact ne)).1
     omega
   have rowAt:∀x,atI (row x) (i:Int)=some (.int x):=fun x=>an10 (by
    show (((La.betterM opts opts.length plan tops bot).take i++x::plan.drop (i+1)).map V.int)[i]? = _
    rw[List.getElem?_map,List.getElem?_append_right (by omega),til,Nat.sub_self];rfl)
   have rowLen:∀x,(row x).length=opts.length:=fun x=>by
    show (((La.betterM opts opts.length plan tops bot).take i++x::plan.drop (i+1)).map V.int).length=_
    rw[List.length_map,List.length_append,til,List.length_cons,List.length_drop];omega
   have rowSet:∀x y,(row x).set i (.int y)=row y:=fun x y=>by
    show (((La.betterM opts opts.length plan tops bot).take i++x::plan.drop (i+1)).map V.int).set i (V.int y)=_
    rw[<-List.map_set,List.set_append_right _ _ (by omega),til,Nat.sub_self];rfl
   refine gTwo.at us10 ?_
   refine⟨_,rfl,l,_,rfl,SqL.of (s9' _ _ (s9 _ _ l1)),?_⟩
   refine fe (K:=K) (a:=l) (xs:=as.map V.ref) (fun j σ H8=>∃v6 v7,σ=[some (.ref q),some (.ref pl),some (.ref va),some (.ref D),some (.int (i:Nat)),some (.ref l),v6,v7]/\Same H H8/\H8 D=some (.lst (row (cur j))))
    ⟨v6,v7,rfl,s9.trans s9',by rw[c0];rw[gp] at h9;exact s9' _ _ h9⟩ (fun j σ H8 _ ⟨_,_,_,e,_⟩=>SqL.of (e _ _ l1)) ?_ ?_
   ·rintro j x σ H8 T8 hj hT8 ⟨w6,w7,rfl,s8,h8⟩
    obtain⟨a,ea,rfl⟩:=ra10 hj
    obtain⟨o,eo2,ho⟩:=l2.get ea
    have hjl:j<os.length:=(List.getElem?_eq_some_iff.mp eo2).1
    have ne:os.length≠0:=by omega
    have goj:os.getD j Fq.none0=o:=by rw[List.getD_eq_getElem?_getD,eo2];rfl
    have fit:=F.at_ i hin (by rw[go];exact ne)
    rw[go] at fit
    have pl_:=pk_lt (tops:=tops) (bot:=bot) fit.2 j (by omega)
    have cj:cur j=((pk os tops bot (plan.getD i 0).toNat j:Nat):Int):=if_neg ne
    obtain⟨b,eb,hb⟩:=l2.at_ _ _ (List.getElem?_eq_getElem pl_)
    have gob:os.getD (pk os tops bot (plan.getD i 0).toNat j) Fq.none0=os[pk os tops bot (plan.getD i 0).toNat j]:=by rw[List.getD_eq_getElem?_getD,List.getElem?_eq_getElem pl_];rfl
    have s8':Same H8 (upd H8 T8 (.tup [.int (j:Nat),.ref a])):=su hT8
    have sH:=s8.trans s8'
    have h8':=s8' _ _ h8
    refine gTwo.at us10 ?_
    refine⟨_,rfl,q,dq,_,rfl,sH _ _ q1,quF_no (by decide) (by decide),_,rfl,_,rfl,_,rfl,_,rfl,D,_,_,_,rfl,rfl,SqL.of h8',rowAt _,l,_,_,.ref b,rfl,rfl,SqL.of (sH _ _ l1),?_,_,rfl,q,ol,a,b,va,o,os[pk os tops bot (plan.getD i 0).toNat j],tops,bot,rfl,hq.same sH,ho.same sH,hb.same sH,hv.same sH,So o (List.mem_of_getElem? eo2),So _ (List.getElem_mem pl_),fun H7 k7=>⟨_,rfl,?_⟩⟩
    ·rw[cj]
     exact an10 (by rw[List.getElem?_map,eb];rfl)
    ·have h7:=k7 _ _ h8'
     by_cases c:o.better os[pk os tops bot (plan.getD i 0).toNat j] tops bot=true
     ·refine brT c ?_
      have e1:cur (j+1)=(j:Int):=by
       show (if os.length=0 then plan.getD i 0 else ((pk os tops bot (plan.getD i 0).toNat (j+1):Nat):Int))=_
       rw[if_neg ne]
       show (((if (os.getD j Fq.none0).better (os.getD (pk os tops bot (plan.getD i 0).toNat j) Fq.none0) tops bot=true then j else _):Nat):Int)=_
       rw[goj,gob,if_pos c]
      refine⟨_,rfl,_,rfl,_,rfl,D,_,(i:Int),i,rfl,rfl,h7,?_,?_⟩
      ·unfold ixN
       rw[rowLen,if_pos (by omega),if_pos (by omega),Int.toNat_natCast]
      ·refine⟨_,_,rfl,fun b' u' e'=>?_,?_⟩
       ·rw[un10 (non10 e' hD)]
        exact k7 _ _ (sH _ _ e')
       ·rw[us10,rowSet,e1]
     ·have c':o.better os[pk os tops bot (plan.getD i 0).toNat j] tops bot=false:=by simpa using c
      refine brF c' ?_
      have e1:cur (j+1)=cur j:=by
       rw[cj]
       show (if os.length=0 then plan.getD i 0 else ((pk os tops bot (plan.getD i 0).toNat (j+1):Nat):Int))=_
       rw[if_neg ne]
       show (((if (os.getD j Fq.none0).better (os.getD (pk os tops bot (plan.getD i 0).toNat j) Fq.none0) tops bot=true then j else _):Nat):Int)=_
       rw[goj,gob,if_neg c]
      exact⟨_,_,rfl,sH.trans k7,by rw[e1];exact h7⟩
   ·rintro σ H8 ⟨w6,w7,rfl,s8,h8⟩
    refine⟨_,_,_,_,rfl,s8,?_⟩
    rw[List.length_map,l2.len] at h8
    rw[h8]
    have bi:(La.betterM opts opts.length plan tops bot)[i]? = some (cur os.length):=by
     unfold La.betterM
     rw[List.getElem?_map,List.getElem?_range hin]
     show some (if (opts.getD i []).length=0 then plan.getD i 0 else ((Fq.pick (opts.getD i []) tops bot (plan.getD i 0).toNat:Nat):Int))=some (if os.length=0 then plan.getD i 0 else ((pk os tops bot (plan.getD i 0).toNat os.length:Nat):Int))
     rw[go,pk_pick]
    rw[ts10 bi,List.append_assoc];rfl
  ·rintro σ H9 ⟨v4,v5,v6,v7,rfl,s9,h9⟩
   rw[List.length_map,W.len,List.take_of_length_le (by rw[bl];exact Nat.le_refl _),List.drop_of_length_le (by rw[pll];exact Nat.le_refl _),List.append_nil] at h9
   exact⟨_,rfl,h D H9 s9 hD h9⟩
end
end Ck
end
noncomputable section
namespace Ck
open PySem PySem.Spec PyProof.Rows L2
section
variable{P:Program}{w:World}{K:PySem.W.Frag}{mg:Str->Option Value}{base:Heap}{t:Adr}
structure Sized(tops:List Int)(bot:Int)(B:Nat):Prop where
 tops:∀x∈tops,x.natAbs<2^B
 bot:bot.natAbs<2^B
 B:B<=1000000
end
end Ck
end
noncomputable section
namespace Ck
open PySem PySem.Spec PyProof.Rows L2
section
variable{P:Program}{w:World}{K:PySem.W.Frag}{mg:Str->Option Value}{base:Heap}{t:Adr}
theorem dig_char:∀d,d<10->(Nat.digitChar d).toNat=48+d
 |0,_ | 1,_ | 2,_ | 3,_ | 4,_ | 5,_ | 6,_ | 7,_ | 8,_ | 9,_=>rfl
 |n+10,h=>by omega
theorem ds10{n:Nat}(h:n<10):Ra61.decimal n=[48+n]:=by
 unfold Ra61.decimal
 rw[Nat.toDigits_of_lt_base h]
 simp[dig_char n h]
theorem dec_big{n:Nat}(h:10<=n):Ra61.decimal n=Ra61.decimal (n/10)++[48+n%10]:=by
 unfold Ra61.decimal
 rw[Nat.toDigits_of_base_le (by decide) h,List.map_append]
 simp[dig_char (n%10) (by omega)]
def bigL:Nat:=2^2000000
def sp_digits(K:PySem.W.Frag):Sp:=fun vs H Q _=>∃n:Nat,vs=[.int (n:Int)]/\n<bigL/\∀D H',Same H H'->H D=none->H' D=some (.lst (byts (Ra61.decimal n)))->Q (.ref D) H'
theorem odo(T:Txt K mg t):Ok P w K mg base 1 t.f_digits_of t.fdo ["number"] (sp_digits K):=by
 refine T.digits_of.fn.okX sdo (fun vs H Q E h=>?_) fun cdv A outer s H vs Q E hr h=>?_
 ·obtain⟨n,rfl,_⟩:=h;rfl
 ·obtain⟨n,rfl,hn,h⟩:=h
  refine⟨_,pc11 (ps10 (i:=1) sdo.nd rfl (Or.inl rfl) (pl12 (pc (po11 oa (pg10 T.g_ZERO rfl) (po11 op_mod (pv 0) pi)) pn10)))<|
   pc11 (pw10 po12 (pc13 op_ge (pv 0) pi (nomark _))
    (pc11 (ps_aug (i:=0) sdo.nd rfl (Or.inl rfl) pi iop_fdiv)<|
      po10 (pe10 (pb PySem.F.plainAttrs_list PySem.F.slot_list_append PySem.F.type_list_append ma (pv 1) (pc (po11 oa (pg10 T.g_ZERO rfl) (po11 op_mod (pv 0) pi)) pn10)))))<|
   po10 (pr10 (pe_listRev rfl (by rfl) T.b_list (by rfl) T.b_reversed (pv 1))),?_⟩
  refine⟨_,rfl,_,_,rfl,rfl,(show (0:Int)<10 by decide),_,_,rfl,rfl,by rw[sizeLine_eq];simp,fun D hD=>?_⟩
  have k0:=su (o:=.lst [V.int (48+(n:Int)%10)]) hD
  refine⟨fun m σ H'=>∃(x:Nat) (ds:List Nat),σ=[some (.int (x:Int)),some (.ref D)]/\Same H H'/\H' D=some (.lst (byts ds))/\Ra61.decimal n=(if 10<=x then Ra61.decimal (x/10) else [])++ds.reverse/\x*10^(ds.length-1)<=n/\1<=ds.length/\x=m,
   ⟨_,n,[48+n%10],rfl,k0,?_,?_,?_,?_,rfl⟩,?_⟩
  ·rw[us10]
   have e:(48:Int)+(n:Int)%10=((48+n%10:Nat):Int):=by push_cast;rfl
   show some (HO.lst [V.int (48+(n:Int)%10)])=_
   rw[e];rfl
  ·by_cases h10:10<=n
   ·rw[if_pos h10,dec_big h10];rfl
   ·rw[if_neg h10,ds10 (by omega),Nat.mod_eq_of_lt (by omega)];rfl
  ·simp
  ·simp
  ·rintro m σ H' ⟨x,ds,rfl,k1,h1,inv,big,one,rfl⟩
   refine⟨_,rfl,_,_,rfl,rfl,_,rfl,?_⟩
   by_cases h10:10<=x
   ·refine brT (by rw[decide_eq_true_eq];omega) ⟨fun σ H2=>∃(ds:List Nat),σ=[some (.int ((x/10:Nat):Int)),some (.ref D)]/\Same H H2/\H2 D=some (.lst (byts ds))/\Ra61.decimal n=(if 10<=x/10 then Ra61.decimal (x/10/10) else [])++ds.reverse/\(x/10)*10^(ds.length-1)<=n/\1<=ds.length,?_,?_⟩
    ·rintro σ2 H2 ⟨ds2,rfl,a1,a2,a3,a4,a5⟩
     exact⟨x/10,by omega,x/10,ds2,rfl,a1,a2,a3,a4,a5,rfl⟩
    ·refine⟨_,rfl,_,_,rfl,rfl,⟨by decide,by decide⟩,?_⟩
     have pw:2^(ds.length-1)<=10^(ds.length-1):=Nat.pow_le_pow_left (by decide) _
     have pw2:10^(ds.length-1)<=x*10^(ds.length-1):=Nat.le_mul_of_pos_left _ (by omega)
     have ln:ds.length-1<2000000:=by
      have:2^(ds.length-1)<2^2000000:=Nat.lt_of_le_of_lt (Nat.le_trans pw (Nat.le_trans pw2 big)) (show n<2^2000000 from hn)
      exact (Nat.pow_lt_pow_iff_right (by decide)).mp this
     refine⟨_,rfl,.inl ⟨rfl,_,SqL.of h1⟩,_,rfl,_,_,rfl,rfl,(show (0:Int)<10 by decide),_,_,rfl,rfl,D,_,_,rfl,rfl,h1,by rw[bl10,sizeLine_eq];omega,?_⟩
     refine⟨ds++[48+x/10%10],rfl,fun b u e=>?_,?_,?_,?_,by simp⟩
     ·rw[un10 (non10 e hD)];exact k1 _ _ e
     ·rw[us10]
      have e:(48:Int)+(x:Int)/10%10=((48+x/10%10:Nat):Int):=by push_cast;rfl
      show some (HO.lst (byts ds++[V.int (48+(x:Int)/10%10)]))=_
      rw[e];unfold byts;rw[List.map_append];rfl
     ·rw[inv,if_pos h10,List.reverse_append]
      by_cases q:10<=x/10
      ·rw[if_pos q,dec_big q];simp
      ·rw[if_neg q,ds10 (by omega),Nat.mod_eq_of_lt (show x/10<10 by omega)];simp
     ·rw[List.length_append]
      show x/10*10^(ds.length+1-1)<=n
      have e1:ds.length+1-1=ds.length-1+1:=by omega
      rw[e1,Nat.pow_succ,<-Nat.mul_assoc,Nat.mul_right_comm]
      refine Nat.le_trans (Nat.mul_le_mul_right _ ?_) big
      omega
   ·refine brF (by rw[decide_eq_false_iff_not];omega) ?_
    refine⟨_,rfl,D,_,rfl,SqL.of h1,fun D2 hD2=>?_⟩
    have k2:=su (o:=.lst (byts ds).reverse) hD2
    refine h D2 _ (k1.trans k2) (k1.free hD2) ?_
    rw[us10,inv,if_neg h10,List.nil_append]
    unfold byts;rw[List.map_reverse]
end
end Ck
end
noncomputable section
namespace Ck
open PySem PySem.Spec PyProof.Rows L2
section
variable{P:Program}{w:World}{K:PySem.W.Frag}{mg:Str->Option Value}{base:Heap}{t:Adr}
def sp_frac(K:PySem.W.Frag):Sp:=fun vs H Q _=>∃(z:Int) (d:Nat),vs=[.int z,.int (d:Int)]/\0<d/\z.natAbs<bigL/\d<bigL/\∀D H',Same H H'->H D=none->H' D=some (.lst (byts (Ra61.frac z d)))->Q (.ref D) H'
theorem dec_pow:∀n:Nat,n≠0->10^((Ra61.decimal n).length-1)<=n/\1<=(Ra61.decimal n).length:=by
 intro n
 induction n using Nat.strongRecOn with
 |_ n ih=>
  intro h0
  by_cases h:10<=n
  ·obtain⟨a,b⟩:=ih (n/10) (by omega) (by omega)
   rw[dec_big h,List.length_append]
   refine⟨?_,by simp⟩
   show 10^((Ra61.decimal (n/10)).length+1-1)<=n
   have e:(Ra61.decimal (n/10)).length+1-1=(Ra61.decimal (n/10)).length-1+1:=by omega
   rw[e,Nat.pow_succ]
   have:=Nat.mul_le_mul_right 10 a
   omega
  ·rw[ds10 (by omega)]
   exact⟨by show 1<=n;omega,by simp⟩
theorem dec_len{n:Nat}(h:n<bigL):(Ra61.decimal n).length<=2000001:=by
 by_cases h0:n=0
 ·subst h0;decide
 ·obtain⟨a,b⟩:=dec_pow n h0
  have p1:2^((Ra61.decimal n).length-1)<=10^((Ra61.decimal n).length-1):=Nat.pow_le_pow_left (by decide) _
  have p2:2^((Ra61.decimal n).length-1)<2^2000000:=Nat.lt_of_le_of_lt (Nat.le_trans p1 a) (show n<2^2000000 from h)
  have:=(Nat.pow_lt_pow_iff_right (by decide)).mp p2
  omega
theorem bt_abs:bootBuiltins "abs" = some (.builtin "abs"):=by decide +kernel
theorem oft(T:Txt K mg t)(hN:base.NoSeer)(hP:P.given.tree=none):Ok P w K mg base 36 t.fft t.fft10 ["top","bottom"] (sp_frac K):=by
 refine T.fraction_told.fn.okX sft (fun vs H Q E h=>?_) fun cdv A outer s H vs Q E hr h=>?_
 ·obtain⟨z,d,rfl,_⟩:=h;rfl
 ·have hdeep:(A.deeper (envOfC "fraction_told" (defScope dft) s.heap.objs.size t.fft cdv)).depth+Builtin.pylongFrames<recursionLimit:=by
   have:=hr.dp
   show _+100<_
   omega
  obtain⟨z,d,rfl,hd,hz,hd2,h⟩:=h
  have hr1:=hr.mono (show 1<=35 by decide)
  refine⟨_,pc11 (ps10 (i:=2) sft.nd rfl (Or.inl rfl) (pf10 T.common_divisor (ocd T) hr1 rfl pass1 (pc (pv 0)<|pc (pv 1) pn10)))<|
   pc11 (ps10 (i:=3) sft.nd rfl (Or.inl rfl) (pf10 T.digits_of (odo T) hr1 rfl pass1 (pc (po11 (op_fdivL hN hP rfl rfl rfl hdeep) (pc12 call_abs (by rfl) T.b_abs bt_abs (pc (pv 0) pn10)) (pv 2)) pn10)))<|
   pc11 (ps_if (pc13 op_ne (pv 1) (pv 2) (nomark _))
    (po10 (ps10 (i:=3) sft.nd rfl (Or.inl rfl) (po11 op_cat (po11 op_cat (pv 3) (pl12 (pc (pg10 T.g_SLASH rfl) pn10))) (pf10 T.digits_of (odo T) hr1 rfl pass1 (pc (po11 (op_fdivL hN hP rfl rfl rfl hdeep) (pv 1) (pv 2)) pn10))))) pn13)<|
   po10 (pr10 (pi11 (pc13 op_lt (pv 0) pi (nomark _)) (po11 op_cat (pl12 (pc (pg10 T.g_MINUS rfl) pn10)) (pv 3)) (pv 3))),?_⟩
  have g0:0<Nat.gcd z.natAbs d:=Nat.gcd_pos_of_pos_right _ hd
  have eg:(Int.gcd z (d:Int):Nat)=Nat.gcd z.natAbs d:=rfl
  refine⟨_,rfl,_,rfl,z,(d:Int),rfl,by omega,?_⟩
  have gd:Nat.gcd z.natAbs d ∣ d:=Nat.gcd_dvd_right _ _
  have ea:(if z<0 then -z else z)/((Nat.gcd z.natAbs d:Nat):Int)=((z.natAbs/Nat.gcd z.natAbs d:Nat):Int):=by
   rw[show (if z<0 then -z else z)=(z.natAbs:Int) by split<;>omega]
   push_cast;rfl
  have l1:z.natAbs/Nat.gcd z.natAbs d<bigL:=Nat.lt_of_le_of_lt (Nat.div_le_self _ _) hz
  have l2:d/Nat.gcd z.natAbs d<bigL:=Nat.lt_of_le_of_lt (Nat.div_le_self _ _) hd2
  have ln1:=dec_len l1
  have ln2:=dec_len l2
  refine⟨_,rfl,z,rfl,_,rfl,_,_,rfl,rfl,(show (0:Int)<((Nat.gcd z.natAbs d:Nat):Int) by omega),z.natAbs/Nat.gcd z.natAbs d,?_,l1,fun D1 H1 k1 hD1 h1=>?_⟩
  ·show [V.int ((if z<0 then -z else z)/((Nat.gcd z.natAbs d:Nat):Int))]=_
   rw[ea]
  have fin:∀(D:Addr) (H2:Hp) (bs:List Nat) (v:V),Same H H2->H D=none->H2 D=some (.lst (byts bs))->bs.length<=5000000->Ra61.frac z d=(if z<0 then [45] else [])++bs ->
    tRet (tIf (tTest (tOp (rI0 fun i j=>V.bl (decide (i<j))) (tVar 0) (tC (V.int 0)))) (tOp rCat (tLst (tCons (tC (V.int 45)) tNil)) (tVar 3)) (tVar 3)) { nx:=fun x H'=>Q V.non H',rt:=Q } [some (.int z),some (.int (d:Int)),some v,some (.ref D)] H2:=by
   intro D H2 bs v k2 hD h2 hb e
   refine⟨_,rfl,_,_,rfl,rfl,_,rfl,?_⟩
   by_cases hn:z<0
   ·refine brT (decide_eq_true hn) ?_
    refine⟨by rw[sizeLine_eq];simp,fun D3 hD3=>?_⟩
    have k3:=su (o:=.lst [V.int 45]) hD3
    refine⟨_,rfl,D3,D,_,_,rfl,rfl,us10,k3 _ _ h2,by rw[bl10,sizeLine_eq];simp;omega,fun D4 hD4=>?_⟩
    have k4:=su (o:=.lst ([V.int 45]++byts bs)) hD4
    refine h D4 _ ((k2.trans k3).trans k4) ((k2.trans k3).free hD4) ?_
    rw[us10,e,if_pos hn];rfl
   ·refine brF (decide_eq_false hn) ?_
    refine⟨_,rfl,h D H2 k2 hD ?_⟩
    rw[h2,e,if_neg hn];rfl
  by_cases hq:d=Nat.gcd z.natAbs d
  ·refine⟨_,rfl,_,rfl,rfl,_,rfl,brF ?_ ?_⟩
   ·rw[di]
    simp[eg,<-hq]
   ·refine fin D1 H1 _ _ k1 hD1 h1 (by omega) ?_
    unfold Ra61.frac
    dsimp only
    rw[if_pos (show d/Nat.gcd z.natAbs d=1 by rw[<-hq];exact Nat.div_self hd),List.append_nil]
  ·refine⟨_,rfl,_,rfl,rfl,_,rfl,brT ?_ ?_⟩
   ·rw[di]
    simp[eg];omega
   ·have ed:(d:Int)/((Nat.gcd z.natAbs d:Nat):Int)=((d/Nat.gcd z.natAbs d:Nat):Int):=by push_cast;rfl
    refine⟨_,rfl,by rw[sizeLine_eq];simp,fun D2 hD2=>?_⟩
    have k2:=su (o:=.lst [V.int 47]) hD2
    refine⟨D1,D2,_,_,rfl,rfl,k2 _ _ h1,us10,by rw[bl10,sizeLine_eq];simp;omega,fun D3 hD3=>?_⟩
    have k3:=su (o:=.lst (byts (Ra61.decimal (z.natAbs/Nat.gcd z.natAbs d))++[V.int 47])) hD3
    refine⟨_,rfl,_,rfl,_,_,rfl,rfl,(show (0:Int)<((Nat.gcd z.natAbs d:Nat):Int) by omega),d/Nat.gcd z.natAbs d,?_,l2,fun D4 H4 k4 hD4 h4=>?_⟩
    ·show [V.int ((d:Int)/((Nat.gcd z.natAbs d:Nat):Int))]=_
     rw[ed]
    ·refine⟨D3,D4,_,_,rfl,rfl,k4 _ _ us10,h4,by rw[List.length_append,bl10,bl10,sizeLine_eq];simp;omega,fun D5 hD5=>?_⟩
     have k5:=su (o:=.lst (byts (Ra61.decimal (z.natAbs/Nat.gcd z.natAbs d))++[V.int 47]++byts (Ra61.decimal (d/Nat.gcd z.natAbs d)))) hD5
     have K5:=(((k1.trans k2).trans k3).trans k4)
     refine fin D5 _ (Ra61.decimal (z.natAbs/Nat.gcd z.natAbs d)++47::Ra61.decimal (d/Nat.gcd z.natAbs d)) _ (K5.trans k5) (K5.free hD5) ?_ (by simp;omega) ?_
     ·rw[us10]
      unfold byts
      simp
     ·unfold Ra61.frac
      dsimp only
      have:¬d/Nat.gcd z.natAbs d=1:=fun q=>hq (by
       have:=Nat.div_mul_cancel gd
       rw[q,Nat.one_mul] at this
       exact this.symm)
      rw[if_neg this,List.append_assoc]
end
end Ck
end
noncomputable section
namespace Ck
open PySem PySem.Spec PyProof.Rows L2
section
variable{P:Program}{w:World}{K:PySem.W.Frag}{mg:Str->Option Value}{base:Heap}{t:Adr}
theorem dec_lenB{n B:Nat}(h:n<2^B):(Ra61.decimal n).length<=B+1:=by
 by_cases h0:n=0
 ·subst h0
  show ([48]:List Nat).length<=B+1
  simp
 ·obtain⟨a,b⟩:=dec_pow n h0
  have p1:2^((Ra61.decimal n).length-1)<=10^((Ra61.decimal n).length-1):=Nat.pow_le_pow_left (by decide) _
  have:=(Nat.pow_lt_pow_iff_right (by decide)).mp (Nat.lt_of_le_of_lt (Nat.le_trans p1 a) h)
  omega
theorem frac_len{z:Int}{d B:Nat}(hz:z.natAbs<2^B)(hd:d<2^B):(Ra61.frac z d).length<=2*B+4:=by
 have l1:=dec_lenB (Nat.lt_of_le_of_lt (Nat.div_le_self z.natAbs (Nat.gcd z.natAbs d)) hz)
 have l2:=dec_lenB (Nat.lt_of_le_of_lt (Nat.div_le_self d (Nat.gcd z.natAbs d)) hd)
 unfold Ra61.frac
 dsimp only
 rw[List.length_append,List.length_append]
 have a:(if z<0 then [45] else ([]:List Nat)).length<=1:=by split<;>simp
 have b:(if d/Nat.gcd z.natAbs d=1 then ([]:List Nat) else 47::Ra61.decimal (d/Nat.gcd z.natAbs d)).length<=(Ra61.decimal (d/Nat.gcd z.natAbs d)).length+1:=by split<;>simp
 omega
theorem big_of{n B:Nat}(h:n<2^B)(hB:B<=100000):n<bigL:=
 Nat.lt_of_lt_of_le h (Nat.pow_le_pow_right (by decide) (Nat.le_trans hB (by decide)))
abbrev Wds(H:Hp)(ws:List Addr)(words:List (List Nat)):Prop:=Ea (fun bs a=>H a=some (.lst (byts bs))) ws words
def sp_told(K:PySem.W.Frag)(t:Adr):Sp:=fun vs H Q _=>∃(va:Addr) (tops:List Int) (d B:Nat),vs=[.ref va]/\VaI K t H va tops (d:Int)/\0<d/\Sized tops (d:Int) B/\B<=100000/\tops.length<=16 /\
 ∀D ws H',Same H H'->H D=none->H' D=some (.lst (ws.map V.ref))->Wds H' ws (tops.map fun z=>Ra61.frac z d)->Q (.ref D) H'
theorem ok_told(T:Txt K mg t)(hN:base.NoSeer)(hP:P.given.tree=none):Ok P w K mg base 37 t.fVt10 t.fVt ["self"] (sp_told K t):=by
 refine T.Values_told.fn.okX sVt (fun vs H Q E h=>?_) fun cdv A outer s H vs Q E hr h=>?_
 ·obtain⟨va,tops,d,B,rfl,_⟩:=h;rfl
 ·obtain⟨va,tops,d,B,rfl,⟨dv,tl,v1,v2⟩,hd,Z,hB,hn,h⟩:=h
  refine⟨_,po10 (pr10 (pl14 (own:=[("top",1)]) rfl sVt.nd (pl11 (pf K (pv 0) rfl)) (bb10 rfl) (fun _ _ _ _ _=>pn11 (i:=1) sVt.nd rfl (Or.inl rfl)) (fun _ _ _ _ _=>pn12)
   (fun _ _ _ _ _=>pf10 T.fraction_told (oft T hN hP) hr rfl pass1 (pc (pv 1)<|pc (pf K (pv 0) rfl) pn10)))),?_⟩
  refine⟨_,rfl,va,_,dv,_,_,rfl,v1,T.kV10.cl,T.nVt,vt _ _,tl,rfl,⟨_,v2⟩,fun D hD=>ll10 (K:=K) (a:=tl) (xs:=tops.map V.int) (fun i H9=>∃ws:List Addr,ws.length=i/\Same H H9/\H9 D=some (.lst (ws.map V.ref))/\Ea (fun bs a=>H9 a=some (.lst (byts bs))/\a≠D) ws ((tops.map fun z=>Ra61.frac z d).take i))
   ⟨[],rfl,su hD,us10,Ea.nil⟩ (fun i H9 _ ⟨_,_,e,_,_⟩=>Same.seq e v2) ?_ ?_⟩
  ·rintro i x H9 hi ⟨ws,hw,s9,h9,E9⟩
   obtain⟨z,ez,rfl⟩:∃z,tops[i]? = some z/\x=.int z:=by
    rw[List.getElem?_map] at hi
    cases q:tops[i]? with
    |none=>rw[q] at hi;cases hi
    |some z=>rw[q] at hi;cases hi;exact⟨z,rfl,rfl⟩
   have hin:i<tops.length:=(List.getElem?_eq_some_iff.mp ez).1
   refine⟨rfl,?_⟩
   refine⟨_,rfl,_,rfl,va,_,dv,_,_,rfl,s9 _ _ v1,T.kV10.cl,T.nVb,vb _ _,z,d,rfl,hd,big_of (Z.tops z (List.mem_of_getElem? ez)) hB,big_of (by have:=Z.bot;simpa using this) hB,fun a H8 k8 ha h8=>?_⟩
   have hD8:=k8 _ _ h9
   have hne:a≠D:=fun q=>by rw[q,h9] at ha;cases ha
   refine⟨ws.map V.ref,hD8,by rw[List.length_map,hw,sizeLine_eq];omega,ws++[a],by simp[hw],fun b u e=>?_,by rw[us10,List.map_append];rfl,?_⟩
   ·rw[un10 (non10 e hD)]
    exact k8 _ _ (s9 _ _ e)
   ·rw[ts10 (l:=tops.map fun z=>Ra61.frac z d) (x:=Ra61.frac z d) (by rw[List.getElem?_map,ez];rfl)]
    exact Ea.snoc (E9.mono fun bs b hb=>⟨by rw[un10 hb.2];exact k8 _ _ hb.1,hb.2⟩) ⟨by rw[un10 hne];exact h8,hne⟩
  ·rintro H9 ⟨ws,hw,s9,h9,E9⟩
   rw[List.length_map] at hw E9
   rw[List.take_of_length_le (by simp)] at E9
   exact h D ws H9 s9 hD h9 (E9.mono fun bs a hb=>hb.1)
def lineB(x bs:List Nat):List Nat:=x++[32]++bs++[10]
def linesB:List (List Nat)->List (List Nat)->List Nat
 |x::xs,b::bs=>lineB x b++linesB xs bs
 |_,_=>[]
theorem ls13:∀{xs bs:List (List Nat)}{x b:List Nat},xs.length=bs.length->linesB (xs++[x]) (bs++[b])=linesB xs bs++lineB x b
 |[],[],x,b,_=>by simp[linesB]
 |y::xs,c::bs,x,b,h=>by
  simp only[List.cons_append,linesB]
  rw[ls13 (by simpa using h),List.append_assoc]
theorem linesB_len:∀{xs bs:List (List Nat)},(∀x∈xs,x.length<=100)->(∀b∈bs,b.length<=250000)->(linesB xs bs).length<=xs.length*250102
 |[],_,_,_=>by simp[linesB]
 |x::xs,[],_,_=>by simp[linesB]
 |x::xs,b::bs,h1,h2=>by
  have i:=linesB_len (xs:=xs) (bs:=bs) (fun y hy=>h1 y (by simp[hy])) fun y hy=>h2 y (by simp[hy])
  have a:=h1 x (by simp)
  have c:=h2 b (by simp)
  simp only[linesB,lineB,List.length_append,List.length_cons,List.length_nil]
  omega
def sp_tell_(K:PySem.W.Frag)(t:Adr):Sp:=fun vs H Q E=>∃(sl wl:Addr) (room:Int) (N:Ra61.Net) (ws:List Addr) (words:List (List Nat)),vs=[.ref sl,.ref wl,.int room]/\NetI t N (.ref sl) H/\H wl=some (.lst (ws.map V.ref))/\Wds H ws words /\
 N.length=words.length/\N.length<=16/\(∀s∈N,s.name.length<=100)/\(∀b∈words,b.length<=250000) /\
 if room<((linesB (N.map fun s=>s.name) words).length:Int) then ∀H',E (.ref t.xN11) none H' else
  ∀D H',Same H H'->H D=none->H' D=some (.lst (((((linesB (N.map fun s=>s.name) words).length:Nat):Int)::(linesB (N.map fun s=>s.name) words).map fun (b:Nat)=>(b:Int)).map V.int))->Q (.ref D) H'
theorem ok_tell(T:Txt K mg t)(kb:K.In base):Ok P w K mg base 1 t.f_tell t.fd_tell ["states","words","room"] (sp_tell_ K t):=by
 refine T.tell.fn.okX sc_tell (fun vs H Q E h=>?_) fun cdv A outer s H vs Q E hr h=>?_
 ·obtain⟨sl,wl,room,N,ws,words,rfl,_⟩:=h;rfl
 ·obtain⟨sl,wl,room,N,ws,words,rfl,⟨sl',sas,esl,n1,n2⟩,hwl,W,hlen,hn,hnm,hwd,h⟩:=h
  cases esl
  refine⟨_,pc11 (ps10 (i:=3) sc_tell.nd rfl (Or.inl rfl) (pl12 pn10))<|
   pc11 (pf14 po12 rfl (pz (by rfl) T.b_zip (pc (pv 0)<|pc (pv 1) pn10)) (pg_two K (i:=4) (j:=5) rfl sc_tell.nd rfl rfl (Or.inl rfl) (Or.inl rfl))
    (po10 (pe10 (pb PySem.F.plainAttrs_list PySem.F.slot_list_extend PySem.F.type_list_extend mt_extend (pv 3) (pc
     (po11 op_cat (po11 op_cat (po11 op_cat (pc16 clo (by rfl) T.b_list bt_list (pc (pf K (pv 4) rfl) pn10)) (pl12 (pc (pg10 T.g_BLANK rfl) pn10))) (pv 5)) (pl12 (pc (pg10 T.gLE rfl) pn10))) pn10)))))<|
   pc11 (ps_if (pc13 op_lt (pv 2) (pc12 cls10 (by rfl) T.b_len bl11 (pc (pv 3) pn10)) (nomark _)) (po10 (pr13 xo rfl (or10 T kb) PySem.F.excBase_Exception)) pn13)<|
   po10 (pr10 (po11 op_cat (pl12 (pc (pc12 cls10 (by rfl) T.b_len bl11 (pc (pv 3) pn10)) pn10)) (pv 3))),?_⟩
  refine⟨by rw[sizeLine_eq];simp,fun D hD=>?_⟩
  have k0:=su (o:=.lst []) hD
  refine⟨_,rfl,_,rfl,sl,wl,_,_,rfl,SqL.of (k0 _ _ n1),SqL.of (k0 _ _ hwl),?_⟩
  have names_at:∀{i:Nat} {st:Ra61.State},N[i]? = some st->(N.map fun s=>s.name)[i]? = some st.name:=fun e=>by rw[List.getElem?_map,e];rfl
  have small:∀i,(linesB ((N.map fun s=>s.name).take i) (words.take i)).length<=4100000:=fun i=>by
   have:=linesB_len (xs:=(N.map fun s=>s.name).take i) (bs:=words.take i) (fun x hx=>by
    obtain⟨s,hs,rfl⟩:=List.mem_map.mp (List.mem_of_mem_take hx)
    exact hnm s hs) fun b hb=>hwd b (List.mem_of_mem_take hb)
   have l:((N.map fun s=>s.name).take i).length<=16:=by rw[List.length_take,List.length_map];omega
   have:((N.map fun s=>s.name).take i).length*250102<=16*250102:=Nat.mul_le_mul_right _ l
   omega
  refine for_zip (K:=K) (a:=sl) (b:=wl) (xs:=sas.map V.ref) (ys:=ws.map V.ref) (by rw[List.length_map,List.length_map,n2.len,W.len,hlen]) (fun i σ H9=>∃v4 v5,σ=[some (.ref sl),some (.ref wl),some (.int room),some (.ref D),v4,v5]/\Same H H9/\H9 D=some (.lst (byts (linesB ((N.map fun s=>s.name).take i) (words.take i)))))
   ⟨none,none,rfl,k0,by rw[List.take_zero,List.take_zero];exact us10⟩ (fun i σ H9 _ ⟨_,_,_,e,_⟩=>⟨SqL.of (e _ _ n1),SqL.of (e _ _ hwl)⟩) ?_ ?_
  ·rintro i x y σ H9 T9 hi hj hT9 ⟨v4,v5,rfl,k9,h9⟩
   obtain⟨sa,ea,rfl⟩:=ra10 hi
   obtain⟨wa,eb,rfl⟩:=ra10 hj
   obtain⟨st,es,dx,nm,cl,cas,c1,c2,c3,c4⟩:=n2.get ea
   obtain⟨wd,ew,hwa⟩:=W.get eb
   have hin:i<N.length:=(List.getElem?_eq_some_iff.mp es).1
   have ln:=hnm st (List.mem_of_getElem? es)
   have lw:=hwd wd (List.mem_of_getElem? ew)
   have ls:=small i
   have k1:Same H9 (upd H9 T9 (.tup [.ref sa,.ref wa])):=su hT9
   have K1:=k9.trans k1
   have h1:=k1 _ _ h9
   refine gTwo.at us10 ?_
   generalize upd H9 T9 (.tup [.ref sa,.ref wa])=H1 at *
   refine⟨_,rfl,.inl ⟨rfl,_,SqL.of h1⟩,_,rfl,sa,_,dx,_,_,rfl,K1 _ _ c1,T.kS.cl,T.nSn,stF_name _ _,nm,_,rfl,.inr (SqT.of (K1 _ _ c2)),fun L1 hL1=>?_⟩
   have k2:=su (o:=.lst (byts st.name)) hL1
   refine⟨by rw[sizeLine_eq];simp,fun L2 hL2=>?_⟩
   have k3:=su (o:=.lst [V.int 32]) hL2
   refine⟨L1,L2,_,_,rfl,rfl,k3 _ _ us10,us10,by rw[bl10,sizeLine_eq];simp;omega,fun L3 hL3=>?_⟩
   have k4:=su (o:=.lst (byts st.name++[V.int 32])) hL3
   have K4:=((K1.trans k2).trans k3).trans k4
   refine⟨_,rfl,L3,wa,_,_,rfl,rfl,us10,K4 _ _ hwa,by rw[List.length_append,bl10,bl10,sizeLine_eq];simp;omega,fun L4 hL4=>?_⟩
   have k5:=su (o:=.lst (byts st.name++[V.int 32]++byts wd)) hL4
   refine⟨by rw[sizeLine_eq];simp,fun L5 hL5=>?_⟩
   have k6:=su (o:=.lst [V.int 10]) hL5
   refine⟨L4,L5,_,_,rfl,rfl,k6 _ _ us10,us10,by rw[List.length_append,List.length_append,bl10,bl10,sizeLine_eq];simp;omega,fun L6 hL6=>?_⟩
   have k7:=su (o:=.lst (byts st.name++[V.int 32]++byts wd++[V.int 10])) hL6
   have K7:=((K4.trans k5).trans k6).trans k7
   have hD7:=k7 _ _ (k6 _ _ (k5 _ _ (k4 _ _ (k3 _ _ (k2 _ _ h1)))))
   refine⟨D,L6,_,_,rfl,rfl,hD7,us10,by rw[List.length_append,List.length_append,List.length_append,bl10,bl10,bl10,sizeLine_eq];simp;omega,?_⟩
   refine⟨_,_,rfl,fun b u e=>?_,?_⟩
   ·rw[un10 (non10 e hD)]
    exact K7 _ _ e
   ·rw[us10,ts10 (names_at es),ts10 ew,ls13 (by rw[List.length_take,List.length_take,List.length_map,hlen])]
    unfold byts lineB
    simp
  ·rintro σ H9 ⟨v4,v5,rfl,k9,h9⟩
   rw[List.length_map,n2.len,List.take_of_length_le (by rw[List.length_map];exact Nat.le_refl _),List.take_of_length_le (by rw[hlen];exact Nat.le_refl _)] at h9
   have ls:=small N.length
   rw[List.take_of_length_le (by rw[List.length_map];exact Nat.le_refl _),List.take_of_length_le (by rw[hlen];exact Nat.le_refl _)] at ls
   generalize linesB (N.map fun s=>s.name) words=out at *
   refine⟨_,rfl,_,rfl,D,_,rfl,.inl (SqL.of h9),_,_,rfl,rfl,_,rfl,?_⟩
   by_cases hq:room<(out.length:Int)
   ·rw[if_pos hq] at h
    exact brT (by rw[bl10];exact decide_eq_true hq) (h _)
   ·rw[if_neg hq] at h
    refine brF (by rw[bl10];exact decide_eq_false hq) ?_
    refine⟨_,rfl,D,_,rfl,.inl (SqL.of h9),by rw[sizeLine_eq];simp,fun L1 hL1=>?_⟩
    have k1:=su (o:=.lst [V.int ((byts out).length:Nat)]) hL1
    refine⟨_,rfl,L1,D,_,_,rfl,rfl,us10,k1 _ _ h9,by rw[bl10,sizeLine_eq];simp;omega,fun L2 hL2=>?_⟩
    have k2:=su (o:=.lst ([V.int ((byts out).length:Nat)]++byts out)) hL2
    refine h L2 _ ((k9.trans k1).trans k2) ((k9.trans k1).free hL2) ?_
    rw[us10,bl10]
    unfold byts
    simp
end
end Ck
end
noncomputable section
namespace Ck
open PySem PySem.Spec PyProof.Rows L2
section
variable{P:Program}{w:World}{K:PySem.W.Frag}{mg:Str->Option Value}{base:Heap}{t:Adr}
theorem int_at{xs:List Int}{i:Nat}{v:V}(h:(xs.map V.int)[i]? = some v):i<xs.length/\v=.int (xs.getD i 0):=by
 rw[List.getElem?_map] at h
 cases e:xs[i]? with
 |none=>rw[e] at h;cases h
 |some x=>rw[e] at h;cases h;exact⟨(List.getElem?_eq_some_iff.mp e).1,by rw[List.getD_eq_getElem?_getD,e];rfl⟩
def sp_cleared(K:PySem.W.Frag):Sp:=fun vs H Q _=>∃(ra pa:Addr) (row prow:List Int) (turn:Nat) (before:Int),vs=[.ref ra,.ref pa,.int (turn:Int),.int before]/\SqL K H ra (row.map V.int)/\SqL K H pa (prow.map V.int)/\row.length=prow.length/\row.length<=17/\turn<row.length /\
 0<before/\before.natAbs<2^1000/\(∀x∈row,x.natAbs<2^1000)/\(∀x∈prow,x.natAbs<2^1000)/\∀D H',Same H H'->H D=none->H' D=some (.lst ((La.clearedM row prow turn before).map V.int))->Q (.ref D) H'
theorem ok_cleared(T:Txt K mg t):Ok P w K mg base 1 t.f_cleared t.fc ["row","pivot_row","turn","pivot_before"] (sp_cleared K):=by
 refine T.cleared.fn.okX sc11 (fun vs H Q E h=>?_) fun cdv A outer s H vs Q E hr h=>?_
 ·obtain⟨ra,pa,row,prow,turn,before,rfl,_⟩:=h;rfl
 ·obtain⟨ra,pa,row,prow,turn,before,rfl,hra,hpa,hl,h17,ht,b0,bb,hrow,hprow,h⟩:=h
  refine⟨_,pc11 (ps10 (i:=4) sc11.nd rfl (Or.inr rfl) (pi10 (ixL K) (pv 1) (pv 2) (fun _ _=>rfl)))<|
   pc11 (ps10 (i:=5) sc11.nd rfl (Or.inr rfl) (pi10 (ixL K) (pv 0) (pv 2) (fun _ _=>rfl)))<|
   po10 (pr10 (pl14 (own:=[("number",6),("other",7)]) rfl sc11.nd (pz (by rfl) T.b_zip (pc (pv 0)<|pc (pv 1) pn10)) (bb10 rfl) (fun _ _ _ _ _=>pg_two K (i:=6) (j:=7) rfl sc11.nd rfl rfl (Or.inl rfl) (Or.inl rfl)) (fun _ _ _ _ _=>pn12)
    (fun _ _ _ _ _=>po11 op_fdivM (po11 op_sub (po11 op_mulX (pv 4) (pv 6)) (po11 op_mulX (pv 5) (pv 7))) (pv 3)))),?_⟩
  have mem:∀{l:List Int} {i:Nat},i<l.length->l.getD i 0∈l:=fun {l i} h=>by rw[List.getD_eq_getElem?_getD,List.getElem?_eq_getElem h];exact List.getElem_mem h
  have cl:(La.clearedM row prow turn before).length=row.length:=by unfold La.clearedM;rw[List.length_zipWith];omega
  refine⟨_,rfl,_,rfl,pa,_,_,_,rfl,rfl,hpa,gi (by omega),_,rfl,_,rfl,ra,_,_,_,rfl,rfl,hra,gi ht,_,rfl,_,rfl,ra,pa,_,_,rfl,hra,hpa,fun D hD=>lc_zip (K:=K) (a:=ra) (b:=pa) (xs:=row.map V.int) (ys:=prow.map V.int) (by rw[List.length_map,List.length_map,hl])
   (fun i H9=>Same H H9/\H9 D=some (.lst (((La.clearedM row prow turn before).map V.int).take i))) ⟨su hD,us10⟩ (fun i H9 _ ⟨e,_⟩=>⟨Same.seq e hra,Same.seq e hpa⟩) ?_ ?_⟩
  ·rintro i x y H9 T9 hi hj hT9 ⟨s9,h9⟩
   obtain⟨hi1,rfl⟩:=int_at hi
   obtain⟨hj1,rfl⟩:=int_at hj
   have k1:Same H9 (upd H9 T9 (.tup [.int (row.getD i 0),.int (prow.getD i 0)])):=su hT9
   refine gTwo.at us10 ⟨rfl,?_⟩
   refine⟨_,rfl,_,rfl,_,_,rfl,rfl,mulOk (hprow _ (mem (by omega))) (hrow _ (mem hi1)) (by decide),_,rfl,_,rfl,_,_,rfl,rfl,mulOk (hrow _ (mem ht)) (hprow _ (mem hj1)) (by decide),_,_,rfl,rfl,_,rfl,_,_,rfl,rfl,⟨b0,bb⟩,_,k1 _ _ h9,by rw[List.length_take,sizeLine_eq];omega,fun b u e=>?_,?_⟩
   ·rw[un10 (non10 e hD)]
    exact k1 _ _ (s9 _ _ e)
   ·rw[us10,ts10 (l:=(La.clearedM row prow turn before).map V.int) (x:=V.int ((prow.getD turn 0*row.getD i 0-row.getD turn 0*prow.getD i 0).fdiv before)) (by
     have q:(La.clearedM row prow turn before)[i]? = some ((prow.getD turn 0*row.getD i 0-row.getD turn 0*prow.getD i 0).fdiv before):=by
      unfold La.clearedM
      rw[List.getElem?_zipWith,List.getElem?_eq_getElem hi1,List.getElem?_eq_getElem hj1,List.getD_eq_getElem?_getD (l:=row) (i:=i),List.getElem?_eq_getElem hi1,List.getD_eq_getElem?_getD (l:=prow) (i:=i),List.getElem?_eq_getElem hj1];rfl
     rw[List.getElem?_map,q];rfl)]
  ·rintro H9 ⟨s9,h9⟩
   rw[List.length_map,List.take_of_length_le (by rw[List.length_map,cl];exact Nat.le_refl _)] at h9
   exact h D H9 s9 hD h9
end
end Ck
end
noncomputable section
namespace Ck
open PySem PySem.Spec PyProof.Rows L2
section
variable{P:Program}{w:World}{K:PySem.W.Frag}{mg:Str->Option Value}{base:Heap}{t:Adr}
abbrev Ros(H:Hp)(ras:List Addr)(rows:List (List Int)):Prop:=Ea (fun row a=>H a=some (.lst (row.map V.int))) ras rows
def sp_solve(K:PySem.W.Frag)(t:Adr):Sp:=fun vs H Q _=>∃(rl:Addr) (ras:List Addr) (rows:List (List Int)),vs=[.ref rl]/\H rl=some (.lst (ras.map V.ref))/\Ros H ras rows/\1<=rows.length/\rows.length<=16/\(∀r∈rows,r.length=rows.length+1) /\
 (∀i j,i<rows.length->j<=rows.length->((rows.getD i []).getD j 0).natAbs<2^40)/\(∀k,k<rows.length->0<La.G (La.ent rows) k k k)/\∀x H',Same H H'->H x=none->VaI K t H' x (La.solveM rows).1 (La.solveM rows).2->Q (.ref x) H'
theorem atI_end{xs:List V}{n:Nat}(h:xs.length=n+1):atI xs (-1)=xs[n]?:=by
 unfold atI ixN
 rw[if_neg (by decide),if_pos (by omega)]
 show xs[((-1:Int)+(xs.length:Int)).toNat]? = _
 rw[h]
 congr 1
 omega
theorem ok_solve(T:Txt K mg t):Ok P w K mg base 3 t.f_solve t.fd_solve ["rows"] (sp_solve K t):=by
 refine T.solve.fn.okX ss11 (fun vs H Q E h=>?_) fun cdv A outer s H vs Q E hr h=>?_
 ·obtain⟨rl,ras,rows,rfl,_⟩:=h;rfl
 ·obtain⟨rl,ras,rows,rfl,hrl,R,n1,n16,hw,hA,hp,h⟩:=h
  have hr1:=hr.mono (show 1<=2 by decide)
  refine⟨_,pc11 (ps10 (i:=1) ss11.nd rfl (Or.inr rfl) pi)<|
   pc11 (pf14 po12 rfl (pr11 (by rfl) T.b_range (pc (pc12 cls10 (by rfl) T.b_len bl11 (pc (pv 0) pn10)) pn10)) (pn11 (i:=2) ss11.nd rfl (Or.inr rfl))
    (pc11 (ps10 (i:=3) ss11.nd rfl (Or.inr rfl) (pi10 (ixL K) (pv 0) (pv 2) (fun _ _=>rfl)))<|
      pc11 (ps_setLc (i:=0) (own:=[("place",4),("row",5)]) rfl ss11.nd rfl rfl (sw_true ss11.kind rfl rfl rfl) (pi_enum (by rfl) T.be (pc (pv 0) pn10)) (bb10 rfl) (fun _ _ _ _ _=>pg_two K (i:=4) (j:=5) rfl ss11.nd rfl rfl (Or.inl rfl) (Or.inl rfl)) (fun _ _ _ _ _=>pn12)
       (fun _ _ _ _ _=>pi11 (pc13 op_eq (pv 4) (pv 2) (nomark _)) (pv 5) (pf10 T.cleared (ok_cleared T) hr1 rfl pass1 (pc (pv 5)<|pc (pv 3)<|pc (pv 2)<|pc (pv 1) pn10))))<|
      po10 (ps10 (i:=1) ss11.nd rfl (Or.inr rfl) (pi10 (ixL K) (pv 3) (pv 2) (fun _ _=>rfl)))))<|
   po10 (pr10 (pc_mk T.kV10 T.Values_init (ovi T) hr rfl pass1 (pc (pl14 (own:=[("row",5)]) rfl ss11.nd (pl11 (pv 0)) (bb10 rfl) (fun _ _ _ _ _=>pn11 (i:=5) ss11.nd rfl (Or.inl rfl)) (fun _ _ _ _ _=>pn12) (fun _ _ _ _ _=>pi10 (ixL K) (pv 5) (pe_un un_neg pi) (fun _ _=>rfl)))<|pc (pv 1) pn10))),?_⟩
  have lr:(ras.map V.ref).length=rows.length:=by rw[List.length_map,R.len]
  refine⟨_,rfl,rl,_,rfl,.inl (SqL.of hrl),_,rfl,by rw[lr];omega,by rw[lr];omega,?_⟩
  rw[lr]
  have en:(rows.length:Int).toNat=rows.length:=by simp
  refine for_range (n:=(rows.length:Int).toNat) (fun k σ H9=>∃(la:Addr) (las:List Addr) (v2 v3:Option V),σ=[some (.ref la),some (.int (La.turnsM rows k).2),v2,v3,none,none]/\Same H H9/\H9 la=some (.lst (las.map V.ref))/\Ros H9 las (La.turnsM rows k).1)
   ⟨rl,ras,none,none,rfl,Same.refl _,hrl,R⟩ ?_ ?_
  ·rintro k σ H9 hk ⟨la,las,v2,v3,rfl,k9,h9,R9⟩
   rw[en] at hk
   have ez:(0:Int)+(k:Int)=(k:Int):=by omega
   obtain⟨t1,t2,t3,t4⟩:=La.to10 rfl hw hp k (Nat.le_of_lt hk)
   obtain⟨z1,z2⟩:=La.turns_in rfl hw n16 hA hp k (Nat.le_of_lt hk)
   have pos:0<(La.turnsM rows k).2:=by
    have:((0:Int):Rat)<((La.turnsM rows k).2:Rat):=by rw[t3];exact La.dd_pos hp k (Nat.le_of_lt hk)
    exact Rat.intCast_lt_intCast.mp this
   have big:∀r∈(La.turnsM rows k).1,∀x∈r,x.natAbs<2^1000:=fun r hr x hx=>by
    obtain⟨i,hi,rfl⟩:=List.getElem_of_mem hr
    obtain⟨j,hj,rfl⟩:=List.getElem_of_mem hx
    have lr:=t2 _ (List.getElem_mem hi)
    have:=z2 i j (by omega) (by omega)
    rw[List.getD_eq_getElem?_getD,List.getD_eq_getElem?_getD,List.getElem?_eq_getElem hi] at this
    rw[Option.getD_some,List.getElem?_eq_getElem hj] at this
    exact this
   obtain⟨prow,ep⟩:∃prow,(La.turnsM rows k).1[k]? = some prow:=⟨_,List.getElem?_eq_getElem (by omega)⟩
   obtain⟨pa,ea,hpa⟩:=R9.at_ k prow ep
   have gp:(La.turnsM rows k).1.getD k []=prow:=by rw[List.getD_eq_getElem?_getD,ep];rfl
   have lp:=t2 prow (List.mem_of_getElem? ep)
   refine⟨_,rfl,_,rfl,la,_,(k:Int),.ref pa,rfl,by rw[ez],SqL.of h9,an10 (by rw[List.getElem?_map,ea];rfl),?_⟩
   have s1len:(La.turnsM rows (k+1)).1.length=rows.length:=(La.to10 rfl hw hp (k+1) hk).1
   refine⟨_,rfl,la,_,rfl,SqL.of h9,fun D hD=>lc_enum (K:=K) (a:=la) (xs:=las.map V.ref) (fun i H8=>∃qs:List Addr,qs.length=i/\Same H9 H8/\H8 D=some (.lst (qs.map V.ref))/\Ea (fun row a=>H8 a=some (.lst (row.map V.int))/\a≠D) qs ((La.turnsM rows (k+1)).1.take i))
    ⟨[],rfl,su hD,us10,Ea.nil⟩ (fun i H8 _ ⟨_,_,e,_,_⟩=>SqL.of (e _ _ h9)) ?_ ?_⟩
   ·rintro i x H8 T8 hi hT8 ⟨qs,hqs,k8,h8,E8⟩
    obtain⟨ra,er,rfl⟩:=ra10 hi
    obtain⟨row,eo,hrow⟩:=R9.get er
    have hin:i<rows.length:=by rw[<-t1];exact (List.getElem?_eq_some_iff.mp eo).1
    have lrow:=t2 row (List.mem_of_getElem? eo)
    have k7:Same H8 (upd H8 T8 (.tup [.int (i:Nat),.ref ra])):=su hT8
    have h7:=k7 _ _ h8
    have K7:=k8.trans k7
    have E7:=E8.mono fun x a h=>(⟨k7 _ _ h.1,h.2⟩:_/\a≠D)
    have nx:(La.turnsM rows (k+1)).1[i]? = some (if i=k then row else La.clearedM row prow k (La.turnsM rows k).2):=by
     show ((La.turnsM rows k).1.zipIdx.map fun x=>if x.2=k then x.1 else La.clearedM x.1 ((La.turnsM rows k).1.getD k []) k (La.turnsM rows k).2)[i]? = _
     rw[List.getElem?_map,List.getElem?_zipIdx,eo,gp];simp
    refine gTwo.at us10 ⟨rfl,?_⟩
    generalize upd H8 T8 (.tup [.int (i:Nat),.ref ra])=H7 at *
    have fin:∀(z:Addr) (H4:Hp),Same H7 H4->H4 z=some (.lst ((if i=k then row else La.clearedM row prow k (La.turnsM rows k).2).map V.int))->z≠D->∃acc,H4 D=some (.lst acc)/\acc.length<sizeLine/\∃qs:List Addr,qs.length=i+1/\Same H9 (upd H4 D (.lst (acc++[V.ref z]))) /\
      (upd H4 D (.lst (acc++[V.ref z]))) D=some (.lst (qs.map V.ref))/\Ea (fun row a=>(upd H4 D (.lst (acc++[V.ref z]))) a=some (.lst (row.map V.int))/\a≠D) qs ((La.turnsM rows (k+1)).1.take (i+1)):=fun z H4 k4 hz hne=>by
     refine⟨qs.map V.ref,k4 _ _ h7,by rw[List.length_map,hqs,sizeLine_eq];omega,qs++[z],by simp[hqs],fun b u e=>?_,by rw[us10,List.map_append];rfl,?_⟩
     ·rw[un10 (non10 e hD)]
      exact k4 _ _ (K7 _ _ e)
     ·rw[ts10 nx]
      exact Ea.snoc (E7.mono fun x a h=>⟨by rw[un10 h.2];exact k4 _ _ h.1,h.2⟩) ⟨by rw[un10 hne];exact hz,hne⟩
    have hra7:=K7 _ _ hrow
    have hneD:ra≠D:=fun q=>by rw[q,hD] at hrow;cases hrow
    refine⟨_,rfl,_,rfl,rfl,_,rfl,?_⟩
    rw[ez]
    by_cases hik:i=k
    ·refine brT (by rw[di];simp[hik]) ?_
     refine⟨_,rfl,fin ra H7 (Same.refl _) ?_ hneD⟩
     rw[if_pos hik];exact hra7
    ·refine brF (by rw[di];simp;omega) ?_
     rw[if_neg hik] at fin
     refine⟨_,rfl,_,rfl,_,rfl,_,rfl,ra,pa,row,prow,k,(La.turnsM rows k).2,rfl,SqL.of hra7,SqL.of (K7 _ _ hpa),by rw[lrow,lp],by rw[lrow];omega,by rw[lrow];omega,pos,z1,big row (List.mem_of_getElem? eo),big prow (List.mem_of_getElem? ep),fun z H4 k4 hz h4=>fin z H4 k4 h4 (fun q=>by rw[q,h7] at hz;cases hz)⟩
   ·rintro H8 ⟨qs,hqs,k8,h8,E8⟩
    rw[List.length_map,R9.len,t1] at hqs E8
    rw[List.take_of_length_le (by rw[s1len];exact Nat.le_refl _)] at E8
    refine⟨_,rfl,_,rfl,pa,_,(k:Int),.int (prow.getD k 0),rfl,by rw[ez],SqL.of (k8 _ _ hpa),gi (by omega),?_⟩
    refine⟨D,qs,some (.int (0+(k:Int))),some (.ref pa),?_,k9.trans k8,h8,E8.mono fun x a h=>h.1⟩
    show _=[some (V.ref D),some (V.int (((La.turnsM rows k).1.getD k []).getD k 0)),some (.int (0+(k:Int))),some (.ref pa),none,none]
    rw[gp];rfl
  ·rintro σ H9 ⟨la,las,v2,v3,rfl,k9,h9,R9⟩
   rw[en] at R9 ⊢
   obtain⟨t1,t2,t3,t4⟩:=La.to10 rfl hw hp rows.length (Nat.le_refl _)
   refine⟨_,rfl,la,rfl,⟨_,SqL.of h9⟩,fun D hD=>ll10 (K:=K) (a:=la) (xs:=las.map V.ref) (fun i H8=>H8=upd H9 D (.lst (((La.solveM rows).1.map V.int).take i))) rfl (fun i H8 _ e8=>by rw[e8];exact SqL.of (by rw[un10 (non10 h9 hD)];exact h9)) ?_ ?_⟩
   ·rintro i x H8 hi rfl
    obtain⟨ra,er,rfl⟩:=ra10 hi
    obtain⟨row,eo,hrow⟩:=R9.get er
    have lrow:=t2 row (List.mem_of_getElem? eo)
    have hin:i<rows.length:=by rw[<-t1];exact (List.getElem?_eq_some_iff.mp eo).1
    refine⟨rfl,?_⟩
    have gl:(row.map V.int)[rows.length]? = some (.int (row.getD rows.length 0)):=by
     rw[List.getElem?_map,List.getElem?_eq_getElem (by omega),List.getD_eq_getElem?_getD,List.getElem?_eq_getElem (by omega)];rfl
    refine⟨_,rfl,_,rfl,ra,_,-1,.int (row.getD rows.length 0),rfl,rfl,SqL.of (by rw[un10 (non10 hrow hD)];exact hrow),(atI_end (by rw[List.length_map,lrow])).trans gl,_,us10,by rw[List.length_take,sizeLine_eq];omega,?_⟩
    rw[uu,ts10 (l:=(La.solveM rows).1.map V.int) (x:=V.int (row.getD rows.length 0)) (by
     unfold La.solveM
     rw[List.getElem?_map,List.getElem?_map,eo];rfl)]
   ·rintro H8 rfl
    rw[List.length_map,show ((La.solveM rows).1.map V.int).take las.length=(La.solveM rows).1.map V.int from List.take_of_length_le (by rw[List.length_map,R9.len];unfold La.solveM;rw[List.length_map];exact Nat.le_refl _)]
    have k1:=su (o:=.lst ((La.solveM rows).1.map V.int)) hD
    refine⟨_,rfl,?_⟩
    intro x dx hx hdx hne
    refine⟨x,dx,_,_,rfl,us10,?_⟩
    rw[uu]
    have k2:=sm12 (u:=.own x) (v:=.ins t.cV dx (vaF (.ref D) (.int (La.turnsM rows rows.length).2))) hx hdx
    exact⟨rfl,h x _ ((k9.trans k1).trans k2) ((k9.trans k1).free hx) ⟨dx,D,us10,SqL.of (k2 _ _ us10)⟩⟩
end
end Ck
end
noncomputable section
namespace Ck
open PySem PySem.Spec PyProof.Rows L2
section
variable{P:Program}{w:World}{K:PySem.W.Frag}{mg:Str->Option Value}{base:Heap}{t:Adr}
structure QuE(K:PySem.W.Frag)(t:Adr)(H:Hp)(q:Addr)(opts:List (List Fq.Opt))(ends:List Int):Prop where
 ex:∃dq ol el ls,H q=some (.ins t.cQ dq (quF (.ref ol) (.ref el)))/\H ol=some (.lst (ls.map V.ref))/\Ea (OsI t H) ls opts/\SqL K H el (ends.map V.int)
theorem QuE.same{H H':Hp}{q:Addr}{opts:List (List Fq.Opt)}{ends:List Int}(h:QuE K t H q opts ends)(k:Same H H'):QuE K t H' q opts ends:=by
 obtain⟨dq,ol,el,ls,h1,h2,h3,h4⟩:=h.ex
 exact⟨dq,ol,el,ls,k _ _ h1,k _ _ h2,h3.mono fun x a h=>h.same k,k.seq h4⟩
theorem pr12{H:Hp}{D:Addr}{row:List Int}{j:Nat}{z:Int}:upd H D (.lst ((row.map V.int).set j (.int z)))=upd H D (.lst ((row.set j z).map V.int)):=by rw[List.map_set]
theorem ix_nat{n i:Nat}(h:i<n):ixN n (i:Int)=some i:=by
 unfold ixN;rw[if_pos (by omega),if_pos (by omega),Int.toNat_natCast]
theorem ix_end{n:Nat}:ixN (n+1) (-1)=some n:=by
 unfold ixN;rw[if_neg (by decide),if_pos (by omega)]
 congr 1
 omega
theorem rep_flat{α:Type}(x:α):∀n,(List.replicate n [x]).flatten=List.replicate n x
 |0=>rfl
 |n+1=>by rw[List.replicate_succ,List.flatten_cons,rep_flat x n];rfl
def sp_equation(K:PySem.W.Frag)(t:Adr):Sp:=fun vs H Q _=>∃(q pl:Addr) (place n:Nat) (opts:List (List Fq.Opt)) (ends plan:List Int),vs=[.ref q,.ref pl,.int (place:Int)]/\QuE K t H q opts ends/\SqL K H pl (plan.map V.int)/\opts.length=n/\ends.length=n/\n<=16/\place<n/\La.Fits opts n plan/\(∀os∈opts,∀o∈os,Small o n) /\
 ∀D H',Same H H'->H D=none->H' D=some (.lst ((La.eqM n place (opts.getD place []) (ends.getD place 0) (plan.getD place 0).toNat).map V.int))->Q (.ref D) H'
theorem ok_equation(T:Txt K mg t):Ok P w K mg base 1 t.fQe10 t.fQe ["self","plan","place"] (sp_equation K t):=by
 refine T.Quest_equation.fn.okX sQe (fun vs H Q E h=>?_) fun cdv A outer s H vs Q E hr h=>?_
 ·obtain⟨q,pl,place,n,opts,ends,plan,rfl,_⟩:=h;rfl
 ·obtain⟨q,pl,place,n,opts,ends,plan,rfl,⟨dq,ol,el,ls,q1,q2,W,q4⟩,hpl,hon,hen,hn,hp,F,S,h⟩:=h
  refine⟨_,pc11 (ps10 (i:=3) sQe.nd rfl (Or.inl rfl) (po11 op_rep (pl12 (pc pi pn10)) (po11 oa (pc12 cls10 (by rfl) T.b_len bl11 (pc (pv 1) pn10)) pi)))<|
   pc11 (ps_if (pc13 op_eq (pc12 cls10 (by rfl) T.b_len bl11 (pc (pi10 (ixL K) (pf K (pv 0) rfl) (pv 2) (fun _ _=>rfl)) pn10)) pi (nomark _))
    (pc11 (ps_asg pi (pg_sub (pv 3) (pv 2) sl11))<|
      pc11 (ps_asg (pi10 (ixL K) (pf K (pv 0) rfl) (pv 2) (fun _ _=>rfl)) (pg_sub (pv 3) (pe_un un_neg pi) sl11))<|
      po10 (pr10 (pv 3))) pn13)<|
   pc11 (ps10 (i:=4) sQe.nd rfl (Or.inl rfl) (pi10 (ixL K) (pi10 (ixL K) (pf K (pv 0) rfl) (pv 2) (fun _ _=>rfl)) (pi10 (ixL K) (pv 1) (pv 2) (fun _ _=>rfl)) (fun _ _=>rfl)))<|
   pc11 (ps_asg (pf K (pv 4) rfl) (pg_sub (pv 3) (pv 2) sl11))<|
   pc11 (pf14 po12 rfl (pl11 (pf K (pv 4) rfl)) (pn11 (i:=5) sQe.nd rfl (Or.inl rfl))
    (po10 (ps_augS (pv 3) (pi10 (ixT K) (pv 5) pi (fun _ _=>rfl)) get_list (pi10 (ixT K) (pv 5) pi (fun _ _=>rfl)) ip_sub sl11)))<|
   pc11 (ps_asg (po11 om (pf K (pv 4) rfl) (pf K (pv 4) rfl)) (pg_sub (pv 3) (pe_un un_neg pi) sl11))<|
   po10 (pr10 (pv 3)),?_⟩
  have lp:(plan.map V.int).length=n:=by rw[List.length_map,F.len]
  refine⟨by rw[sizeLine_eq];simp,fun L0 hL0=>?_⟩
  have k0:=su (o:=.lst [V.int 0]) hL0
  refine⟨_,rfl,pl,_,rfl,.inl (Same.seq k0 hpl),_,_,rfl,rfl,L0,_,_,rfl,rfl,us10,by rw[lp];omega,by rw[lp];omega,?_,fun D hD=>?_⟩
  ·rw[lp,sizeLine_eq]
   show 1*((n:Int)+1).toNat<=_
   omega
  have e0:(List.replicate (((plan.map V.int).length:Int)+1).toNat [V.int 0]).flatten=(List.replicate (n+1) (0:Int)).map V.int:=by
   rw[lp,rep_flat,List.map_replicate]
   congr 1
  rw[e0]
  have k1:=k0.trans (su (o:=.lst ((List.replicate (n+1) (0:Int)).map V.int)) hD)
  have d1:(upd (upd H L0 (.lst [V.int 0])) D (.lst ((List.replicate (n+1) (0:Int)).map V.int))) D=some (.lst ((List.replicate (n+1) (0:Int)).map V.int)):=us10
  have hD0:H D=none:=k0.free hD
  generalize upd (upd H L0 (.lst [V.int 0])) D (.lst ((List.replicate (n+1) (0:Int)).map V.int))=H1 at *
  have put:∀{H9:Hp} {o:HO},Same H H9->Same H (upd H9 D o):=fun {H9 o} k b u e=>by rw[un10 (non10 e hD0)];exact k b u e
  obtain⟨os,eo⟩:∃os,opts[place]? = some os:=⟨_,List.getElem?_eq_getElem (by omega)⟩
  obtain⟨la,el',as,l1,l2⟩:=W.at_ place os eo
  have go:opts.getD place []=os:=by rw[List.getD_eq_getElem?_getD,eo];rfl
  rw[go] at h
  refine⟨_,rfl,q,_,dq,_,_,rfl,k1 _ _ q1,T.kQ.cl,T.nQo,qo10 _ _,_,rfl,ol,_,_,.ref la,rfl,rfl,SqL.of (k1 _ _ q2),an10 (by rw[List.getElem?_map,el'];rfl),la,_,rfl,.inl (SqL.of (k1 _ _ l1)),rfl,_,rfl,?_⟩
  rw[List.length_map,l2.len]
  by_cases h0:os.length=0
  ·refine brT (by rw[di];simp[h0]) ?_
   refine⟨_,rfl,_,rfl,D,_,(place:Int),place,rfl,rfl,d1,ix_nat (by rw[List.length_map,List.length_replicate];omega),?_⟩
   rw[pr12]
   have k2:Same H (upd H1 D (.lst (((List.replicate (n+1) (0:Int)).set place 1).map V.int))):=put k1
   refine⟨_,rfl,q,_,dq,_,_,rfl,k2 _ _ q1,T.kQ.cl,T.nQe,quF_ends _ _,_,rfl,el,_,_,.int (ends.getD place 0),rfl,rfl,Same.seq k2 q4,gi (by omega),?_⟩
   refine⟨_,rfl,_,rfl,D,_,-1,n,rfl,rfl,us10,by rw[List.length_map,List.length_set,List.length_replicate];exact ix_end,?_⟩
   rw[pr12]
   refine⟨_,rfl,h D _ (put k2) hD0 ?_⟩
   rw[us10]
   unfold La.eqM
   rw[if_pos h0]
  ·refine brF (by rw[di];exact beq_eq_false_iff_ne.mpr (by omega)) ?_
   have fit:=F.at_ place hp (by rw[go];exact h0)
   rw[go] at fit
   obtain⟨b,hb⟩:∃b,b=(plan.getD place 0).toNat:=⟨_,rfl⟩
   rw[<-hb] at fit h
   have hb2:plan.getD place 0=(b:Int):=by rw[hb];exact (Int.toNat_of_nonneg fit.1).symm
   obtain⟨o,eb⟩:∃o,os[b]? = some o:=⟨_,List.getElem?_eq_getElem fit.2⟩
   obtain⟨ca,ec,dx,nm,wy,ps,c1,c2,c3,c4⟩:=l2.at_ b o eb
   have gb:os.getD b Fq.none0=o:=by rw[List.getD_eq_getElem?_getD,eb];rfl
   have So:=S os (List.mem_of_getElem? eo) o (List.mem_of_getElem? eb)
   refine⟨_,rfl,q,_,dq,_,_,rfl,k1 _ _ q1,T.kQ.cl,T.nQo,qo10 _ _,_,rfl,ol,_,_,.ref la,rfl,rfl,SqL.of (k1 _ _ q2),an10 (by rw[List.getElem?_map,el'];rfl),_,rfl,_,rfl,pl,_,_,.int (plan.getD place 0),rfl,rfl,Same.seq k1 hpl,gi (by rw[F.len];exact hp),la,_,_,.ref ca,rfl,rfl,SqL.of (k1 _ _ l1),?_,?_⟩
   ·rw[hb2]
    exact an10 (by rw[List.getElem?_map,ec];rfl)
   refine⟨_,rfl,ca,_,dx,_,_,rfl,k1 _ _ c1,T.kC.cl,T.nCt,ct10 _ _ _ _,_,rfl,_,rfl,D,_,(place:Int),place,rfl,rfl,d1,ix_nat (by rw[List.length_map,List.length_replicate];omega),?_⟩
   rw[pr12]
   have k2:Same H (upd H1 D (.lst (((List.replicate (n+1) (0:Int)).set place o.tot).map V.int))):=put k1
   have d2:(upd H1 D (.lst (((List.replicate (n+1) (0:Int)).set place o.tot).map V.int))) D=some (.lst (((List.replicate (n+1) (0:Int)).set place o.tot).map V.int)):=us10
   generalize upd H1 D (.lst (((List.replicate (n+1) (0:Int)).set place o.tot).map V.int))=H2 at *
   have tl:∀i,(La.takeM (o.ways.take i) ((List.replicate (n+1) (0:Int)).set place o.tot)).length=n+1:=fun i=>by rw[La.tl11,List.length_set,List.length_replicate]
   refine⟨_,rfl,ca,_,dx,_,_,rfl,k2 _ _ c1,T.kC.cl,T.nCw,cw _ _ _ _,wy,rfl,⟨_,SqL.of (k2 _ _ c3)⟩,fl10 (K:=K) (a:=wy) (xs:=ps.map V.ref) (fun i σ H9=>∃v5,σ=[some (.ref q),some (.ref pl),some (.int (place:Int)),some (.ref D),some (.ref ca),v5]/\Same H H9/\H9 D=some (.lst ((La.takeM (o.ways.take i) ((List.replicate (n+1) (0:Int)).set place o.tot)).map V.int)))
    ⟨none,rfl,k2,d2⟩ (fun i σ H9 _ ⟨_,_,e,_⟩=>SqL.of (e _ _ c3)) ?_ ?_⟩
   ·rintro i x σ H9 hi ⟨v5,rfl,k9,d9⟩
    obtain⟨pa,ea,rfl⟩:=ra10 hi
    obtain⟨wv,ew,hwv⟩:=c4.get ea
    have wm:=(So.ways.2 wv (List.mem_of_getElem? ew)).1
    refine⟨_,rfl,_,rfl,pa,_,_,.int (wv.1:Int),rfl,rfl,SqT.of (k9 _ _ hwv),wat0,D,_,wv.1,.int ((La.takeM (o.ways.take i) ((List.replicate (n+1) (0:Int)).set place o.tot)).getD wv.1 0),rfl,rfl,SqL.of d9,?_,_,rfl,pa,_,_,.int (wv.2:Int),rfl,rfl,SqT.of (k9 _ _ hwv),wat1,_,_,rfl,rfl,D,_,(wv.1:Int),wv.1,rfl,rfl,d9,ix_nat (by rw[List.length_map,tl];omega),?_⟩
    ·rw[List.getElem?_map,List.getElem?_eq_getElem (by rw[tl];omega),List.getD_eq_getElem?_getD,List.getElem?_eq_getElem (by rw[tl];omega)];rfl
    ·rw[pr12]
     refine⟨_,rfl,put k9,?_⟩
     rw[us10,ts10 ew]
     unfold La.takeM
     rw[List.foldl_append];rfl
   ·rintro σ H9 ⟨v5,rfl,k9,d9⟩
    rw[List.length_map,c4.len,List.take_length] at d9
    have tn:=tl o.ways.length
    rw[List.take_length] at tn
    refine⟨_,rfl,ca,_,dx,_,_,rfl,k9 _ _ c1,T.kC.cl,T.nCg,cg _ _ _ _,_,rfl,ca,_,dx,_,_,rfl,k9 _ _ c1,T.kC.cl,T.nCt,ct10 _ _ _ _,_,_,rfl,rfl,?_,_,rfl,_,rfl,D,_,-1,n,rfl,rfl,d9,by rw[List.length_map,tn];exact ix_end,?_⟩
    ·have:=So.gain;left;constructor<;>omega
    ·rw[pr12]
     refine⟨_,rfl,h D _ (put k9) hD0 ?_⟩
     rw[us10]
     unfold La.eqM
     rw[if_neg h0,gb]
end
end Ck
end
noncomputable section
namespace Ck
open PySem PySem.Spec PyProof.Rows L2
section
variable{P:Program}{w:World}{K:PySem.W.Frag}{mg:Str->Option Value}{base:Heap}{t:Adr}
theorem sl12(k:List Int):SeqAt.shaped (.list (k.map PyData.int))=true:=by
 unfold SeqAt.shaped
 rw[PyData.canLay0,PyData.depth,lay_ints,di10];rfl
def rEqL(K:PySem.W.Frag):R2:=fun x y H Q=>∃(a b:Addr) (k m:List Int),x=.ref a/\y=.ref b/\SqL K H a (k.map V.int)/\SqL K H b (m.map V.int)/\Q (.bl (decide (k=m))) H
theorem op_eqL{X:Cx}(K:PySem.W.Frag)(hu:X.A.units+64<cLine)(e:X.K=K:=by rfl):OpR X (compareOp .Eq) (rEqL K):=by
 subst e
 intro pins s σ H x y v u Q I rx ry h
 obtain⟨a,b,k,m,rfl,rfl,ha,hb,q⟩:=h
 refine op_eqD hu pins s σ H _ _ v u Q I rx ry ⟨_,_,.lst ha (dp_ints k),.lst hb (dp_ints m),sl12 k,sl12 m,?_⟩
 rw[PyData.eqv,eqv_ints];exact q
theorem take_in{j b:Nat}:∀(ws:List (Nat×Nat)) (row:List Int) (b:Nat),(∀w∈ws,w.1<row.length/\w.2<=1000000)->(row.getD j 0).natAbs<=b->((La.takeM ws row).getD j 0).natAbs<=b+ws.length*1000000
 |[],row,b,_,h=>by simpa [La.takeM] using h
 |w::ws,row,b,hw,h=>by
  have w0:=hw w (by simp)
  have:=take_in (j:=j) (b:=b) ws (row.set w.1 (row.getD w.1 0-(w.2:Int))) (b+1000000) (fun v hv=>by rw[List.length_set];exact hw v (by simp[hv])) (by
   rw[La.gs10 w0.1]
   split
   ·rename_i e;rw[<-e];omega
   ·omega)
  show ((La.takeM ws (row.set w.1 (row.getD w.1 0-(w.2:Int)))).getD j 0).natAbs<=_
  rw[List.length_cons];omega
theorem rep_at(n j:Nat):(List.replicate n (0:Int)).getD j 0=0:=by
 rw[List.getD_eq_getElem?_getD,List.getElem?_replicate];split<;>rfl
theorem eq_in{n place k j:Nat}{os:List Fq.Opt}{e:Int}(hp:place<n)(he:e.natAbs<=1000)(hk:os.length≠0->k<os.length)(S:∀o∈os,Small o n):((La.eqM n place os e k).getD j 0).natAbs<2^40:=by
 unfold La.eqM
 split
 ·rw[La.gs10 (by simp)]
  split
  ·omega
  ·rw[La.gs10 (by simp;omega)]
   split
   ·decide
   ·rw[rep_at];decide
 ·rename_i h
  have So:=S _ (La.gm10 (hk h))
  rw[La.gs10 (by rw[La.tl11];simp)]
  split
  ·obtain⟨a,b⟩:=So.gain
   obtain⟨c,d⟩:=So.tot
   rw[Int.natAbs_mul]
   have:((os.getD k Fq.none0).gain.natAbs)*((os.getD k Fq.none0).tot.natAbs)<=1000*16000000:=Nat.mul_le_mul (by omega) (by omega)
   omega
  ·have:=take_in (j:=j) (b:=0) (os.getD k Fq.none0).ways ((List.replicate (n+1) (0:Int)).set place (os.getD k Fq.none0).tot) 16000000 (fun w hw=>by
    have:=So.ways.2 w hw
    rw[List.length_set,List.length_replicate];omega) (by
    rw[La.gs10 (by simp;omega)]
    split
    ·have:=So.tot;omega
    ·rw[rep_at];decide)
   have:=So.ways.1
   have:(os.getD k Fq.none0).ways.length*1000000<=16*1000000:=Nat.mul_le_mul_right _ this
   omega
theorem opts_at{opts:List (List Fq.Opt)}{s:Nat}(h:s<opts.length):opts.getD s []∈opts:=by
 rw[List.getD_eq_getElem?_getD,List.getElem?_eq_getElem h];exact List.getElem_mem h
structure Fair(opts:List (List Fq.Opt))(ends:List Int):Prop where
 n1:1<=opts.length
 n16:opts.length<=16
 len:ends.length=opts.length
 ends:∀e∈ends,e.natAbs<=1000
 opts:∀os∈opts,os.length<=8/\∀o∈os,Small o opts.length
theorem Fair.ways{opts:List (List Fq.Opt)}{ends:List Int}(f:Fair opts ends):∀os∈opts,∀o∈os,∀w∈o.ways,w.1<opts.length:=fun os hos o ho w hw=>(((f.opts os hos).2 o ho).ways.2 w hw).1
theorem Fair.rows{opts:List (List Fq.Opt)}{ends plan:List Int}(f:Fair opts ends)(F:La.Fits opts opts.length plan):∀i j,i<opts.length->j<=opts.length->(((La.rowsM opts ends opts.length plan).getD i []).getD j 0).natAbs<2^40:=fun i j hi hj=>by
 rw[La.row_at hi]
 refine eq_in hi (f.ends _ ?_) (fun h=>(F.at_ i hi h).2) (f.opts _ (opts_at hi)).2
 have hi':i<ends.length:=by rw[f.len];exact hi
 rw[List.getD_eq_getElem?_getD,List.getElem?_eq_getElem hi'];exact List.getElem_mem hi'
theorem Fair.sized{opts:List (List Fq.Opt)}{ends plan:List Int}(f:Fair opts ends)(F:La.Fits opts opts.length plan)(hp:∀k,k<opts.length->0<La.G (La.ent (La.rowsM opts ends opts.length plan)) k k k) :
  Sized (La.valM opts ends opts.length plan).1 (La.valM opts ends opts.length plan).2 1000:=by
 have hl:=La.row_len (opts:=opts) (ends:=ends) (n:=opts.length) (plan:=plan)
 obtain⟨z1,z2⟩:=La.turns_in hl.1 hl.2 f.n16 (f.rows F) hp _ (Nat.le_refl _)
 have t1:=(La.to10 hl.1 hl.2 hp _ (Nat.le_refl _)).1
 unfold La.valM La.solveM
 rw[hl.1]
 refine⟨fun x hx=>?_,z1,by decide⟩
 obtain⟨r,hr,rfl⟩:=List.mem_map.mp hx
 obtain⟨i,hi,rfl⟩:=List.getElem_of_mem hr
 have:=z2 i opts.length (by omega) (Nat.le_refl _)
 rw[show (La.turnsM (La.rowsM opts ends opts.length plan) opts.length).1.getD i []=(La.turnsM (La.rowsM opts ends opts.length plan) opts.length).1[i] by rw[List.getD_eq_getElem?_getD,List.getElem?_eq_getElem hi];rfl] at this
 exact this
def sp_greatest(K:PySem.W.Frag)(t:Adr):Sp:=fun vs H Q _=>∃(q pl:Addr) (opts:List (List Fq.Opt)) (ends plan:List Int) (P:List Int->Prop),vs=[.ref q,.ref pl]/\QuE K t H q opts ends/\SqL K H pl (plan.map V.int)/\Fair opts ends /\
 P plan/\(∀π,P π->La.Fits opts opts.length π/\(∃u,La.Keeps (La.sysOf opts ends π) opts.length u)/\P (La.nextM opts ends opts.length π))/\(∃k,La.nextM opts ends opts.length (La.iter (La.nextM opts ends opts.length) k plan)=La.iter (La.nextM opts ends opts.length) k plan) /\
 ∀π x H',P π->La.nextM opts ends opts.length π = π->Same H H'->H x=none->VaI K t H' x (La.valM opts ends opts.length π).1 (La.valM opts ends opts.length π).2->Sized (La.valM opts ends opts.length π).1 (La.valM opts ends opts.length π).2 1000->Q (.ref x) H'
theorem ok_greatest(T:Txt K mg t):Ok P w K mg base 4 t.fQg10 t.fQg ["self","plan"] (sp_greatest K t):=by
 refine T.Quest_greatest.fn.okX sQg (fun vs H Q E h=>?_) fun cdv A outer s H vs Q E hr h=>?_
 ·obtain⟨q,pl,opts,ends,plan,P,rfl,_⟩:=h;rfl
 ·obtain⟨q,pl,opts,ends,plan,Pp,rfl,hq,hpl,f,p0,ps,⟨k,hk⟩,h⟩:=h
  have hr1:=hr.mono (show 1<=3 by decide)
  refine⟨_,po10 (pw10 po12 (pv10 pe_bl)
   (pc11 (ps10 (i:=2) sQg.nd rfl (Or.inl rfl) (pf10 T.solve (ok_solve T) hr rfl pass1 (pc
    (pl14 (own:=[("place",3)]) rfl sQg.nd (pr11 (by rfl) T.b_range (pc (pc12 cls10 (by rfl) T.b_len bl11 (pc (pv 1) pn10)) pn10)) (bb10 rfl) (fun _ _ _ _ _=>pn11 (i:=3) sQg.nd rfl (Or.inl rfl)) (fun _ _ _ _ _=>pn12)
     (fun _ _ _ _ _=>pc_me T.kQ T.Quest_equation (ok_equation T) hr1 pass1 (pv 0) (pc (pv 1)<|pc (pv 3) pn10))) pn10)))<|
     pc11 (ps10 (i:=4) sQg.nd rfl (Or.inl rfl) (pc_me T.kQ T.Quest_improved (ok_improved T) hr pass1 (pv 0) (pc (pv 1)<|pc (pv 2) pn10)))<|
     pc11 (ps_if (pc13 (op_eqL K hr.units) (pv 4) (pv 1) (nomark _)) (po10 (pr10 (pv 2))) pn13)<|
     po10 (ps10 (i:=1) sQg.nd rfl (Or.inr rfl) (pv 4)))),?_⟩
  have Pi:∀i,Pp (La.iter (La.nextM opts ends opts.length) i plan):=fun i=>by
   induction i with
   |zero=>exact p0
   |succ i ih=>rw[La.is11];exact (ps _ ih).2.2
  refine⟨fun m σ H9=>∃i pl' v2 v4,σ=[some (.ref q),some (.ref pl'),v2,none,v4]/\Same H H9/\SqL K H9 pl' ((La.iter (La.nextM opts ends opts.length) i plan).map V.int)/\i<=k/\m=k-i,
   ⟨_,0,pl,none,none,rfl,Same.refl _,hpl,Nat.zero_le _,rfl⟩,?_⟩
  rintro m σ H9 ⟨i,pl',v2,v4,rfl,k9,hp9,hik,rfl⟩
  obtain⟨F,⟨u,Ku⟩,pn⟩:=ps _ (Pi i)
  have nx:La.iter (La.nextM opts ends opts.length) (i+1) plan=La.nextM opts ends opts.length (La.iter (La.nextM opts ends opts.length) i plan):=La.is11 _ _ _
  have hpi:=Pi i
  have hlast:i=k->La.nextM opts ends opts.length (La.iter (La.nextM opts ends opts.length) i plan)=La.iter (La.nextM opts ends opts.length) i plan:=fun e=>by rw[e];exact hk
  generalize La.iter (La.nextM opts ends opts.length) i plan = π at *
  have hp:=(La.G_dom (La.val_dom f.ways F Ku) opts.length (Nat.le_refl _)).1
  have vl:=La.val_ok f.ways F Ku
  refine⟨true,rfl,brT rfl ⟨fun σ H8=>∃D x,σ=[some (.ref q),some (.ref D),some (.ref x),none,some (.ref D)]/\Same H H8/\H8 D=some (.lst ((La.nextM opts ends opts.length π).map V.int))/\i<k,?_,?_⟩⟩
  ·rintro σ H8 ⟨D,x,rfl,k8,h8,lt⟩
   exact⟨k-(i+1),by omega,i+1,D,_,_,rfl,k8,by rw[nx];exact SqL.of h8,lt,rfl⟩
  have lp:(π.map V.int).length=opts.length:=by rw[List.length_map,F.len]
  obtain⟨dq,ol,el,ls,q1,q2,W,q4⟩:=hq.ex
  refine⟨_,rfl,pl',_,rfl,.inl hp9,_,rfl,by rw[lp];have:=f.n16;omega,by rw[lp];have:=f.n16;omega,fun D hD=>?_⟩
  rw[lp]
  have en:(opts.length:Int).toNat=opts.length:=by simp
  refine lc_range (n:=(opts.length:Int).toNat) (fun i H8=>∃qs:List Addr,qs.length=i/\Same H9 H8/\H8 D=some (.lst (qs.map V.ref))/\Ea (fun row a=>H8 a=some (.lst (row.map V.int))/\a≠D) qs ((La.rowsM opts ends opts.length π).take i))
   ⟨[],rfl,su hD,us10,Ea.nil⟩ ?_ ?_
  ·rintro j H8 hj ⟨qs,hqs,k8,h8,E8⟩
   rw[en] at hj
   have ez:(0:Int)+(j:Int)=(j:Int):=by omega
   have K8:=k9.trans k8
   refine⟨rfl,?_⟩
   refine⟨_,rfl,q,dq,_,rfl,K8 _ _ q1,quF_no (by decide) (by decide),_,rfl,_,rfl,q,pl',j,opts.length,opts,ends,π,by rw[ez];rfl,hq.same K8,Same.seq k8 hp9,rfl,f.len,f.n16,hj,F,fun os hos=>(f.opts os hos).2,fun z H7 k7 hz h7=>?_⟩
   have hne:z≠D:=fun e=>by rw[e,h8] at hz;cases hz
   refine⟨qs.map V.ref,k7 _ _ h8,by rw[List.length_map,hqs,sizeLine_eq];have:=f.n16;omega,qs++[z],by simp[hqs],fun b u e=>?_,by rw[us10,List.map_append];rfl,?_⟩
   ·rw[un10 (non10 e hD)]
    exact k7 _ _ (k8 _ _ e)
   ·rw[ts10 (l:=La.rowsM opts ends opts.length π) (x:=La.eqM opts.length j (opts.getD j []) (ends.getD j 0) (π.getD j 0).toNat) (by unfold La.rowsM;rw[List.getElem?_map,List.getElem?_range hj];rfl)]
    exact Ea.snoc (E8.mono fun x a h=>⟨by rw[un10 h.2];exact k7 _ _ h.1,h.2⟩) ⟨by rw[un10 hne];exact h7,hne⟩
  ·rintro H8 ⟨qs,hqs,k8,h8,E8⟩
   have rl:=La.row_len (opts:=opts) (ends:=ends) (n:=opts.length) (plan:=π)
   rw[en,List.take_of_length_le (by rw[rl.1];exact Nat.le_refl _)] at E8
   refine⟨D,qs,La.rowsM opts ends opts.length π,rfl,h8,E8.mono fun x a h=>h.1,by rw[rl.1];exact f.n1,by rw[rl.1];exact f.n16,by rw[rl.1];exact rl.2,by rw[rl.1];exact f.rows F,by rw[rl.1];exact hp,fun x H7 k7 hx V7=>?_⟩
   have K97:=k8.trans k7
   have K7:=k9.trans K97
   refine⟨_,rfl,q,dq,_,rfl,K7 _ _ q1,quF_no (by decide) (by decide),_,rfl,_,rfl,q,ol,pl',x,ls,opts,π,_,_,rfl,⟨dq,_,K7 _ _ q1⟩,K7 _ _ q2,W.mono fun x a h=>h.same K7,Same.seq K97 hp9,V7,?_,f.n16,F,fun B H6 k6 hB h6=>?_⟩
   ·rw[show (La.solveM (La.rowsM opts ends opts.length π)).1.length=opts.length from vl.2.1]
    exact f.opts
   ·have K6:=K7.trans k6
    refine⟨_,rfl,_,rfl,B,pl',_,_,rfl,rfl,SqL.of h6,Same.seq (K97.trans k6) hp9,_,rfl,?_⟩
    by_cases e:La.nextM opts ends opts.length π = π
    ·refine brT (decide_eq_true e) ⟨_,rfl,h π x H6 hpi e K6 (k9.trans k8 |>.free hx) (V7.same k6) (f.sized F hp)⟩
    ·refine brF (decide_eq_false e) ⟨_,rfl,?_⟩
     refine⟨B,x,rfl,K6,h6,?_⟩
     by_cases z:i=k
     ·exact absurd (hlast z) e
     ·omega
end
end Ck
end
noncomputable section
namespace Ck
open PySem PySem.Spec PyProof.Rows L2
section
variable{P:Program}{w:World}{K:PySem.W.Frag}{mg:Str->Option Value}{base:Heap}{t:Adr}
theorem ne_dec(x:Int):(x != 0)=decide (x≠0):=by by_cases h:x=0<;>simp[h]
def sp_leads(K:PySem.W.Frag)(t:Adr):Sp:=fun vs H Q _=>∃(ca ml:Addr) (o:Fq.Opt) (m:List Int),vs=[.ref ca,.ref ml]/\OpI t H o ca/\SqL K H ml (m.map V.int)/\o.ways.length<=16/\(∀w∈o.ways,w.1<m.length)/\∀H',Same H H'->Q (.bl (La.leadsM o m)) H'
theorem ok_leads(T:Txt K mg t):Ok P w K mg base 1 t.fli10 t.fli ["choice","marks"] (sp_leads K t):=by
 refine T.leads_into.fn.okX sli (fun vs H Q E h=>?_) fun cdv A outer s H vs Q E hr h=>?_
 ·obtain⟨ca,ml,o,m,rfl,_⟩:=h;rfl
 ·obtain⟨ca,ml,o,m,rfl,⟨dx,nm,wy,ps,c1,c2,c3,c4⟩,hm,h16,hw,h⟩:=h
  refine⟨_,po10 (pr10 (pc12 (cr_anyI rfl) (by rfl) T.b_any bt_any (pc
   (pl14 (own:=[("way",2)]) rfl sli.nd (pl11 (pf K (pv 0) rfl)) (bb10 rfl) (fun _ _ _ _ _=>pn11 (i:=2) sli.nd rfl (Or.inl rfl)) (fun _ _ _ _ _=>pn12)
    (fun _ _ _ _ _=>pi10 (ixL K) (pv 1) (pi10 (ixT K) (pv 2) pi (fun _ _=>rfl)) (fun _ _=>rfl))) pn10))),?_⟩
  refine⟨_,rfl,ca,_,dx,_,_,rfl,c1,T.kC.cl,T.nCw,cw _ _ _ _,wy,rfl,⟨_,SqL.of c3⟩,fun D hD=>ll10 (K:=K) (a:=wy) (xs:=ps.map V.ref) (fun i H9=>H9=upd H D (.lst (((o.ways.map fun w=>m.getD w.1 0).map V.int).take i))) rfl (fun i H9 _ e9=>by rw[e9];exact SqL.of (by rw[un10 (non10 c3 hD)];exact c3)) ?_ ?_⟩
  ·rintro i v H9 hi rfl
   obtain⟨pa,ea,rfl⟩:=ra10 hi
   obtain⟨wv,ew,hwv⟩:=c4.get ea
   have sm:=su (o:=.lst (((o.ways.map fun w=>m.getD w.1 0).map V.int).take i)) hD
   have wm:=hw wv (List.mem_of_getElem? ew)
   refine⟨rfl,?_⟩
   refine⟨_,rfl,_,rfl,pa,_,_,_,rfl,rfl,SqT.of (sm _ _ hwv),wat0,ml,_,_,_,rfl,rfl,Same.seq sm hm,gi wm,_,us10,?_,?_⟩
   ·rw[List.length_take,sizeLine_eq];simp;omega
   ·rw[uu,ts10 (l:=(o.ways.map fun w=>m.getD w.1 0).map V.int) (x:=V.int (m.getD wv.1 0)) (by rw[List.getElem?_map,List.getElem?_map,ew];rfl)]
  ·rintro H9 rfl
   rw[List.length_map,show ((o.ways.map fun w=>m.getD w.1 0).map V.int).take ps.length=(o.ways.map fun w=>m.getD w.1 0).map V.int from List.take_of_length_le (by rw[List.length_map,List.length_map,c4.len];exact Nat.le_refl _)]
   refine⟨D,_,rfl,SqL.of us10,?_⟩
   have e:((o.ways.map fun w=>m.getD w.1 0).map fun n=>n != 0).any id=La.leadsM o m:=by
    unfold La.leadsM
    rw[List.map_map,List.any_map]
    congr 1
    funext w
    exact ne_dec _
   rw[e]
   exact h _ (su hD)
theorem zl(n:Nat):(La.zeros n).length=n:=by simp[La.zeros]
end
end Ck
end
noncomputable section
namespace Ck
open PySem PySem.Spec PyProof.Rows L2
section
variable{P:Program}{w:World}{K:PySem.W.Frag}{mg:Str->Option Value}{base:Heap}{t:Adr}
def sp_ending(K:PySem.W.Frag)(t:Adr):Sp:=fun vs H Q _=>∃(ol:Addr) (ls:List Addr) (opts:List (List Fq.Opt)),vs=[.ref ol]/\H ol=some (.lst (ls.map V.ref))/\Ea (OsI t H) ls opts/\opts.length<=16/\(∀os∈opts,os.length<=8/\∀o∈os,Small o opts.length) /\
 ∀D H',Same H H'->H D=none->H' D=some (.lst ((La.endM opts opts.length).map V.int))->Q (.ref D) H'
theorem ok_ending(T:Txt K mg t):Ok P w K mg base 2 t.fme10 t.fme ["options"] (sp_ending K t):=by
 refine T.marks_ending.fn.okX sme10 (fun vs H Q E h=>?_) fun cdv A outer s H vs Q E hr h=>?_
 ·obtain⟨ol,ls,opts,rfl,_⟩:=h;rfl
 ·obtain⟨ol,ls,opts,rfl,hol,W,h16,S,h⟩:=h
  refine⟨_,pc11 (ps10 (i:=1) sme10.nd rfl (Or.inr rfl) (pl14 (own:=[("choices",2)]) rfl sme10.nd (pl11 (pv 0)) (bb10 rfl) (fun _ _ _ _ _=>pn11 (i:=2) sme10.nd rfl (Or.inl rfl)) (fun _ _ _ _ _=>pn12) (fun _ _ _ _ _=>pi)))<|
   pc11 (pf14 po12 rfl (pr11 (by rfl) T.b_range (pc (pc12 cls10 (by rfl) T.b_len bl11 (pc (pv 0) pn10)) pn10)) (pn11 (i:=3) sme10.nd rfl (Or.inl rfl))
    (po10 (pf14 po12 rfl (pi_enum (by rfl) T.be (pc (pv 0) pn10)) (pg_two K (i:=4) (j:=2) rfl sme10.nd rfl rfl (Or.inl rfl) (Or.inl rfl))
     (po10 (ps_if (pv10 (pc12 (cr_all rfl) (by rfl) T.b_all bt_all (pc
       (pl14 (own:=[("choice",5)]) rfl sme10.nd (pl11 (pv 2)) (bb10 rfl) (fun _ _ _ _ _=>pn11 (i:=5) sme10.nd rfl (Or.inl rfl)) (fun _ _ _ _ _=>pn12)
        (fun _ _ _ _ _=>pf10 T.leads_into (ok_leads T) hr rfl pass1 (pc (pv 5)<|pc (pv 1) pn10))) pn10)))
      (po10 (ps_asg pi (pg_sub (pv 1) (pv 4) sl11))) pn13)))))<|
   po10 (pr10 (pv 1)),?_⟩
  have lsn:(ls.map V.ref).length=opts.length:=by rw[List.length_map,W.len]
  refine⟨_,rfl,ol,rfl,⟨_,SqL.of hol⟩,fun D hD=>ll10 (K:=K) (a:=ol) (xs:=ls.map V.ref) (fun i H9=>H9=upd H D (.lst (((La.zeros opts.length).map V.int).take i))) rfl (fun i H9 _ e9=>by rw[e9];exact SqL.of (by rw[un10 (non10 hol hD)];exact hol)) ?_ ?_⟩
  ·rintro i x H9 hi rfl
   have hi':i<opts.length:=by rw[<-lsn];exact (List.getElem?_eq_some_iff.mp hi).1
   refine⟨rfl,_,us10,by rw[List.length_take,List.length_map,zl,sizeLine_eq];omega,?_⟩
   rw[uu,ts10 (l:=(La.zeros opts.length).map V.int) (x:=V.int 0) (by unfold La.zeros;rw[List.getElem?_map,List.getElem?_map,List.getElem?_range hi'];rfl)]
  rintro H9 rfl
  rw[lsn,show ((La.zeros opts.length).map V.int).take opts.length=(La.zeros opts.length).map V.int from List.take_of_length_le (by rw[List.length_map,zl];exact Nat.le_refl _)]
  have k0:=su (o:=.lst ((La.zeros opts.length).map V.int)) hD
  refine⟨_,rfl,ol,_,rfl,.inl (SqL.of (k0 _ _ hol)),_,rfl,by rw[lsn];omega,by rw[lsn];omega,?_⟩
  rw[lsn]
  have en:(opts.length:Int).toNat=opts.length:=by simp
  have B:∀k,La.Bits (La.iter (La.endTurn opts opts.length) k (La.zeros opts.length)) opts.length:=fun k=>La.ik (P:=fun m=>La.Bits m opts.length) (fun _ b=>La.eb10 b) k _ (La.bz _)
  refine for_range (n:=(opts.length:Int).toNat) (fun k σ H9=>∃v2 v3 v4,σ=[some (.ref ol),some (.ref D),v2,v3,v4,none]/\Same H H9/\H9 D=some (.lst ((La.iter (La.endTurn opts opts.length) k (La.zeros opts.length)).map V.int)))
   ⟨none,none,none,rfl,k0,us10⟩ ?_ ?_
  ·rintro k σ H9 hk ⟨v2,v3,v4,rfl,k9,h9⟩
   have Bk:=B k
   have nx:La.iter (La.endTurn opts opts.length) (k+1) (La.zeros opts.length)=La.endTurn opts opts.length (La.iter (La.endTurn opts opts.length) k (La.zeros opts.length)):=La.is11 _ _ _
   generalize La.iter (La.endTurn opts opts.length) k (La.zeros opts.length)=m at *
   refine⟨_,rfl,ol,_,rfl,SqL.of (k9 _ _ hol),fe (K:=K) (a:=ol) (xs:=ls.map V.ref) (fun i σ H8=>∃v2 v3 v4,σ=[some (.ref ol),some (.ref D),v2,v3,v4,none]/\Same H H8/\H8 D=some (.lst (((List.range i).foldl (La.endStep opts) m).map V.int)))
    ⟨_,_,_,rfl,k9,h9⟩ (fun i σ H8 _ ⟨_,_,_,_,e,_⟩=>SqL.of (e _ _ hol)) ?_ ?_⟩
   ·rintro i x σ H8 T8 hi hT8 ⟨w2,w3,w4,rfl,k8,h8⟩
    obtain⟨la,el,rfl⟩:=ra10 hi
    obtain⟨os,eo,as,l1,l2⟩:=W.get el
    have hin:i<opts.length:=(List.getElem?_eq_some_iff.mp eo).1
    have go:opts.getD i []=os:=by rw[List.getD_eq_getElem?_getD,eo];rfl
    obtain⟨o8,So⟩:=S os (List.mem_of_getElem? eo)
    have Bi:La.Bits ((List.range i).foldl (La.endStep opts) m) opts.length:=La.fi (P:=fun m=>La.Bits m opts.length) _ _ (fun _ _ _ b=>La.eb11 b) Bk
    have nx2:(List.range (i+1)).foldl (La.endStep opts) m=La.endStep opts ((List.range i).foldl (La.endStep opts) m) i:=by rw[List.range_succ,List.foldl_append];rfl
    rw[nx2]
    generalize (List.range i).foldl (La.endStep opts) m=mi at *
    have k7:Same H8 (upd H8 T8 (.tup [.int (i:Nat),.ref la])):=su hT8
    have K7:=k8.trans k7
    have h7:=k7 _ _ h8
    refine gTwo.at us10 ?_
    generalize upd H8 T8 (.tup [.int (i:Nat),.ref la])=H7 at *
    refine⟨_,rfl,la,rfl,⟨_,SqL.of (K7 _ _ l1)⟩,fun Z hZ=>ll10 (K:=K) (a:=la) (xs:=as.map V.ref) (fun j H6=>Same H7 H6/\H6 Z=some (.lst (((os.map fun o=>La.leadsM o mi).map V.bl).take j)))
     ⟨su hZ,us10⟩ (fun j H6 _ ⟨e,_⟩=>SqL.of (e _ _ (K7 _ _ l1))) ?_ ?_⟩
    ·rintro j y H6 hj ⟨k6,h6⟩
     obtain⟨ca,ec,rfl⟩:=ra10 hj
     obtain⟨o,eo2,ho⟩:=l2.get ec
     have hjl:j<os.length:=(List.getElem?_eq_some_iff.mp eo2).1
     have sm:=So o (List.mem_of_getElem? eo2)
     refine⟨rfl,?_⟩
     refine⟨_,rfl,_,rfl,ca,D,o,mi,rfl,ho.same (K7.trans k6),SqL.of (k6 _ _ h7),sm.ways.1,fun w hw=>by rw[Bi.len];exact (sm.ways.2 w hw).1,fun H5 k5=>?_⟩
     refine⟨_,k5 _ _ h6,by rw[List.length_take,sizeLine_eq];simp;omega,fun b u e=>?_,?_⟩
     ·rw[un10 (non10 e hZ)]
      exact k5 _ _ (k6 _ _ e)
     ·rw[us10,ts10 (l:=(os.map fun o=>La.leadsM o mi).map V.bl) (x:=V.bl (La.leadsM o mi)) (by rw[List.getElem?_map,List.getElem?_map,eo2];rfl)]
    ·rintro H6 ⟨k6,h6⟩
     rw[List.length_map,show ((os.map fun o=>La.leadsM o mi).map V.bl).take as.length=(os.map fun o=>La.leadsM o mi).map V.bl from List.take_of_length_le (by rw[List.length_map,List.length_map,l2.len];exact Nat.le_refl _)] at h6
     refine⟨Z,_,rfl,SqL.of h6,_,rfl,?_⟩
     have ea:(os.map fun o=>La.leadsM o mi).all id=(opts.getD i []).all fun o=>La.leadsM o mi:=by rw[go,List.all_map];rfl
     have hD6:=k6 _ _ h7
     cases c:(opts.getD i []).all fun o=>La.leadsM o mi with
     |true=>
      refine brT (ea.trans c) ?_
      refine⟨_,rfl,_,rfl,D,_,(i:Int),i,rfl,rfl,hD6,ix_nat (by rw[List.length_map,Bi.len];exact hin),?_⟩
      rw[pr12]
      refine⟨_,_,_,rfl,fun b u e=>?_,?_⟩
      ·rw[un10 (non10 e hD)]
       exact k6 _ _ (K7 _ _ e)
      ·rw[us10]
       unfold La.endStep
       rw[if_pos c]
     |false=>
      refine brF (ea.trans c) ?_
      refine⟨_,_,_,rfl,K7.trans k6,?_⟩
      unfold La.endStep
      rw[if_neg (by rw[c];simp)]
      exact hD6
   ·rintro σ H8 ⟨w2,w3,w4,rfl,k8,h8⟩
    rw[lsn] at h8
    exact⟨_,_,_,rfl,k8,by rw[nx];exact h8⟩
  ·rintro σ H9 ⟨v2,v3,v4,rfl,k9,h9⟩
   rw[en] at h9
   exact⟨_,rfl,h D H9 k9 hD h9⟩
end
end Ck
end
noncomputable section
namespace Ck
open PySem PySem.Spec PyProof.Rows L2
section
variable{P:Program}{w:World}{K:PySem.W.Frag}{mg:Str->Option Value}{base:Heap}{t:Adr}
theorem sum_le:∀{ws:List (Nat×Nat)},(∀w∈ws,w.2<=1000)->(ws.map fun w=>w.2).sum<=ws.length*1000
 |[],_=>by simp
 |w::ws,h=>by
  have i:=sum_le (ws:=ws) fun x hx=>h x (by simp[hx])
  have a:=h w (by simp)
  rw[List.map_cons,List.sum_cons,List.length_cons];omega
theorem opt_small{N:Ra61.Net}(G:Fq.Good N){s:Nat}{c:Ra61.Choice}(hc:c∈Ra61.choicesOf N s){m:Int}(hm:m=0\/m = -1):Small (Fq.optOf m c) N.length:=by
 obtain⟨x,hx,hc'⟩:=Fq.cm11 hc
 obtain⟨a,b,d,e,f⟩:=G.ways x hx c hc'
 have wp:=Fq.weight_pos a fun w hw=>(d w hw).2.1
 have ws:=sum_le (ws:=c.ways) fun w hw=>(d w hw).2.2
 have wt:c.weight<=16000:=by
  show (c.ways.map fun w=>w.2).sum<=16000
  omega
 refine⟨?_,⟨by show (0:Int)<(c.weight:Int);omega,by show (c.weight:Int)<=16000000;omega⟩,⟨b,fun w hw=>⟨(d w hw).1,by have:=(d w hw).2.2;omega⟩⟩⟩
 show -1000<=c.gain*m/\c.gain*m<=1000
 rcases hm with rfl | rfl<;>constructor<;>omega
theorem choices_few{N:Ra61.Net}(G:Fq.Good N)(s:Nat):(Ra61.choicesOf N s).length<=8:=by
 unfold Ra61.choicesOf
 cases e:N[s]? with
 |none=>simp
 |some y=>simp only[Option.map_some,Option.getD_some];exact G.few y (List.mem_of_getElem? e)
theorem till_len(N:Ra61.Net)(g:Nat)(m:Int):(Fq.till N g m).length=N.length:=by simp[Fq.till]
theorem till_small{N:Ra61.Net}{g:Nat}(G:Fq.Good N){m:Int}(hm:m=0\/m = -1):∀os∈Fq.till N g m,os.length<=8/\∀o∈os,Small o N.length:=fun os hos=>by
 obtain⟨s,_,rfl⟩:=List.mem_map.mp hos
 split
 ·exact⟨by simp,fun o ho=>by cases ho⟩
 ·refine⟨by rw[List.length_map];exact choices_few G s,fun o ho=>?_⟩
  obtain⟨c,hc,rfl⟩:=List.mem_map.mp ho
  exact opt_small G hc hm
theorem where_small{n:Nat}{b:Nat->Bool}{opts:List (List Fq.Opt)}{m:Nat}(h:∀os∈opts,os.length<=8/\∀o∈os,Small o m):∀os∈La.whereM n b opts,os.length<=8/\∀o∈os,Small o m:=fun os hos=>by
 obtain⟨s,_,rfl⟩:=List.mem_map.mp hos
 split
 ·by_cases q:s<opts.length
  ·exact h _ (opts_at q)
  ·rw[List.getD_eq_getElem?_getD,List.getElem?_eq_none (by omega)]
   exact⟨by simp,fun o ho=>by cases ho⟩
 ·exact⟨by simp,fun o ho=>by cases ho⟩
theorem vaF_no{a b:V}{m:Str}(h1:(m==("tops":Str))=false)(h2:(m==("bottom":Str))=false):(vaF a b).lookup m=none:=by
 unfold vaF
 rw[lp10,if_neg (fun z=>by rw[z] at h2;exact absurd h2 (by decide)),lp10,if_neg (fun z=>by rw[z] at h1;exact absurd h1 (by decide))]
 rfl
theorem lr11:∀(xs bs:List (List Nat)),xs.length=bs.length->linesB xs bs=(List.range xs.length).flatMap fun s=>lineB (xs.getD s []) (bs.getD s [])
 |[],[],_=>rfl
 |x::xs,b::bs,h=>by
  have i:=lr11 xs bs (by simpa using h)
  rw[List.length_cons,List.range_succ_eq_map,List.flatMap_cons,List.flatMap_map]
  show lineB x b++linesB xs bs=_
  rw[i]
  rfl
theorem flat_congr{α β:Type}{f g:α->List β}:∀{l:List α},(∀x∈l,f x=g x)->l.flatMap f=l.flatMap g
 |[],_=>rfl
 |x::l,h=>by rw[List.flatMap_cons,List.flatMap_cons,h x (by simp),flat_congr fun y hy=>h y (by simp[hy])]
def outF(N:Ra61.Net)(v:Ra61.Row):List Nat:=Ra61.linesOf N fun s=>(Ra61.toldFr (Ra61.at_ v s),none)
theorem out_rows{N:Ra61.Net}{v:Ra61.Row}{tops:List Int}{d:Nat}(R:Fq.Row_ v tops (d:Int))(hl:tops.length=N.length):linesB (N.map fun s=>s.name) (tops.map fun z=>Ra61.frac z d)=outF N v:=by
 unfold outF Ra61.linesOf
 rw[lr11 _ _ (by rw[List.length_map,List.length_map,hl]),List.length_map]
 refine flat_congr fun s hs=>?_
 have hs:=List.mem_range.mp hs
 have hs':s<tops.length:=by omega
 have e1:(N.map fun s=>s.name).getD s []=Ra61.nameOf N s:=by
  rw[List.getD_eq_getElem?_getD,List.getElem?_map];rfl
 have e2:(tops.map fun z=>Ra61.frac z d).getD s []=Ra61.toldFr (Ra61.at_ v s):=by
  rw[(R.at hs').told,Int.toNat_natCast,List.getD_eq_getElem?_getD,List.getElem?_map,List.getElem?_eq_getElem hs',List.getD_eq_getElem?_getD,List.getElem?_eq_getElem hs'];rfl
 rw[e1,e2]
 unfold lineB Ra61.line
 simp
end
end Ck
end
noncomputable section
namespace Ck
open PySem PySem.Spec PyProof.Rows L2
section
variable{P:Program}{w:World}{K:PySem.W.Frag}{mg:Str->Option Value}{base:Heap}{t:Adr}
def sp_where(K:PySem.W.Frag)(t:Adr):Sp:=fun vs H Q _=>∃(ml ol:Addr) (xs:List V) (b:Nat->Bool) (ls:List Addr) (opts:List (List Fq.Opt)),vs=[.ref ml,.ref ol]/\SqL K H ml xs/\xs.length=opts.length/\(∀i v,xs[i]? = some v->∀H,TruV K v H (b i))/\H ol=some (.lst (ls.map V.ref))/\Ea (OsI t H) ls opts/\opts.length<=16 /\
 ∀D ws H',Same H H'->H D=none->H' D=some (.lst (ws.map V.ref))->Ea (OsI t H') ws (La.whereM opts.length b opts)->Q (.ref D) H'
theorem ok_where(T:Txt K mg t):Ok P w K mg base 1 t.fow10 t.fow ["marks","options"] (sp_where K t):=by
 refine T.options_where.fn.okX sow (fun vs H Q E h=>?_) fun cdv A outer s H vs Q E hr h=>?_
 ·obtain⟨ml,ol,xs,b,ls,opts,rfl,_⟩:=h;rfl
 ·obtain⟨ml,ol,xs,b,ls,opts,rfl,hml,hxl,hx,hol,W,h16,h⟩:=h
  refine⟨_,po10 (pr10 (pl14 (own:=[("mark",2),("choices",3)]) rfl sow.nd (pz (by rfl) T.b_zip (pc (pv 0)<|pc (pv 1) pn10)) (bb10 rfl)
   (fun _ _ _ _ _=>pg_two K (i:=2) (j:=3) rfl sow.nd rfl rfl (Or.inl rfl) (Or.inl rfl)) (fun _ _ _ _ _=>pn12)
   (fun _ _ _ _ _=>pi11 (pt_truK K (pv 2)) (pv 3) (pl12 pn10)))),?_⟩
  have hlen:xs.length=(ls.map V.ref).length:=by rw[List.length_map,W.len,hxl]
  have wl:(La.whereM opts.length b opts).length=opts.length:=by simp[La.whereM]
  refine⟨_,rfl,_,rfl,ml,ol,_,_,rfl,hml,SqL.of hol,fun D hD=>lc_zip (K:=K) (a:=ml) (b:=ol) (xs:=xs) (ys:=ls.map V.ref) hlen
   (fun i H9=>∃qs:List Addr,qs.length=i/\Same H H9/\H9 D=some (.lst (qs.map V.ref))/\Ea (OsD t H9 D) qs ((La.whereM opts.length b opts).take i))
   ⟨[],rfl,su hD,us10,Ea.nil⟩ (fun i H9 _ ⟨_,_,e,_,_⟩=>⟨Same.seq e hml,SqL.of (e _ _ hol)⟩) ?_ ?_⟩
  ·rintro i v u H9 T9 hi hj hT9 ⟨qs,hqs,k9,h9,E9⟩
   obtain⟨la,el,rfl⟩:=ra10 hj
   obtain⟨os,eo,ho⟩:=W.get el
   have hin:i<opts.length:=(List.getElem?_eq_some_iff.mp eo).1
   have tv:=hx i v hi
   have k10:Same H9 (upd H9 T9 (.tup [v,.ref la])):=su hT9
   have h10:=k10 _ _ h9
   have E10:=E9.mono fun x a h=>OsD.same h k10
   have K10:=k9.trans k10
   have ke:(La.whereM opts.length b opts)[i]? = some (if b i=true then os else []):=by
    unfold La.whereM
    rw[List.getElem?_map,List.getElem?_range hin]
    show some (if b i=true then opts.getD i [] else [])=_
    rw[List.getD_eq_getElem?_getD,eo];rfl
   refine gTwo.at us10 ⟨rfl,?_⟩
   generalize upd H9 T9 (.tup [v,.ref la])=H10 at *
   have fin:∀(z:Addr) (H4:Hp),Same H10 H4->OsD t H4 D (if b i=true then os else []) z->∃acc,H4 D=some (.lst acc)/\acc.length<sizeLine/\∃qs:List Addr,qs.length=i+1/\Same H (upd H4 D (.lst (acc++[V.ref z]))) /\
     (upd H4 D (.lst (acc++[V.ref z]))) D=some (.lst (qs.map V.ref))/\Ea (OsD t (upd H4 D (.lst (acc++[V.ref z]))) D) qs ((La.whereM opts.length b opts).take (i+1)):=fun z H4 k4 hz=>by
    have hD4:=k4 _ _ h10
    refine⟨qs.map V.ref,hD4,by rw[List.length_map,hqs,sizeLine_eq];omega,qs++[z],by simp[hqs],fun b u e=>?_,by rw[us10,List.map_append];rfl,?_⟩
    ·rw[un10 (non10 e hD)]
     exact k4 _ _ (K10 _ _ e)
    ·rw[ts10 ke]
     exact Ea.snoc (E10.mono fun x a h=>(OsD.same h k4).put hD4) (hz.put hD4)
   refine⟨_,rfl,b i,tv _,?_⟩
   cases hb:b i with
   |true=>
    rw[hb,if_pos rfl] at fin
    exact brT rfl ⟨_,rfl,fin la H10 (Same.refl _) (ho.new hD K10)⟩
   |false=>
    rw[hb,if_neg (by simp)] at fin
    refine brF rfl ⟨by simp,fun z hz=>fin z _ (su hz) ⟨(fun q=>by rw[q,h10] at hz;cases hz),[],us10,Ea.nil⟩⟩
  ·rintro H9 ⟨qs,hqs,k9,h9,E9⟩
   rw[hxl] at hqs E9
   rw[List.take_of_length_le (by rw[wl];exact Nat.le_refl _)] at E9
   exact h D qs H9 k9 hD h9 (E9.mono fun x a h=>h.os)
end
end Ck
end
noncomputable section
namespace Ck
open PySem PySem.Spec PyProof.Rows L2
section
variable{P:Program}{w:World}{K:PySem.W.Frag}{mg:Str->Option Value}{base:Heap}{t:Adr}
def sp_negative(K:PySem.W.Frag)(t:Adr):Sp:=fun vs H Q _=>∃(va:Addr) (tops:List Int) (bot:Int),vs=[.ref va]/\VaI K t H va tops bot/\tops.length<=16/\∀x H',Same H H'->H x=none->VaI K t H' x (tops.map fun z=>-z) bot->Q (.ref x) H'
theorem ok_negative(T:Txt K mg t):Ok P w K mg base 3 t.fVn10 t.fVn ["self"] (sp_negative K t):=by
 refine T.Values_negative.fn.okX sVn (fun vs H Q E h=>?_) fun cdv A outer s H vs Q E hr h=>?_
 ·obtain⟨va,tops,bot,rfl,_⟩:=h;rfl
 ·obtain⟨va,tops,bot,rfl,⟨dv,tl,v1,v2⟩,hn,h⟩:=h
  refine⟨_,po10 (pr10 (pc_mk T.kV10 T.Values_init (ovi T) hr rfl pass1 (pc (pl14 (own:=[("top",1)]) rfl sVn.nd (pl11 (pf K (pv 0) rfl)) (bb10 rfl) (fun _ _ _ _ _=>pn11 (i:=1) sVn.nd rfl (Or.inl rfl)) (fun _ _ _ _ _=>pn12)
   (fun _ _ _ _ _=>pe_un un_neg (pv 1)))<|pc (pf K (pv 0) rfl) pn10))),?_⟩
  refine⟨_,rfl,va,_,dv,_,_,rfl,v1,T.kV10.cl,T.nVt,vt _ _,tl,rfl,⟨_,v2⟩,fun D hD=>ll10 (K:=K) (a:=tl) (xs:=tops.map V.int) (fun i H9=>H9=upd H D (.lst (((tops.map fun z=>-z).map V.int).take i))) rfl (fun i H9 _ e9=>by rw[e9];exact Same.seq (su hD) v2) ?_ ?_⟩
  ·rintro i x H9 hi rfl
   obtain⟨hi1,rfl⟩:=int_at hi
   refine⟨rfl,?_⟩
   refine⟨_,rfl,_,rfl,_,us10,by rw[List.length_take,sizeLine_eq];simp;omega,?_⟩
   rw[uu,ts10 (l:=(tops.map fun z=>-z).map V.int) (x:=V.int (-(tops.getD i 0))) (by rw[List.getElem?_map,List.getElem?_map,List.getElem?_eq_getElem hi1,List.getD_eq_getElem?_getD,List.getElem?_eq_getElem hi1];rfl)]
  ·rintro H9 rfl
   rw[List.length_map,show ((tops.map fun z=>-z).map V.int).take tops.length=(tops.map fun z=>-z).map V.int from List.take_of_length_le (by rw[List.length_map,List.length_map];exact Nat.le_refl _)]
   have k1:=su (o:=.lst ((tops.map fun z=>-z).map V.int)) hD
   refine⟨_,rfl,va,_,dv,_,_,rfl,k1 _ _ v1,T.kV10.cl,T.nVb,vb _ _,?_⟩
   intro x dx hx hdx hne
   refine⟨x,dx,_,_,rfl,us10,?_⟩
   rw[uu]
   have k2:=sm12 (u:=.own x) (v:=.ins t.cV dx (vaF (.ref D) (.int bot))) hx hdx
   exact⟨rfl,h x _ (k1.trans k2) (k1.free hx) ⟨dx,D,us10,SqL.of (k2 _ _ us10)⟩⟩
end
end Ck
end
noncomputable section
namespace Ck
open PySem PySem.Spec PyProof.Rows L2
section
variable{P:Program}{w:World}{K:PySem.W.Frag}{mg:Str->Option Value}{base:Heap}{t:Adr}
theorem fair_L{N:Ra61.Net}{g:Nat}(G:Fq.Good N):Fair (La.optsL N g) (La.endsL N g):=by
 have l1:(La.optsL N g).length=N.length:=by simp[La.optsL,La.whereM]
 refine⟨by rw[l1];exact G.len.1,by rw[l1];exact G.len.2,by rw[l1];simp[La.endsL,Fq.marksOf],fun e he=>?_,?_⟩
 ·obtain⟨m,hm,rfl⟩:=List.mem_map.mp he
  obtain⟨s,_,rfl⟩:=List.mem_map.mp hm
  split<;>decide
 ·rw[l1]
  exact where_small (till_small G (.inl rfl))
def sp_worst(K:PySem.W.Frag)(t:Adr):Sp:=fun vs H Q E=>∃(g room:Int) (l:Addr) (bs:List Nat),vs=[.int g,.int room,.ref l]/\SqL K H l (byts bs)/\(∀c∈bs,c<256) /\
 if (0<=g/\g<=65535)/\bs.length<=65536/\0<=room/\room<=65536 then
  OptP (Rd.readStates bs) (∀H',E (.ref t.xN) none H') (fun N=>if 2^N.length<=g.toNat then ∀H',E (.ref t.xN10) none H' else
   if room<((outF N (Ra61.worst N g.toNat)).length:Int) then ∀H',E (.ref t.xN11) none H' else
    ∀D H',Same H H'->H' D=some (.lst (((((outF N (Ra61.worst N g.toNat)).length:Nat):Int)::(outF N (Ra61.worst N g.toNat)).map fun (b:Nat)=>(b:Int)).map V.int))->Q (.ref D) H')
 else ∀H',E (.ref t.xO) none H'
theorem otw(T:Txt K mg t)(kb:K.In base)(hN:base.NoSeer)(hP:P.given.tree=none):Ok P w K mg base 38 t.ftw10 t.ftw ["goals","room","text"] (sp_worst K t):=by
 refine T.tell_worst.fn.okX stw (fun vs H Q E h=>?_) fun cdv A outer s H vs Q E hr h=>?_
 ·obtain⟨g,room,l,bs,rfl,_⟩:=h;rfl
 ·obtain⟨g,room,l,bs,rfl,hl,hb,h⟩:=h
  have hr1:=hr.mono (show 1<=37 by decide)
  have hr2:=hr.mono (show 2<=37 by decide)
  have hr3:=hr.mono (show 3<=37 by decide)
  have hr4:=hr.mono (show 4<=37 by decide)
  have hr10:=hr.mono (show 10<=37 by decide)
  refine⟨_,pc11 (ps10 (i:=3) stw.nd rfl (Or.inl rfl) (pf10 T.read_given_goals (org T kb) hr10 rfl (passes1 xo) (pc (pv 2)<|pc (pv 1)<|pc (pv 0) pn10)))<|
   pc11 (ps10 (i:=4) stw.nd rfl (Or.inl rfl) (pf10 T.goal_marks (ogm T) hr1 rfl pass1 (pc (pv 0)<|pc (pv 3) pn10)))<|
   pc11 (ps10 (i:=5) stw.nd rfl (Or.inl rfl) (pf10 T.options_till (oot T) hr4 rfl pass1 (pc (pv 4)<|pc (pv 3)<|pc pi pn10)))<|
   pc11 (ps10 (i:=6) stw.nd rfl (Or.inl rfl) (pc_mk T.kQ T.Quest_init (oqi T) hr2 rfl pass1 (pc (pf10 T.options_where (ok_where T) hr1 rfl pass1 (pc (pf10 T.marks_ending (ok_ending T) hr2 rfl pass1 (pc (pv 5) pn10))<|pc (pv 5) pn10))<|pc
    (pl14 (own:=[("mark",7)]) rfl stw.nd (pl11 (pv 4)) (bb10 rfl) (fun _ _ _ _ _=>pn11 (i:=7) stw.nd rfl (Or.inl rfl)) (fun _ _ _ _ _=>pn12) (fun _ _ _ _ _=>pe_un un_neg (pv 7))) pn10)))<|
   pc11 (ps10 (i:=8) stw.nd rfl (Or.inl rfl) (pc_me T.kQ T.Quest_greatest (ok_greatest T) hr4 pass1 (pv 6) (pc
    (pl14 (own:=[("state",9)]) rfl stw.nd (pl11 (pv 3)) (bb10 rfl) (fun _ _ _ _ _=>pn11 (i:=9) stw.nd rfl (Or.inl rfl)) (fun _ _ _ _ _=>pn12) (fun _ _ _ _ _=>pi)) pn10)))<|
   po10 (pr10 (pf10 T.tell (ok_tell T kb) hr1 rfl (passes1 xo) (pc (pv 3)<|pc (pm10 T.kV10 T.Values_told (ok_told T hN hP) hr pass1 (pm10 T.kV10 T.Values_negative (ok_negative T) hr3 pass1 (pv 8)))<|pc (pv 1) pn10))),?_⟩
  refine⟨_,rfl,_,rfl,_,rfl,l,bs,room,g,rfl,hl,hb,?_⟩
  by_cases hin:(0<=g/\g<=65535)/\bs.length<=65536/\0<=room/\room<=65536
  case neg=>
   rw[if_neg hin] at h ⊢
   exact h
  rw[if_pos hin] at h ⊢
  cases eN:Rd.readStates bs with
  |none=>rw[eN] at h;exact h
  |some N=>
   rw[eN] at h
   have G:=Rd.net_good eN
   have Nm:=Rd.net_names eN
   have h:if 2^N.length<=g.toNat then ∀H',E (.ref t.xN10) none H' else
     if room<((outF N (Ra61.worst N g.toNat)).length:Int) then ∀H',E (.ref t.xN11) none H' else
      ∀D H',Same H H'->H' D=some (.lst (((((outF N (Ra61.worst N g.toNat)).length:Nat):Int)::(outF N (Ra61.worst N g.toNat)).map fun (b:Nat)=>(b:Int)).map V.int))->Q (.ref D) H':=h
   show if 2^N.length<=g.toNat then _ else _
   by_cases hg:2^N.length<=g.toNat
   ·rw[if_pos hg] at h ⊢
    exact h
   rw[if_neg hg] at h ⊢
   rintro v H1 k1 ⟨sl,sas,rfl,n1,n2⟩
   refine⟨_,rfl,_,rfl,g,sl,_,rfl,hin.1.1,SqL.of n1,by rw[List.length_map,n2.len];exact G.len.2,fun ml hml=>?_⟩
   rw[List.length_map,n2.len]
   have k2:=su (o:=.lst ((marksN N.length g.toNat).map V.int)) hml
   have m2:(upd H1 ml (.lst ((marksN N.length g.toNat).map V.int))) ml=some (.lst ((marksN N.length g.toNat).map V.int)):=us10
   generalize upd H1 ml (.lst ((marksN N.length g.toNat).map V.int))=H2 at *
   have mlen:(marksN N.length g.toNat).length=N.length:=by unfold marksN;simp
   refine⟨_,rfl,_,rfl,ml,sl,0,N,g.toNat,sas,rfl,.inl rfl,SqL.of m2,SqL.of (k2 _ _ n1),n2.mono fun x a h=>h.same k2,G,fun ol ls H3 k3 hol3 o3 E3=>?_⟩
   have tlen:=till_len N g.toNat 0
   have ts:=till_small (g:=g.toNat) G (m:=0) (.inl rfl)
   refine⟨_,rfl,ol,ls,Fq.till N g.toNat 0,rfl,o3,E3,by rw[tlen];exact G.len.2,by rw[tlen];exact ts,fun el H4 k4 hel e4=>?_⟩
   rw[tlen] at e4
   have Be:La.Bits (La.endL N g.toNat) N.length:=La.endM_bits
   refine⟨_,rfl,el,ol,(La.endL N g.toNat).map V.int,fun s=>decide ((La.endL N g.toNat).getD s 0≠0),ls,Fq.till N g.toNat 0,rfl,SqL.of e4,by rw[List.length_map,Be.len,tlen],fun i v hv H=>?_,k4 _ _ o3,E3.mono fun x a h=>h.same k4,by rw[tlen];exact G.len.2,fun D qs H5 k5 hD h5 E5=>?_⟩
   ·obtain⟨hi1,rfl⟩:=int_at hv
    exact (ne_dec _).symm
   rw[tlen] at E5
   have E5:Ea (OsI t H5) qs (La.optsL N g.toNat):=E5
   have K25:=(k3.trans k4).trans k5
   have zen:La.endsL N g.toNat=(marksN N.length g.toNat).map fun m=>-m:=rfl
   have zlen:(La.endsL N g.toNat).length=N.length:=by rw[zen,List.length_map,mlen]
   refine⟨_,rfl,ml,rfl,⟨_,SqL.of (K25 _ _ m2)⟩,fun Z hZ=>ll10 (K:=K) (a:=ml) (xs:=(marksN N.length g.toNat).map V.int) (fun i H9=>H9=upd H5 Z (.lst (((La.endsL N g.toNat).map V.int).take i))) rfl (fun i H9 _ e9=>by rw[e9];exact SqL.of (by rw[un10 (non10 (K25 _ _ m2) hZ)];exact K25 _ _ m2)) ?_ ?_⟩
   ·rintro i x H9 hi rfl
    obtain⟨hi1,rfl⟩:=int_at hi
    refine⟨rfl,?_⟩
    refine⟨_,rfl,_,rfl,_,us10,by rw[List.length_take,List.length_map,zlen,sizeLine_eq];have:=G.len.2;omega,?_⟩
    rw[uu,ts10 (l:=(La.endsL N g.toNat).map V.int) (x:=V.int (-((marksN N.length g.toNat).getD i 0))) (by rw[zen,List.getElem?_map,List.getElem?_map,List.getElem?_eq_getElem hi1,List.getD_eq_getElem?_getD,List.getElem?_eq_getElem hi1];rfl)]
   rintro H9 rfl
   rw[List.length_map,mlen,show ((La.endsL N g.toNat).map V.int).take N.length=(La.endsL N g.toNat).map V.int from List.take_of_length_le (by rw[List.length_map,zlen];exact Nat.le_refl _)]
   have k6:=su (o:=.lst ((La.endsL N g.toNat).map V.int)) hZ
   have z6:(upd H5 Z (.lst ((La.endsL N g.toNat).map V.int))) Z=some (.lst ((La.endsL N g.toNat).map V.int)):=us10
   generalize upd H5 Z (.lst ((La.endsL N g.toNat).map V.int))=H6 at *
   intro qa dq hqa hdq hne
   refine⟨qa,dq,_,_,rfl,us10,?_⟩
   rw[uu]
   refine⟨rfl,?_⟩
   have k7:=sm12 (u:=.own qa) (v:=.ins t.cQ dq (quF (.ref D) (.ref Z))) hqa hdq
   have q7:(upd (upd H6 dq (.own qa)) qa (.ins t.cQ dq (quF (.ref D) (.ref Z)))) qa=some (.ins t.cQ dq (quF (.ref D) (.ref Z))):=us10
   generalize upd (upd H6 dq (.own qa)) qa (.ins t.cQ dq (quF (.ref D) (.ref Z)))=H7 at *
   have QE:QuE K t H7 qa (La.optsL N g.toNat) (La.endsL N g.toNat):=⟨dq,D,Z,qs,q7,k7 _ _ (k6 _ _ h5),E5.mono fun x a h=>(h.same k6).same k7,SqL.of (k7 _ _ z6)⟩
   have K17:=(k2.trans (K25.trans k6)).trans k7
   refine⟨_,rfl,qa,dq,_,rfl,q7,quF_no (by decide) (by decide),_,rfl,sl,rfl,⟨_,SqL.of (K17 _ _ n1)⟩,fun Y hY=>ll10 (K:=K) (a:=sl) (xs:=sas.map V.ref) (fun i H9=>H9=upd H7 Y (.lst (((La.zeros N.length).map V.int).take i))) rfl (fun i H9 _ e9=>by rw[e9];exact SqL.of (by rw[un10 (non10 (K17 _ _ n1) hY)];exact K17 _ _ n1)) ?_ ?_⟩
   ·rintro i x H9 hi rfl
    obtain⟨sa,ea,rfl⟩:=ra10 hi
    have hi:i<N.length:=by rw[<-n2.len];exact (List.getElem?_eq_some_iff.mp ea).1
    refine⟨rfl,_,us10,by rw[List.length_take,List.length_map,zl,sizeLine_eq];have:=G.len.2;omega,?_⟩
    rw[uu,ts10 (l:=(La.zeros N.length).map V.int) (x:=V.int 0) (by unfold La.zeros;rw[List.getElem?_map,List.getElem?_map,List.getElem?_range hi];rfl)]
   rintro H9 rfl
   rw[List.length_map,n2.len,show ((La.zeros N.length).map V.int).take N.length=(La.zeros N.length).map V.int from List.take_of_length_le (by rw[List.length_map,zl];exact Nat.le_refl _)]
   have k8:=su (o:=.lst ((La.zeros N.length).map V.int)) hY
   have y8:(upd H7 Y (.lst ((La.zeros N.length).map V.int))) Y=some (.lst ((La.zeros N.length).map V.int)):=us10
   generalize upd H7 Y (.lst ((La.zeros N.length).map V.int))=H8 at *
   obtain⟨ks,hks,_⟩:=La.worstM_stops (g:=g.toNat) G
   have ow:(La.optsL N g.toNat).length=N.length:=by simp[La.optsL,La.whereM]
   refine⟨qa,Y,La.optsL N g.toNat,La.endsL N g.toNat,La.zeros N.length,La.FitL N g.toNat,rfl,QE.same k8,SqL.of y8,fair_L G,La.fz,fun π Fπ=>by rw[ow];exact⟨Fπ.fit,La.keepsL G Fπ.fit,La.fitL_next G Fπ⟩,by rw[ow];exact⟨ks,hks⟩,fun π va H9 Fπ eπ k9 hva V9 Z9=>?_⟩
   rw[ow] at eπ V9 Z9
   obtain⟨b0,vl,R⟩:=La.worst_row G Fπ eπ
   clear eπ hks
   generalize La.valM (La.optsL N g.toNat) (La.endsL N g.toNat) N.length π = VV at *
   obtain⟨tops,bot⟩:=VV
   have b0:0<bot:=b0
   have vl:tops.length=N.length:=vl
   have V9:VaI K t H9 va tops bot:=V9
   have Z9:Sized tops bot 1000:=Z9
   have R:Fq.Row_ (Ra61.worst N g.toNat) (tops.map fun z=>-z) bot:=R
   obtain⟨d,rfl⟩:=Int.eq_ofNat_of_zero_le (Int.le_of_lt b0)
   obtain⟨dv,tl,v1,v2⟩:=id V9
   have K19:=(K17.trans k8).trans k9
   refine⟨_,rfl,_,rfl,va,dv,_,rfl,v1,vaF_no (by decide) (by decide),va,tops,(d:Int),rfl,V9,by rw[vl];exact G.len.2,fun nv H10 k10 hnv V10=>?_⟩
   obtain⟨dv',tl',w1,w2⟩:=id V10
   have nl:(tops.map fun z=>-z).length=N.length:=by rw[List.length_map,vl]
   have Z10:Sized (tops.map fun z=>-z) (d:Int) 1000:=⟨fun x hx=>by
    obtain⟨y,hy,rfl⟩:=List.mem_map.mp hx
    rw[Int.natAbs_neg];exact Z9.tops y hy,Z9.bot,Z9.B⟩
   refine⟨nv,dv',_,rfl,w1,vaF_no (by decide) (by decide),nv,tops.map fun z=>-z,d,1000,rfl,V10,by omega,Z10,by decide,by rw[nl];exact G.len.2,fun wl ws H11 k11 hwl h11 W11=>?_⟩
   have K111:=(K19.trans k10).trans k11
   have dl:d<2^1000:=by have:=Z9.bot;simpa using this
   refine⟨_,rfl,sl,wl,room,N,ws,(tops.map fun z=>-z).map fun z=>Ra61.frac z d,rfl,⟨sl,sas,rfl,K111 _ _ n1,n2.mono fun x a h=>h.same K111⟩,h11,W11,by rw[List.length_map,nl],G.len.2,fun s hs=>by have:=Nm s hs;omega,fun b hb'=>?_,?_⟩
   ·obtain⟨z,hz,rfl⟩:=List.mem_map.mp hb'
    exact Nat.le_trans (frac_len (B:=1000) (Z10.tops z hz) dl) (by decide)
   ·rw[out_rows R nl]
    by_cases hh:room<((outF N (Ra61.worst N g.toNat)).length:Int)
    ·rw[if_pos hh] at h ⊢
     exact h
    ·rw[if_neg hh] at h ⊢
     exact fun D H' kk _ e=>h D H' ((k1.trans K111).trans kk) e
end
end Ck
end
noncomputable section
namespace Ck
open PySem PySem.Spec PyProof.Rows L2
section
variable{P:Program}{w:World}{K:PySem.W.Frag}{mg:Str->Option Value}{base:Heap}{t:Adr}
def ansF(g room:Int)(bs:List Nat):List Int:=if (0<=g/\g<=65535)/\bs.length<=65536/\0<=room/\room<=65536 then (match Rd.readStates bs with
 |none=>[-2]
 |some N=>if 2^N.length<=g.toNat then [-3] else if room<((outF N (Ra61.worst N g.toNat)).length:Int) then [-7] else (((outF N (Ra61.worst N g.toNat)).length:Nat):Int)::(outF N (Ra61.worst N g.toNat)).map fun (b:Nat)=>(b:Int)) else [-1]
theorem sql_tbl{H H2:Hp}{l Tb:Addr}{xs:List V}{ps:Array Value}(h:SqL K H l xs)(hT:H Tb=some (.tbl ps))(same:∀b,b≠Tb->H2 b=H b):SqL K H2 l xs:=by
 rcases h with (h | ⟨o,h⟩) | h
 ·exact .inl (.inl (by rw[<-h];exact same _ (no11 h hT (by intro z;cases z))))
 ·exact .inl (.inr ⟨o,by rw[<-h];exact same _ (no11 h hT (by intro z;cases z))⟩)
 ·exact .inr h
theorem worst_run(T:Txt K mg t)(kb:K.In base)(hN:base.NoSeer)(hP:P.given.tree=none){A:Around}{outer:List Env}{s:Shared}{H:Hp}{l c Tb:Addr}{g room:Int}{tg tr:Tok}{bs:List Nat}{Q:VK}{E:XK}(hr:Room 44 A)(e0:Env0 P w K mg base A outer s H)(hl:SqL K H l (byts bs))(hb:∀c∈bs,c<256)
  (hcode:∀o fd,base.get? t.fw=some o->o.data=.func fd->fd.code=.ref c) (C:PySem.W.CodeHd base c Tb) (hT:H Tb=some (.tbl #[])) (hB:∀T,base.get? T=none->base.BuiltinsAt mg T)
  (hq:∀p H',H' p=some (.lst ((ansF g room bs).map V.int))->Q (.ref p) H') :
  codeAny (model P w) A (.call (.ref t.fw) ⟨[.int g tg,.int room tr,.ref l],[]⟩) (CR (CX1 P w) outer P w H s Q E) s:=by
 obtain⟨oc,od,kV,doc,pm,an,cdv,ct,osl,efd,lk,hcd⟩:=T.worst.fn.ex
 have KX:K.In s.heap:=kb.keeps fun b o e=>(e0.bs b o e).1
 have hbd:=T.worst.bd s [.int g tg,.int room tr,.ref l] KX rfl
 rw[efd] at hbd lk
 have hc:=hcode _ _ (kb _ _ lk) rfl
 refine run_at (vs:=[.int g,.int room,.ref l]) (us:=[.int g tg,.int room tr,.ref l]) (E:=E) lk hcd sc_worst rfl hr e0 hbd (.cons ⟨_,rfl⟩ (.cons ⟨_,rfl⟩ (.cons rfl .nil))) fun s1 hr1 I kp=>?_
 refine wpAny_execs_cons (wpAny_Return_some (wpAny_Call_Name_kw (lg10 I rfl T.answer.mg ?_)))
 have frees:∀y:Str×NameKind,y∈[(("goals":Str),NameKind.free),("room",.free),("text",.free),("tell_worst",.globalImplicit)]->y.2=.free->y.1∈[("goals":Str),"room","text"]:=by
  intro y hy e
  simp only[List.mem_cons,List.not_mem_nil,or_false] at hy
  rcases hy with rfl | rfl | rfl | rfl<;>first | (simp;done) | cases e
 have cells:∀x:Str,x∈[("goals":Str),"room","text"]->∃c,(envOfC "worst" (defScope dw) s.heap.objs.size t.fw cdv).cells.lookup x=some c:=fun x hx=>by
  simp only[List.mem_cons,List.not_mem_nil,or_false] at hx
  rcases hx with rfl | rfl | rfl
  ·exact I.ok.has "goals" (.inl rfl)
  ·exact I.ok.has "room" (.inl rfl)
  ·exact I.ok.has "text" (.inl rfl)
 refine PySem.W.callWith_K (h₀:=base) kb T.answer.fn.kp (splice1 (lam_made I hc C hT hB ?_ rfl fun p c' pm' ctv s2 H2 ho rec_ ks I2 same grown=>?_))
 ·intro y hy e
  exact cells _ (frees y (by simpa [or_comm,or_left_comm,or_assoc] using hy) e)
 refine⟨I2.kIn,wpAny_call (codeAny_mono (answer_run (E:=E0) (Q:=Q) T kb hr1 I2.env0 ho rfl fun env1 A1 s3 hrA e3 kp3=>?_) fun r s' h=>?_)⟩
 ·have rec3:s3.heap.CodeRec (.ref c') ((envOfC "worst" (defScope dw) s.heap.objs.size t.fw cdv).qual ++ "<lambda>"):=by
   obtain⟨c2,oc,vs,tq,e1,e2,e4,e5⟩:=rec_
   exact⟨c2,oc,vs,tq,e1,kp3 _ _ e2,e4,e5⟩
  refine lam_run (k:=41) (vs:=[.int g,.int room,.ref l]) hrA (Clo.of (vs:=[.int g,.int room,.ref l]) I2 rfl ?_ ?_ ?_ ?_ kp3) e3 (kp3 _ _ ho) rfl rec3 rfl rfl rfl (fun hrk=>pf10 T.tell_worst (otw T kb hN hP) (hrk.mono (by decide)) rfl (passes1 xl_lam) (pc (pv 0)<|pc (pv 1)<|pc (pv 2) pn10)) ?_
  ·decide
  ·intro y hy e
   exact cells _ (frees y (by simpa [or_comm,or_left_comm,or_assoc] using hy) e)
  ·intro x hx
   have hx:x∈[("goals":Str),"room","text"]:=hx
   simp only[List.mem_cons,List.not_mem_nil,or_false] at hx
   rcases hx with rfl | rfl | rfl<;>rfl
  ·intro x hx
   have hx:x∈[("goals":Str),"room","text"]:=hx
   simp only[List.mem_cons,List.not_mem_nil,or_false] at hx
   rcases hx with rfl | rfl | rfl<;>rfl
  ·refine⟨_,rfl,_,rfl,_,rfl,g,room,l,bs,rfl,sql_tbl hl hT same,hb,?_⟩
   unfold ansF at hq
   by_cases h1:(0<=g/\g<=65535)/\bs.length<=65536/\0<=room/\room<=65536
   ·rw[if_pos h1] at hq ⊢
    cases e:Rd.readStates bs with
    |none=>
     rw[e] at hq
     exact fun H'=>⟨-2,.text,fun q hq'=>hq q _ us10⟩
    |some net=>
     rw[e] at hq
     dsimp only at hq
     show if 2^net.length<=g.toNat then _ else _
     by_cases h2:2^net.length<=g.toNat
     ·rw[if_pos h2] at hq ⊢
      exact fun H'=>⟨-3,.goal,fun q hq'=>hq q _ us10⟩
     rw[if_neg h2] at hq ⊢
     by_cases h3:room<((outF net (Ra61.worst net g.toNat)).length:Int)
     ·rw[if_pos h3] at hq ⊢
      exact fun H'=>⟨-7,.room,fun q hq'=>hq q _ us10⟩
     rw[if_neg h3] at hq ⊢
     exact fun q H' sm hp=>hq q H' hp
   ·rw[if_neg h1] at hq ⊢
    exact fun H'=>⟨-1,.range,fun q hq'=>hq q _ us10⟩
 ·cases r with
  |error e=>
   obtain⟨_,_,_,_,_,_,_,_,_,_,_,_,_,_,z⟩:=h
   exact z.elim
  |ok f=>
   cases f with
   |ret u=>
    obtain⟨v,H',J,rv,q⟩:=I2.after h
    exact⟨v,H',J.os,J.bare,J.base,J.hok,rv,q⟩
   |next=>exact False.elim h
   |brk=>exact False.elim h
   |cont=>exact False.elim h
end
end Ck
end
noncomputable section
namespace Ck
open PySem PySem.Spec PyProof.Rows L2
open PySem.W (OpenSpec WData)
theorem worst_eq(g room:Int)(ns:List Int)(h:ns.length<=65536):PyRa61.worst g room ns=ansF g room (ns.map Int.toNat):=by
 have hn:(ns.map Int.toNat).length<=65536:=by rw[List.length_map];exact h
 show (Ra61.answer (.worst (Ra61Neutral.nats ns) (ns.length:Int) g room)).value::Ra61Neutral.ints (Ra61.answer (.worst (Ra61Neutral.nats ns) (ns.length:Int) g room)).out=_
 have e:Ra61.answer (.worst (Ra61Neutral.nats ns) (ns.length:Int) g room)=if (Ra61.inside (ns.length:Int) 0 Ra61.MOST&&(Ra61.inside g 0 65535&&Ra61.inside room 0 Ra61.ROOM))=false then Ra61.only (-1) else
   Ra61.onGoals (Ra61Neutral.nats ns) g fun N=>Ra61.said room (Ra61.linesOf N fun s=>(Ra61.toldFr (Ra61.at_ (Ra61.worst N g.toNat) s),none)):=rfl
 rw[e]
 unfold ansF
 have hin:(Ra61.inside (ns.length:Int) 0 Ra61.MOST&&(Ra61.inside g 0 65535&&Ra61.inside room 0 Ra61.ROOM))=true↔(0<=g/\g<=65535)/\(ns.map Int.toNat).length<=65536/\0<=room/\room<=65536:=by
  unfold Ra61.inside Ra61.MOST Ra61.ROOM
  simp only[Bool.and_eq_true,decide_eq_true_eq,List.length_map]
  omega
 by_cases q:(0<=g/\g<=65535)/\(ns.map Int.toNat).length<=65536/\0<=room/\room<=65536
 ·rw[if_pos q,if_neg (by rw[hin.mpr q];simp),<-Rd.net_eq]
  unfold Ra61.onGoals Ra61.onNet
  show (match Ra61.net (ns.map Int.toNat) with | none=>_ | some N=>_:Ra61.Ans).value::Ra61Neutral.ints (match Ra61.net (ns.map Int.toNat) with | none=>_ | some N=>_:Ra61.Ans).out=_
  cases eN:Ra61.net (ns.map Int.toNat) with
  |none=>rfl
  |some N=>
   dsimp only
   have G:Fq.Good N:=Rd.net_good (by rw[<-Rd.net_eq];exact eN)
   by_cases h2:2^N.length<=g.toNat
   ·rw[if_pos h2,if_pos h2];rfl
   ·rw[if_neg h2,if_neg h2]
    show (Ra61.said room (outF N (Ra61.worst N g.toNat))).value::Ra61Neutral.ints (Ra61.said room (outF N (Ra61.worst N g.toNat))).out=_
    unfold Ra61.said
    by_cases h3:room<((outF N (Ra61.worst N g.toNat)).length:Int)
    ·rw[if_pos h3,if_pos h3];rfl
    ·rw[if_neg h3,if_neg h3];rfl
 ·rw[if_neg q,if_pos (by
   cases z:(Ra61.inside (ns.length:Int) 0 Ra61.MOST&&(Ra61.inside g 0 65535&&Ra61.inside room 0 Ra61.ROOM)) with
   |false=>rfl
   |true=>exact absurd (hin.mp z) q)]
  rfl
end Ck
end
noncomputable section
namespace Ck
open PySem PySem.Spec PyProof.Rows L2
open PySem.W (OpenSpec WData)
abbrev row:=PySem.Challenge.rw_chancechoices_s03_worst
theorem room_caller:Room 44 callerA:=⟨rfl,by decide,by decide⟩
theorem no_tab{K:PySem.W.Frag}{h:Heap}{T:Addr}(KX:K.In h)(hT:h.get? T=some (PySem.W.tabObj #[]))(hn:PySem.W.noTabs K=true):K.lookup T=none:=by
 cases e:K.lookup T with
 |none=>rfl
 |some o=>
  have e2:=KX _ _ e
  rw[hT] at e2
  cases e2
  have h2:=List.all_eq_true.mp hn (T,PySem.W.tabObj #[]) (PySem.W.mem_of_lookupK e)
  exact absurd (show false=true from h2) Bool.false_ne_true
theorem byts_nat{ns:List Int}(h:∀x∈ns,0<=x):byts (ns.map Int.toNat)=ns.map V.int:=by
 unfold byts
 rw[List.map_map]
 refine List.map_congr_left fun x hx=>?_
 have:=h x hx
 show V.int ((x.toNat:Nat):Int)=V.int x
 rw[Int.toNat_of_nonneg this]
theorem asked_args(said:row.wellSaid=true){args:List WData}(hpre:row.pre args=true):∃(g room:Int) (ns:List Int),ns.length<=65536/\(∀x:Int,x∈ns->(0:Int)<=x/\x<=(255:Int))/\args=[.int g,.int room,.list (ns.map .int)] /\
  ∀d ds,d=.list ((PyRa61.worst g room ns).map .int)->row.claim.post [.int g,.int room,.list (ns.map .int)] d ds=true:=by
 obtain⟨⟨g,room,ns,u0⟩,hw,_,rfl⟩:=(OpenSpec.pre_iff said args).mp hpre
 have hw1:(PySem.W.Codec.inInt (-2147483648) 2147483647 g&&(PySem.W.Codec.inInt (-2147483648) 2147483647 room&&(PySem.W.Codec.inList 0 65536 (PySem.W.Codec.inInt 0 255) ns&&true)))=true:=hw
 simp only[Bool.and_eq_true] at hw1
 have hw2:(PySem.W.Codec.inLen 0 65536 ns&&ns.all (PySem.W.Codec.inInt 0 255))=true:=hw1.2.2.1
 rw[Bool.and_eq_true] at hw2
 exact⟨g,room,ns,(PySem.W.Codec.inNat_iff.mp hw2.1).2,fun x hx=>PySem.W.Codec.inInt_iff.mp (List.all_eq_true.mp hw2.2 x hx),rfl,fun d ds e=>(OpenSpec.post_iff said hw d ds).mpr e⟩
theorem worst_walk(said:row.wellSaid=true){w:World}{s₀ s₁:Shared}{mg mb:Str->Option Value}{q:Program}{loose:List Str}{mean:ExcName->Option Value}{K:PySem.W.Frag}(KX:K.In s₁.heap)(Tp:Top q loose mean mg mb s₁.heap){t:Adr}(T:Txt K mg t)(hi:importsNone q=true)
  (hq:((recsOf q).find? fun d=>d.name==("worst":Str)).isSome=true) (hnt:PySem.W.noTabs K=true) {fa:Addr} (hmg:mg "worst" = some (.ref fa)) (hg:s₁.gens = #[]) {args:List WData} {vals:List Value} (hpre:row.pre args=true) (hwl:PySem.W.WellAll w.params s₁.heap vals args) :
  wpAny (model row.prog w) callerA (PySem.call (.ref fa) vals) (fun v s'=>PySem.W.GoodWG row.claim (classAt s₀.heap) (ExcName.means s₀.heap) args s₁ (.ok (.ret v)) s')
   (fun e s'=>PySem.W.GoodWG row.claim (classAt s₀.heap) (ExcName.means s₀.heap) args s₁ (.error e) s') s₁:=by
 obtain⟨g,room,ns,hlen,hall,rfl,post⟩:=asked_args said hpre
 obtain⟨tg,tr,l,vs,rfl,hobj,hints⟩:∃tg tr l vs,vals=[Value.int g tg,Value.int room tr,Value.ref l]/\s₁.heap.get? l=some { cls:=.type "list",data:=.seq vs.toArray }/\IntsAre vs ns:=by
  cases hwl with
  |cons w1 w2=>
   cases w2 with
   |cons w3 w4=>
    cases w4 with
    |cons w7 w8=>
     cases w8
     cases w1;cases w3
     cases w7 with
     |list ho hall=>exact⟨_,_,_,_,rfl,ho,Att.ints_of_wellAll ns _ hall⟩
 obtain⟨d,hd⟩:=Option.isSome_iff_exists.mp hq
 have hdn:d.name=("worst":Str):=beq_iff_eq.mp (List.find?_some (p:=fun d:DefRec=>d.name==("worst":Str)) hd)
 obtain⟨a,o,fd,c,Tb,h1,h2,h3,h4,h5,h6⟩:=Tp.tab d (List.mem_of_find?_eq_some hd)
 rw[hdn] at h1
 have efa:a=fa:=by rw[hmg] at h1;cases h1;rfl
 subst efa
 have eft:t.fw=a:=by have:=T.worst.mg;rw[hmg] at this;cases this;rfl
 have hT:s₁.heap.get? Tb=some (PySem.W.tabObj #[]):=h6.2
 obtain⟨base,H,L⟩:=law0 (P:=row.prog) (w:=w) KX Tp.g Tp.b Tp.builtins Tp.nolimit hg hobj hints (Nat.le_trans hlen (by decide)) hT (no_tab KX hT hnt)
 have keepD:∀{b o},s₁.heap.get? b=some o->(∀vs,o.data≠.fields vs)->(∀vs n,o.data≠.seq vs n)->base.get? b=some o:=fun {b o} e n1 n2=>by
  refine L.bas b o e ?_
  rcases L.only b with z | z | ⟨_,_,_,z⟩
  ·exact z
  ·rw[z,hT] at e;cases e;exact absurd rfl (n1 _)
  ·rw[z,hobj] at e;cases e;exact absurd rfl (n2 _ _)
 have hC:PySem.W.CodeHd base c Tb:=by
  obtain⟨o',vs',file,tf,flags,tg',inF,text,tt,e1,r1,r2,r3,r4,r5,r6,r7,r8,hne⟩:=PySem.W.CodeHd.of h5 h6
  refine⟨o',vs',file,tf,flags,tg',inF,text,tt,L.bas _ _ e1 ?_,r1,r2,r3,r4,r5,r6,r7,r8,hne⟩
  rcases L.only c with z | z | ⟨_,_,_,z⟩
  ·exact z
  ·exact absurd z hne
  ·rw[z,hobj] at e1;cases e1;exact absurd (show Value.type "list" = Value.type "code" from r1) (by decide)
 have nsB:∀{a:Addr} {m:Str->Option Value},s₁.heap.Ns a m->base.Ns a m:=fun {a m} x=>by
  obtain⟨o,es,ep,e,dd,r⟩:=x
  exact⟨o,es,ep,keepD e (fun vs z=>by rw[dd] at z;cases z) (fun vs n z=>by rw[dd] at z;cases z),dd,r⟩
 obtain⟨bm,ob,b1,b2,b3,b4,b5,b6⟩:=Tp.bmain
 have bmB:=keepD b3 (fun vs z=>by rw[b6] at z;cases z) (fun vs n z=>by rw[b6] at z;cases z)
 have hB:∀T,base.get? T=none->base.BuiltinsAt mg T:=fun T hTn=>by
  refine⟨bm,ob,b1,b2,fun z=>?_,fun z=>?_,bmB,b4,b5,b6⟩
  ·obtain⟨o2,es,ep,e2,d2,_⟩:=Tp.g
   rw[<-z,b3] at e2
   cases e2
   rw[b6] at d2;cases d2
  ·rw[z,hTn] at bmB;cases bmB
 have hN:base.NoSeer:=by
  obtain⟨⟨mc,c1,c2,c3⟩,⟨mm,c4,c5⟩,⟨mb',c6,c7⟩,_⟩:=Tp.seer hi
  exact⟨⟨mc,nsB c1,c2,c3⟩,⟨mm,nsB c4,c5⟩,⟨mb',nsB c6,c7⟩,⟨mg,bm,ob,nsB Tp.g,b1,bmB,b4,b5⟩⟩
 refine PySem.W.enter_call ?_
 have run:=worst_run (P:=row.prog) (w:=w) T L.kin hN (by rfl) (tg:=tg) (tr:=tr) (g:=g) (room:=room) (E:=E0) (Q:=fun v H'=>∃p,v=.ref p/\H' p=some (.lst ((ansF g room (ns.map Int.toNat)).map V.int))) room_caller L.env (bs:=ns.map Int.toNat) (by rw[byts_nat fun x hx=>(hall x hx).1];exact L.txt)
  (fun c hc=>by
   obtain⟨x,hx,rfl⟩:=List.mem_map.mp hc
   have:=hall x hx
   omega) (fun o' fd' e' d'=>by
   have e'':=(L.env.bs _ _ e').1
   rw[eft,h2] at e''
   cases e''
   rw[h3] at d'
   cases d'
   exact h4) hC L.tab hB fun p H' hp=>⟨p,rfl,hp⟩
 rw[eft] at run
 refine codeAny_mono run fun r s' hr=>?_
 cases r with
 |error e=>
  obtain⟨_,_,_,_,_,_,_,_,_,_,_,_,_,_,z⟩:=hr
  exact z.elim
 |ok f=>
  cases f with
  |ret u=>
   refine good_ints L h6 hr (post _ _ ?_)
   rw[worst_eq g room ns hlen]
  |next=>exact False.elim hr
  |brk=>exact False.elim hr
  |cont=>exact False.elim hr
end Ck
end
noncomputable section
open PySem PySem.W
theorem Ck.said:PySem.Challenge.rw_chancechoices_s03_worst.wellSaid=true:=by decide +kernel
def Ck.dk:DefRec×List (Str×Expr):=(defOf Ck.pv "worst").get (by decide +kernel)
theorem Ck.hdef:defOf Ck.pv PySem.Challenge.rw_chancechoices_s03_worst.name=some (Ck.dk.1,Ck.dk.2):=by kernel_rfl
theorem Ck.hdn:Ck.dk.1.name=("worst":Str):=by kernel_rfl
theorem PySem.Challenge.cw_chancechoices_s03_worst_holds : PySem.Challenge.rw_chancechoices_s03_worst.Holds := by
 refine holds_os (q:=Ck.pv) (loose:=[]) (Xt:=Ck.Xt0) (XP:=XL Ck.pv []) (Yf:=Ck.Kh.obs) (Ya:=Ck.Kh.val) (YP:=InK Ck.Kt) (d:=Ck.dk.1) (kwd:=Ck.dk.2) Ck.left0 Ck.Kh.of Ck.Kh.keeps (fun s e=>xo s (Bool.and_eq_true_iff.mp e).1) XL.keeps Ck.hdef (by kernel_rfl) (by kernel_rfl) (fun s e=>recFacts_of (Bool.and_eq_true_iff.mp e).2) (os_shapes) Ck.said (by decide +kernel) ⟨rfl,rfl,rfl,rfl,rfl,by decide +kernel⟩ ⟨[.int 0,.int 0,.list []],by decide +kernel,by decide +kernel⟩ ?_
 intro w s₀ s₁ mg mb G Y fa o pm cd doc dV kV ho hd hcd hD hmg hg args vals as hpre hlay hrd hwl hlo
 obtain⟨t,T⟩:=Ck.txt Y G.T.g
 rw[Ck.hdn] at hmg
 exact Ck.worst_walk Ck.said Y G.T T (by decide +kernel) (by decide +kernel) (by kernel_rfl) hmg hg hpre hwl
#print axioms PySem.Challenge.cw_chancechoices_s03_worst_holds
end
