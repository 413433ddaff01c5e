import PyProof.Rows.All
import Wide.All
import OpenK.AllK
import Wide.FinOn
import PyProof.EqAt
import PyProof.EqKinds
import PyProof.TupleCall
import KE.BitLaws
import PySem.SetTable
import PyProof.TupleKey
import PyProof.Rows.SetFrom
import KE.KLam
import KE.OsGo
import Open.SpecLaws
import KE.KRevIter
import Open.Pieces
import KE.OsHead
import PySem.Challenge.RW_chancechoices_s03_worst
set_option Elab.async false
set_option linter.all false
set_option maxRecDepth 100000
set_option maxHeartbeats 8000000
open List renaming getD_eq_getElem?_getD → aa,getElem?_eq_getElem → af,length_map → ah,getElem?_map → ai,getElem?_eq_some_iff → ao,mem_of_getElem? → au,take_of_length_le → ay,mem_map → az,mem_cons → aA,range → aB,size_toArray → aC,length_append → aE,replicate → aF,length_cons → aJ,mem_cons_of_mem → aL,getElem?_range → aN,mem_cons_self → aO,map_cons → aT,length_take → aU,getElem_mem → aV,mem_range → aX,all_eq_true → aY,mem_append → bu,map_append → bw,takeWhile_cons_of_pos → bA,drop_eq_getElem_cons → bC,mem_append_right → bG,dropWhile_cons_of_pos → bH,getElem?_append_left → bL,mem_filter → bN,map_nil → bO,getElem_of_mem → bR,getElem?_concat_length → bW,findIdx?_eq_some_iff_getElem → bX,length_set → cy,length_replicate → cA,getElem?_eq_none → cB,lookup_cons → cC,getElem?_of_mem → cF,append_assoc → cG,length_range → cH,replicate_succ → cJ,filter_cons → cN,getElem?_append_right → cP,append_nil → cQ,nodup_cons → cR,pairwise_map → cS,nodup_append → cU,sum_cons → cV,map_eq_nil_iff → c8,not_mem_nil → dg,length_eq_zero_iff → dh,map_map → dw,append_of_mem → dD,foldl_cons → dG,nil_append → dH,all_cons → dM,dropWhile_suffix → dN,length_filter_le → dO,flatten_cons → dP,foldl_append → dU,lookup → dW,takeWhile_cons_of_neg → dZ,getElem?_zipIdx → d7,dropWhile_cons_of_neg → eu,take_length → eF,findIdx?_eq_none_iff → eH,filterMap_cons → eO,length_zipWith → eS,set_eq_of_length_le → eV,mem_filterMap → eZ,length → fc,getElem?_replicate → fh,getElem?_set_self → fk,range_succ_eq_map → fu,getElem?_set → fC,flatMap_cons → fD,takeWhile_append_dropWhile → fE,getElem?_zipWith → fG,length_drop → fK,suffix_cons → fM,suffix_refl → fN,cons_append → fO,mem_flatMap → fP,ext_getElem → fQ,mem_append_left → fS,getElem?_set_ne → fT,of_mem_zip → fW,flatMap_append → gc,foldl_nil → gv,take_zero → gy,take_add_one → gB,find?_range_eq_some → gF,length_erase_of_mem → gG,nodup_range → gK,any_eq_true → gM,length_pos_of_mem → gW,pairwise_lt_range → gX,take_append_drop → ia,mem_erase_of_ne → ig,nodup_nil → iu,mem_of_mem_take → iA,length_pos_iff → iF,all_map → iQ,zipWith → iT
open PySem.W renaming Frag → aj,emptyDict → bU,findIn → cE,instObj → cI,fnOf → dj,keepIn → dX,callWith_K → e7,cellsFrom_some → fq,methodCall_KW → fF,plainGet → fJ,plainGet_of → f7,lookIn → gh,codeIn → gi,methodObj → gz,hasDictIn → gA,takerIn → gZ,makesIn → g5,tabObj → iB,hideAll_get → iE,excIn → iI,of_hideAll → iK,codeRec_of → iM,isFn → iO,plainOver → iP,handedIn → iW
open Option renaming bind_some → ak,map_some → bE,bind_none → bI,getD_some → di,map_eq_some_iff → dm,isSome_iff_exists → gE,map_map → iz
open Nat renaming le_refl → aq,lt_succ_self → aD,lt_of_lt_of_le → aH,ne_of_lt → aW,le_of_lt → aZ,zero_le → bf,le_trans → bg,gcd → br,lt_of_le_of_lt → bF,lt_irrefl → bJ,lt_succ_of_lt → bZ,pow_succ → b9,gcd_pos_of_pos_right → cW,mod_eq_of_lt → c9,lt_trichotomy → dQ,le_of_lt_succ → dR,lt_succ_of_le → dS,pow_le_pow_right → dY,mul_pos → ef,mul_le_mul_right → eB,le_add_right → eE,pow_lt_pow_iff_right → eW,ne_of_gt → fm,le_of_succ_le → fy,lt_or_ge → fz,mul_mod → fU,div_le_self → f6,pow_le_pow_left → gf,mod_lt → gj,eq_or_lt_of_le → gn,gcd_dvd_right → gC,le_of_eq → gQ,mul_comm → gR,div_div_eq_div_mul → gS,add_zero → gT,strongRecOn → g6,not_lt_zero → g7,div_lt_iff_lt_mul → g8,add_mod → ie,mul_assoc → iH,zero_add → iR,sub_self → iV
open Classical renaming byContradiction → aG,choose_spec → fH,choose → gP
open Bool renaming false_eq_true → aI,false_ne_true → aM,and_eq_true → aQ,eq_iff_iff → aS,true_and → bY,not_true → fR,not_false → gr,and_self → gH,not_eq_true → gJ,and_false → ic,and_eq_true_iff → iC,or_eq_true_iff → iG,false_or → iJ,true_or → iS
open Rat renaming intCast_mul → aK,intCast_natCast → bh,mul_nonneg → bq,mul_le_mul_of_nonneg_left → bB,le_of_mul_le_mul_left → bD,le_refl → bK,le_of_lt → bQ,natCast_le_natCast → cg,mul_le_mul_of_nonneg_right → cD,intCast_lt_intCast → cK,intCast_le_intCast → cM,pow_succ → dF,intCast_inj → dJ,mul_lt_mul_of_pos_left → d8,lt_of_mul_lt_mul_left → eL,intCast_neg → eX,natCast_mul → eY,mul_pos → fV,intCast_sub → fX,intCast_add → fY,pow_zero → gg,natCast_nonneg → gx,div_def → iy,le_trans → iU
open PySem renaming mem_of_lookup → aP
open Option.some renaming inj → aR
open Array renaming getElem?_eq_getElem → bx,getElem?_eq_some_iff → bz,length_toList → cZ,getElem?_append_left → gk,toList_filterMap → gY,getElem?_toList → g9,forIn_toList → iN
open Int renaming toNat_natCast → bM,mul_le_mul_of_nonneg_right → bP,fdiv_eq_ediv_of_nonneg → cO,toNat → eG,eq_ofNat_of_zero_le → fi,le_of_lt → fB,natCast_mul → fZ,toNat_of_nonneg → f9,natAbs_mul → gu,natAbs_natCast → gw,gcd → iD
open PySem.F renaming plainAttrs_list → bV,excBase_Exception → cz,slot_list_append → cX,type_list_append → cY,slot_list_index → gO
open PySem.Challenge renaming rw_chancechoices_s03_worst → cu,pw_chancechoices_s03_worst → dB
open List.Pairwise renaming imp → cT,imp_of_mem → eU
open PySem.W.Codec renaming inInt → eT
open List.cons renaming inj → gI
open Prod renaming ext → iw
open PySem.P renaming truthy_int → iL
noncomputable section
namespace L2
open PySem PySem.Spec PyProof.Rows
abbrev Key:=Sum Int Str
def CM:Key->Value->Bool
 |.inl k,v=>Value.isInt k v
 |.inr x,v=>Value.isStrOf x v
def VS(w:World):Key->Int
 |.inl k=>hashInt k
 |.inr x=>hashStr w x
theorem lH:∀{k:Key}{v:Value},CM k v=true->(∃i t,k=Sum.inl i/\v=Value.int i t)\/(∃x t,k=Sum.inr x/\v=Value.str x t)
 |.inl i,v,h=>by
  obtain⟨t,e⟩:=Value.isInt_shape (k:=i) (v:=v) h;exact .inl ⟨i,t,rfl,e⟩
 |.inr x,v,h=>by
  obtain⟨t,e⟩:=Value.isStrOf_shape (x:=x) (v:=v) h;exact .inr ⟨x,t,rfl,e⟩
theorem Jk(i:Int)(t:Tok):CM (.inl i) (.int i t)=true:=by simp[CM,Value.isInt]
theorem Jl(x:Str)(t:Tok):CM (.inr x) (.str x t)=true:=by simp[CM,Value.isStrOf]
theorem Q3(a b:Int):decide ((Sum.inl a:Key)=Sum.inl b)=(a==b):=by
 by_cases e:a=b
 ·subst e;simp
 ·have h:¬(Sum.inl a:Key)=Sum.inl b:=λ q=>e (Sum.inl.inj q)
  rw[decide_eq_false h];exact (beq_eq_false_iff_ne.mpr e).symm
theorem Q4(a b:Str):decide ((Sum.inr a:Key)=Sum.inr b)=decide (a=b):=by
 by_cases e:a=b
 ·subst e;simp
 ·have h:¬(Sum.inr a:Key)=Sum.inr b:=λ q=>e (Sum.inr.inj q)
  rw[decide_eq_false h,decide_eq_false e]
theorem Q5(a:Int)(b:Str):decide ((Sum.inl a:Key)=Sum.inr b)=false:=decide_eq_false (λ q=>nomatch q)
theorem Q6(a:Str)(b:Int):decide ((Sum.inr a:Key)=Sum.inl b)=false:=decide_eq_false (λ q=>nomatch q)
def kT(prog:Program)(w:World):PySem.KeyKind prog w Key where
 is:=CM
 hash:=VS w
 inj:=λ v a b ha hb=>by
  rcases lH ha with ⟨i,t,rfl,rfl⟩ | ⟨x,t,rfl,rfl⟩
  ·rcases lH hb with ⟨j,u,rfl,e⟩ | ⟨y,u,rfl,e⟩
   ·injection e with e1 _;rw[e1]
   ·exact nomatch e
  ·rcases lH hb with ⟨j,u,rfl,e⟩ | ⟨y,u,rfl,e⟩
   ·exact nomatch e
   ·injection e with e1 _;rw[e1]
 byValue:=λ k v h=>by
  rcases lH h with ⟨i,t,rfl,rfl⟩ | ⟨x,t,rfl,rfl⟩<;>rfl
 pyHash:=λ hv h=>by
  rcases lH hv with ⟨i,t,rfl,rfl⟩ | ⟨x,t,rfl,rfl⟩
  ·exact wpAny_pyHash_int h
  ·exact wpAny_pyHash_str h
 eqBool:=λ hu hv h=>by
  rcases lH hu with ⟨i,t,rfl,rfl⟩ | ⟨x,t,rfl,rfl⟩
  ·rcases lH hv with ⟨j,u,rfl,rfl⟩ | ⟨y,u,rfl,rfl⟩
   ·rw[Q3] at h;exact wpAny_eqBool_int h
   ·rw[Q5] at h;exact SeqAt.EqAt.int_str i t y u _ _ _ _ h
  ·rcases lH hv with ⟨j,u,rfl,rfl⟩ | ⟨y,u,rfl,rfl⟩
   ·rw[Q6] at h;exact SeqAt.EqAt.str_int x t j u _ _ _ _ h
   ·rw[Q4] at h;exact wpAny_eqBool_str h
 «strs»:=λ k x t v h=>by
  rcases lH h with ⟨i,u,rfl,e⟩ | ⟨y,u,rfl,e⟩
  ·exact nomatch e
  ·injection e with e1 _
   subst e1
   cases v<;>rfl
theorem EJ(prog:Program)(w:World)(i:Int)(t:Tok):(kT prog w).is (.inl i) (.int i t)=true:=Jk i t
theorem EK(prog:Program)(w:World)(x:Str)(t:Tok):(kT prog w).is (.inr x) (.str x t)=true:=Jl x t
end L2
namespace L2
open PySem PySem.Spec PyProof.Rows
inductive V where
 |pT | bl (b:Bool) | int (i:Int) | str (x:Str) | HD (b:Array UInt8) | Vo (b:UInt64) | ref (a:Addr) | ty (n:String)
 deriving DecidableEq
def RelV:V->Value->Prop
 |.pT,u=>u=Value.none
 |.bl b,u=>u=Value.bool b
 |.int i,u=>∃t,u=Value.int i t
 |.str x,u=>∃t,u=Value.str x t
 |.HD b,u=>∃t,u=Value.bytes b t
 |.Vo b,u=>∃t,u=Value.float b t
 |.ref a,u=>u=Value.ref a
 |.ty n,u=>u=Value.type n
abbrev Vals:List V->List Value->Prop:=Paired RelV
theorem Vals.length{xs:List V}{us:List Value}(r:Vals xs us):xs.length=us.length:=Paired.length r
theorem Vals.get:∀{xs:List V}{us:List Value}{i:Nat}{x:V},Vals xs us->xs[i]? = some x->∃u,us[i]? = some u/\RelV x u
 |_,_,_,_,.nil,e=>by simp at e
 |_,_,0,_,.cons r _,e=>by simp at e;subst e;exact⟨_,rfl,r⟩
 |_,_,i+1,x,.cons _ t,e=>by
  obtain⟨u,h1,h2⟩:=Vals.get (i:=i) (x:=x) t (by simpa using e);exact⟨u,by simpa using h1,h2⟩
theorem Vals.set{x:V}{u:Value}(r:RelV x u):∀{xs:List V}{us:List Value}(i:Nat),Vals xs us->Vals (xs.set i x) (us.set i u)
 |_,_,_,.nil=>.nil
 |_,_,0,.cons _ t=>.cons r t
 |_,_,i+1,.cons q t=>.cons q (Vals.set r i t)
theorem Vals.append:∀{xs ys:List V}{us ws:List Value},Vals xs us->Vals ys ws->Vals (xs++ys) (us++ws)
 |_,_,_,_,.nil,s=>s
 |_,_,_,_,.cons r t,s=>.cons r (Vals.append t s)
theorem Vals.take:∀{xs:List V}{us:List Value}(n:Nat),Vals xs us->Vals (xs.take n) (us.take n)
 |_,_,0,_=>.nil
 |_,_,_+1,.nil=>.nil
 |_,_,n+1,.cons r t=>.cons r (Vals.take n t)
theorem Vals.drop:∀{xs:List V}{us:List Value}(n:Nat),Vals xs us->Vals (xs.drop n) (us.drop n)
 |_,_,0,r=>r
 |_,_,_+1,.nil=>.nil
 |_,_,n+1,.cons _ t=>Vals.drop n t
def Ce:Option V->Option Value->Prop
 |some v,some u=>RelV v u
 |none,none=>True
 |_,_=>False
def KV{κ:Type}:List (κ×V)->List (κ×Value)->Prop:=Paired λ(p:κ×V) (q:κ×Value)=>p.1=q.1/\RelV p.2 q.2
def kV:Key->V
 |.inl i=>.int i
 |.inr x=>.str x
inductive HO where
 |lst (xs:List V)
 |tup (xs:List V)
 |dK (kvs:List (Key×V)) | dT (kvs:List (List Key×V))
 |set (S:Int->Bool) (n:Nat)
 |ins (C dx:Addr) (fs:List (Str×V))
 |own (x:Addr)
 |xd (fs:List (Str×V))
 |met (f x:Addr)
 |VT (lo hi:Int)
 |Le (o:Obj) (u:HO)
 |DR (ps:Array Value)
 |ext (φ:Heap->Prop)
abbrev Hp:=Addr->Option HO
def upd(H:Hp)(a:Addr)(o:HO):Hp:=λ b=>if b=a then some o else H b
theorem iZ{H:Hp}{a:Addr}{o:HO}:upd H a o a=some o:=by unfold upd;rw[if_pos rfl]
theorem jd{H:Hp}{a b:Addr}{o:HO}(h:b≠a):upd H a o b=H b:=by unfold upd;rw[if_neg h]
theorem jL{H:Hp}{a:Addr}{o u:HO}:upd (upd H a o) a u=upd H a u:=by
 funext b;unfold upd;split<;>rfl
theorem nH{H:Hp}{a b:Addr}{o u:HO}(h:H a=some o)(h':H b=some u)(d:o≠u):a≠b:=by
 intro e;subst e;rw[h] at h';exact d (aR h')
theorem je{H:Hp}{a b:Addr}{o:HO}(h:H a=some o)(h':H b=none):a≠b:=by
 intro e;subst e;rw[h] at h';cases h'
section
variable(P:Program)(w:World)
def nV(H:Hp)(h:Heap)(a:Addr):HO->Prop
 |.lst xs=>xs.length<=sizeLine/\∃(its:List Value) (n:Nat),Vals xs its/\h.get? a=some { cls:=.type "list",data:=.seq its.toArray n }
 |.tup xs=>xs.length<=sizeLine/\∃its:List Value,Vals xs its/\IsTup h a its.toArray
 |.dK kvs=>kvs.length<=sizeLine/\(a==sysModules)=false/\∃vs,KV kvs vs/\h.DictOf (kT P w) a vs
 |.dT kvs=>kvs.length<=sizeLine/\(a==sysModules)=false/\∃xs:List (List Key×Addr×Value),
   Paired (λ(p:List Key×V) (q:List Key×Addr×Value)=>p.1=q.1/\H q.2.1=some (.tup (p.1.map kV))/\RelV p.2 q.2.2) kvs xs /\
   ∃o es ep,h.get? a=some o/\o.ExactDict/\o.data=.dict es ep/\es.toList=xs.map (entryOfKey (tupleKind (kT P w)))/\(xs.map (·.1)).Nodup
 |.set S n=>h.SetOf (intKind P w) a S n
 |.ins C dx fs=>H dx=some (.own a)/\fs.length<=1000/\dx≠a/\h.get? a=some (cI C dx) /\
   ∃mA,h.Ns1 dx mA/\(∀f,Ce (fs.lookup f) (mA f))/\PySem.Within mA (fs.map (·.1))
 |.own _=>∃o,h.get? a=some o
 |.xd fs=>∃mA,h.Ns1 a mA/\∀f,Ce (fs.lookup f) (mA f)
 |.VT lo hi=>∃t u v,h.get? a=some { cls:=.type "range",data:=.fields #[.int lo t,.int hi u,.int 1 v] }
 |.Le o u=>h.get? a=some o/\nV H h a u
 |.DR ps=>h.get? a=some { cls:=.none,data:=.fields ps }
 |.met f x=>h.get? a=some (gz (.ref f) (.ref x))
 |.ext φ=>φ h/\(∃o,h.get? a=some o)/\∀h1 h2:Heap,φ h1->(∀o,h1.get? a=some o->h2.get? a=some o)->φ h2
def yu(H:Hp)(h:Heap):Prop:=∀a o,H a=some o->nV P w H h a o
end
section
variable{P:Program}{w:World}{H H':Hp}{h h':Heap}{a:Addr}{o:HO}
theorem nV.lt(x:nV P w H h a o):a<h.objs.size:=by
 cases o with
 |lst xs=>obtain⟨_,_,_,_,e⟩:=x;exact Heap.lt_size e
 |tup xs=>obtain⟨_,_,_,p⟩:=x;exact p.lt
 |dK kvs=>obtain⟨_,_,_,_,o,_,_,e,_⟩:=x;exact Heap.lt_size e
 |dT kvs=>obtain⟨_,_,_,_,o,_,_,e,_⟩:=x;exact Heap.lt_size e
 |set S n=>obtain⟨o,_,_,_,e,_⟩:=x;exact Heap.lt_size e
 |ins C dx fs=>obtain⟨_,_,_,e,_⟩:=x;exact Heap.lt_size e
 |own y=>obtain⟨_,e⟩:=x;exact Heap.lt_size e
 |xd fs=>obtain⟨_,⟨_,_,_,e,_⟩,_⟩:=x;exact Heap.lt_size e
 |VT lo hi=>obtain⟨_,_,_,e⟩:=x;exact Heap.lt_size e
 |Le ob u=>obtain⟨e,_⟩:=x;exact Heap.lt_size e
 |DR ps=>exact Heap.lt_size (show h.get? a=some _ from x)
 |met f y=>exact Heap.lt_size (show h.get? a=some _ from x)
 |ext φ=>obtain⟨_,⟨_,e⟩,_⟩:=x;exact Heap.lt_size e
theorem Paired.Th{α β:Type}{F G:α->β->Prop}:∀{l₁:List α}{l₂:List β},Paired F l₁ l₂->(∀a b,F a b->G a b)->Paired G l₁ l₂
 |_,_,.nil,_=>.nil
 |_,_,.cons r t,f=>.cons (f _ _ r) (Paired.Th t f)
theorem nV.stay(x:nV P w H h a o)(k:∀b u,(b=a\/H b=some (.own a))->h.get? b=some u->h'.get? b=some u)
  (ho:∀b,H b=some (.own a)->H' b=some (.own a)) (ht:∀b xs,H b=some (.tup xs)->H' b=some (.tup xs)):nV P w H' h' a o:=by
 induction o with
 |lst xs=>obtain⟨z,its,n,r,e⟩:=x;exact⟨z,its,n,r,k _ _ (.inl rfl) e⟩
 |tup xs=>obtain⟨z,its,r,ob,e,c⟩:=x;exact⟨z,its,r,ob,k _ _ (.inl rfl) e,c⟩
 |dK kvs=>obtain⟨z,y,vs,r,ob,es,ep,e,c⟩:=x;exact⟨z,y,vs,r,ob,es,ep,k _ _ (.inl rfl) e,c⟩
 |dT kvs=>
  obtain⟨z,y,xs,r,ob,es,ep,e,c⟩:=x;exact⟨z,y,xs,Paired.Th r λ p q z=>⟨z.1,ht _ _ z.2.1,z.2.2⟩,ob,es,ep,k _ _ (.inl rfl) e,c⟩
 |set S n=>obtain⟨ob,es,ep,t,e,c⟩:=x;exact⟨ob,es,ep,t,k _ _ (.inl rfl) e,c⟩
 |ins C dx fs=>
  obtain⟨d,z,ne,e,mA,⟨od,es,ep,e2,c⟩,r⟩:=x;exact⟨ho _ d,z,ne,k _ _ (.inl rfl) e,mA,⟨od,es,ep,k _ _ (.inr d) e2,c⟩,r⟩
 |own y=>obtain⟨ob,e⟩:=x;exact⟨ob,k _ _ (.inl rfl) e⟩
 |xd fs=>obtain⟨mA,⟨od,es,ep,e,c⟩,r⟩:=x;exact⟨mA,⟨od,es,ep,k _ _ (.inl rfl) e,c⟩,r⟩
 |VT lo hi=>obtain⟨t,u,v,e⟩:=x;exact⟨t,u,v,k _ _ (.inl rfl) e⟩
 |Le ob u ih=>obtain⟨e,q⟩:=x;exact⟨k _ _ (.inl rfl) e,ih q⟩
 |DR ps=>
  have e:h.get? a=some { cls:=.none,data:=.fields ps }:=x;show h'.get? a=some { cls:=.none,data:=.fields ps };exact k a _ (.inl rfl) e
 |met f y=>
  have e:h.get? a=some (gz (.ref f) (.ref y)):=x;show h'.get? a=some (gz (.ref f) (.ref y));exact k a _ (.inl rfl) e
 |ext φ=>obtain⟨p,⟨o,e⟩,st⟩:=x;exact⟨st _ _ p λ o q=>k _ _ (.inl rfl) q,⟨o,k _ _ (.inl rfl) e⟩,st⟩
theorem yu.lt(x:yu P w H h)(e:H a=some o):a<h.objs.size:=(x a o e).lt
theorem yu.fresh(x:yu P w H h)(e:h.objs.size<=a):H a=none:=by
 cases q:H a with
 |none=>rfl
 |some u=>exact absurd (aH (x.lt q) e) (bJ _)
theorem yu.kept(x:yu P w H h)(k:∀b u,h.get? b=some u->h'.get? b=some u):yu P w H h':=λ a o e=>
 (x a o e).stay (λ b u _ q=>k b u q) (λ _ q=>q) λ _ _ q=>q
theorem yu.laid(x:yu P w H h)(k:∀b u,h.get? b=some u->h'.get? b=some u)(hp:h.objs.size<=a)(new:nV P w (upd H a o) h' a o):yu P w (upd H a o) h':=λ b u e=>by
 have hn:=x.fresh hp
 by_cases hb:b=a
 ·subst hb;rw[iZ] at e;cases e;exact new
 ·rw[jd hb] at e
  exact (x b u e).stay (λ c v _ q=>k c v q) (λ c q=>by rw[jd (je q hn)];exact q) λ c xs q=>by rw[jd (je q hn)];exact q
end
def Rd(H:Hp)(a:Addr)(u:HO):Prop:=H a=some u\/∃o,H a=some (.Le o u)
theorem Rd.ok{P:Program}{w:World}{H:Hp}{h:Heap}{a:Addr}{u:HO}(r:Rd H a u)(x:yu P w H h):nV P w H h a u:=by
 rcases r with r | ⟨o,r⟩
 ·exact x a u r
 ·obtain⟨_,q⟩:=x a _ r
  exact q
def Vp:Option HO->Prop
 |some (.lst _)=>True
 |some (.dK _)=>True
 |some (.dT _)=>True
 |some (.set _ _)=>True
 |some (.ins _ _ _)=>True
 |some (.ext _)=>True
 |_=>False
section
variable{P:Program}{w:World}{H:Hp}{h h':Heap}{x e:Addr}{o':HO}
theorem yu.write(ok:yu P w H h)(mu:Vp (H x))(he:e=x\/H e=some (.own x))(k:∀b u,b≠e->h.get? b=some u->h'.get? b=some u)(SW:∃u,h'.get? e=some u)
  (new:nV P w (upd H x o') h' x o'):yu P w (upd H x o') h':=λ b u q=>by
 have Ti:∀c y,H c=some (.own y)->c≠x:=λ c y r z=>by subst z;rw[r] at mu;exact mu
 have VU:∀c xs,H c=some (.tup xs)->c≠x:=λ c xs r z=>by subst z;rw[r] at mu;exact mu
 by_cases hb:b=x
 ·subst hb;rw[iZ] at q;cases q;exact new
 ·rw[jd hb] at q
  by_cases Q7:b=e
  ·have q':H b=some (.own x):=by
    rcases he with z | z
    ·exact absurd (Q7.trans z) hb
    ·rw[Q7];exact z
   rw[q] at q';cases q';obtain⟨v,hv⟩:=SW;exact⟨v,by rw[Q7];exact hv⟩
  ·refine (ok b u q).stay (λ c v hc r=>k c v ?_ r) (λ c r=>by rw[jd (Ti c b r)];exact r) λ c xs r=>by rw[jd (VU c xs r)];exact r
   rcases hc with rfl | hc
   ·exact Q7
   ·rintro rfl
    rcases he with z | z
    ·exact Ti c b hc z
    ·rw[hc] at z;cases z;exact hb rfl
end
structure Un(fs ex:List Addr)(H H':Hp)(h h':Heap):Prop where
 keep:∀b o,h.get? b=some o->H b=none->b ∉ fs->b ∉ ex->h'.get? b=some o
 slot:∀b o,h.get? b=some o->H b=none->b∈fs->b ∉ ex->∃sl,h'.get? b=some { o with slots:=sl }
 free:∀b o,h.get? b=some o->H b=none->b ∉ ex->H' b=none
 there:∀b o,h.get? b=some o->b ∉ ex->∃o',h'.get? b=some o'
 tups:∀b xs,H b=some (.tup xs)->H' b=some (.tup xs)
 Cf:∀b o u,H b=some (.Le o u)->H' b=some (.Le o u)
 Cg:∀b ps,H b=some (.DR ps)->∃more,H' b=some (.DR (ps++more))
section
variable{fs fs' ex SY:List Addr}{H H1 H2:Hp}{h h1 h2 h':Heap}{a x e:Addr}{o:HO}
theorem Un.any(u:Un fs ex H H1 h h1){b:Addr}{ob:Obj}(q:h.get? b=some ob)(n:H b=none)(hx:b ∉ ex):∃sl,h1.get? b=some { ob with slots:=sl }:=by
 by_cases hb:b∈fs
 ·exact u.slot b ob q n hb hx
 ·exact⟨ob.slots,u.keep b ob q n hb hx⟩
theorem Un.kept(k:∀b u,h.get? b=some u->h'.get? b=some u):Un fs ex H H h h':=
 ⟨λ b ob q _ _ _=>k b ob q,λ b ob q _ _ _=>⟨ob.slots,k b ob q⟩,λ _ _ _ n _=>n,λ b ob q _=>⟨ob,k b ob q⟩,λ _ _ q=>q,λ _ _ _ q=>q,λ _ ps q=>⟨#[],by rw[q];simp⟩⟩
theorem Un.refl:Un fs ex H H h h:=Un.kept λ _ _ q=>q
theorem Un.laid(k:∀b u,h.get? b=some u->h'.get? b=some u)(hp:h.objs.size<=a)(hn:H a=none):Un fs ex H (upd H a o) h h' where
 keep:=λ b u q _ _ _=>k b u q
 slot:=λ b u q _ _ _=>⟨u.slots,k b u q⟩
 free:=λ b u q n _=>by rw[jd (aW (aH (Heap.lt_size q) hp))];exact n
 there:=λ b u q _=>⟨u,k b u q⟩
 tups:=λ b xs q=>by rw[jd (je q hn)];exact q
 Cf:=λ b u xs q=>by rw[jd (je q hn)];exact q
 Cg:=λ b ps q=>⟨#[],by rw[jd (je q hn),q];simp⟩
theorem Un.write(mu:Vp (H x))(he:e=x\/H e=some (.own x))(k:∀b u,b≠e->h.get? b=some u->h'.get? b=some u)(SW:∃u,h'.get? e=some u):Un fs ex H (upd H x o) h h':=by
 have hx:∀b,H b=none->b≠x:=λ b n z=>by subst z;rw[n] at mu;exact mu
 have hb:∀b,H b=none->b≠e:=λ b n z=>by
  subst z
  rcases he with r | r
  ·exact hx b n r
  ·rw[n] at r;cases r
 have hm:∀b u,H b=some u->¬Vp (some u)->b≠x:=λ b u q nm z=>by subst z;rw[q] at mu;exact nm mu
 refine⟨λ b u q n _ _=>k b u (hb b n) q,λ b u q n _ _=>⟨u.slots,k b u (hb b n) q⟩,λ b u q n _=>by rw[jd (hx b n)];exact n,λ b u q _=>?_,
  λ b xs q=>by rw[jd (hm b _ q λ z=>z)];exact q,λ b u xs q=>by rw[jd (hm b _ q λ z=>z)];exact q,λ b ps q=>⟨#[],by rw[jd (hm b _ q λ z=>z),q];simp⟩⟩
 by_cases Q7:b=e
 ·subst Q7;exact SW
 ·exact⟨u,k b u Q7 q⟩
end
def Vq(h:Heap)(H:Hp):List Addr:=(aB h.objs.size).filter λ a=>(H a).isSome
def EL(h:Heap)(H:Hp):Heap:=PySem.W.hideAll h (Vq h H)
theorem Jm(h:Heap)(H:Hp):(EL h H).objs.size=h.objs.size:=PySem.W.hideAll_size _ _
theorem Lp{h:Heap}{H:Hp}{b:Addr}{o:Obj}(e:h.get? b=some o)(n:H b=none):(EL h H).get? b=some o:=
 iE _ e λ hm=>by
  have q:(H b).isSome=true:=(bN.mp hm).2;rw[n] at q;simp at q
theorem Ot{h:Heap}{H:Hp}{b:Addr}{o:Obj}(e:(EL h H).get? b=some o):h.get? b=some o/\H b=none:=by
 have e':h.get? b=some o:=iK (Vq h H) e
 refine⟨e',?_⟩
 cases q:H b with
 |none=>rfl
 |some x=>
  have hm:b∈Vq h H:=bN.mpr ⟨aX.mpr (Heap.lt_size e'),by simp[q]⟩;have z:(EL h H).get? b=none:=PySem.W.hideAll_none (Vq h H) hm;rw[z] at e;cases e
end L2
namespace L2
open PySem PySem.Spec PyProof.Rows
structure Mod(K:aj)(mg:Str->Option Value)(base:Heap):Prop where
 Qt:K.In base
 glob:base.Ns mainGlobals mg
 blt:∃mb,base.Ns builtinsNs mb/\∀x:Str,x≠"__name__"->mb x=bootBuiltins x
 nolimit:base.NoLimit
structure Cx where
 prog:Program
 w:World
 K:aj
 mg:Str->Option Value
 base:Heap
 A:Around
 N:List Str
 Ci:Shared
 Qu:Hp
 env:Env
 outer:List Env
 stack:List Env
 ex:List Addr
 fn:Str->Bool
 calm:Bool
 pn:List (Addr×Obj)
 xe:Value->Shared->Prop
def frs(l:List Env):List Addr:=l.filterMap (·.frame)
abbrev Cx.fs(X:Cx):List Addr:=frs X.outer
def Ou(sc:Scope)(x:Str):Prop:=sc.names.lookup x=some .local\/sc.names.lookup x=some .cell\/sc.names.lookup x=some .free
def Loc(sc:Scope)(x:Str):Prop:=sc.names.lookup x=some .local\/sc.names.lookup x=some .cell
def Look(env:Env)(h:Heap)(m:Str->Option Value)(x:Str)(u:Value):Prop:=
 (env.kindOf x=some .local/\m x=some u)\/((env.kindOf x=some .cell\/env.kindOf x=some .free)/\∃c,env.cells.lookup x=some c/\h.IsCell c (some u))
structure Cx.Ok(X:Cx):Prop where
 mod:Mod X.K X.mg X.base
 kind:X.env.scope.kind=.function
 glob:X.env.globals=mainGlobals
 blt:X.env.builtins=builtinsNs
 above:X.Ci.heap.objs.size<=X.env.locals
 inj:∀x y c,X.env.cells.lookup x=some c->X.env.cells.lookup y=some c->x=y
 has:∀x,(X.env.kindOf x=some .cell\/X.env.kindOf x=some .free)->∃c,X.env.cells.lookup x=some c
 Vr:∀x c,X.fn x=true->X.env.cells.lookup x=some c->X.Ci.heap.objs.size<=c
 hd:X.calm=true->X.A.handled=none
 frames:X.A.frames=some X.stack
 Ov:X.stack=X.outer\/(X.stack=X.env::X.outer/\X.env.frame=some X.env.locals)
 VW:∀b∈X.ex,b≠X.env.locals/\∀x c,X.env.cells.lookup x=some c->c≠b
 bs:∀b o,X.base.get? b=some o->X.Ci.heap.get? b=some o/\X.Qu b=none
 Oj:X.base.objs.size<=X.Ci.heap.objs.size
 Ow:∀b o,X.base.get? b=some o->b ∉ X.ex
 Ox:∀b∈X.ex,b ∉ X.fs
 zG:X.Ci.heap.FunFrames X.base X.outer
 Q8:∀b∈X.fs,X.Qu b=none
structure Inv(X:Cx)(pins:List (Addr×Obj))(σ:List (Option V))(H:Hp)(s:Shared):Prop where
 ok:X.Ok
 os:s.os=X.Ci.os
 bare:AllBare s.gens
 base:Un X.fs X.ex X.Qu H X.Ci.heap s.heap
 loc:∃m,s.heap.Ns X.env.locals m/\∀(i:Nat) (x:Str) (v:V),X.N[i]? = some x->σ[i]? = some (some v)->Ou X.env.scope x->∃u,RelV v u/\Look X.env s.heap m x u
 cell:∀x c,X.env.cells.lookup x=some c->∃v,s.heap.IsCell c v
 free:H X.env.locals=none
 tM:∀x c,X.env.cells.lookup x=some c->H c=none
 pin:∀p∈X.pn++pins,s.heap.get? p.1=some p.2/\H p.1=none/\p.1≠X.env.locals/\p.1 ∉ X.fs/\∀v,p.2.data≠.cell v
 hok:yu X.prog X.w H s.heap
 len:σ.length=X.N.length
section
variable{X:Cx}{pins:List (Addr×Obj)}{σ:List (Option V)}{H H':Hp}{s:Shared}{h':Heap}
theorem Cx.Ok.VX(ok:X.Ok){b:Addr}{o:Obj}(e:X.base.get? b=some o):b ∉ X.fs:=λ hb=>by
 have:=(ok.zG.mem hb).1
 rw[e] at this;cases this
theorem Inv.bs(I:Inv X pins σ H s):∀b o,X.base.get? b=some o->s.heap.get? b=some o/\H b=none:=λ b o e=>
 ⟨I.base.keep b o (I.ok.bs b o e).1 (I.ok.bs b o e).2 (I.ok.VX e) (I.ok.Ow b o e),I.base.free b o (I.ok.bs b o e).1 (I.ok.bs b o e).2 (I.ok.Ow b o e)⟩
theorem Inv.bk(I:Inv X pins σ H s):∀b o,X.base.get? b=some o->s.heap.get? b=some o:=λ b o e=>(I.bs b o e).1
theorem Inv.mod(I:Inv X pins σ H s):Mod X.K X.mg X.base:=I.ok.mod
theorem Inv.Gk(I:Inv X pins σ H s):X.K.In s.heap:=I.ok.mod.Qt.keeps I.bk
theorem Inv.nolimit(I:Inv X pins σ H s):s.heap.NoLimit:=I.ok.mod.nolimit.keeps I.bk
theorem Inv.fr(I:Inv X pins σ H s):∃m,Fr X.base X.env.locals s.heap m:=
 let ⟨m,hn,_⟩:=I.loc
 ⟨m,hn,I.bk,bg I.ok.Oj I.ok.above⟩
theorem Inv.lt(I:Inv X pins σ H s):X.env.locals<s.heap.objs.size:=let ⟨_,hn,_⟩:=I.loc;hn.lt
theorem Inv.sz(I:Inv X pins σ H s):X.Ci.heap.objs.size<=s.heap.objs.size:=bg I.ok.above (aZ I.lt)
theorem Inv.VY(I:Inv X pins σ H s){a:Addr}(h:s.heap.objs.size<=a):a ∉ X.fs:=λ hb=>by
 obtain⟨_,o,ho,_⟩:=I.ok.zG.mem hb
 exact absurd (aH (Heap.lt_size ho) (bg I.sz h)) (bJ _)
theorem Inv.Q9(I:Inv X pins σ H s):∀x c,X.env.cells.lookup x=some c->c≠X.env.locals:=λ x c e z=>by
 obtain⟨v,o,ho,hd⟩:=I.cell x c e
 obtain⟨m,⟨o',es,ep,ho',hd',_⟩,_⟩:=I.loc
 rw[z,ho'] at ho;cases ho;rw[hd'] at hd;cases hd
theorem Inv.zG(I:Inv X pins σ H s):s.heap.FunFrames X.base X.outer:=by
 have all:∀(l:List Env),(∀b∈frs l,b∈X.fs)->X.Ci.heap.FunFrames X.base l->s.heap.FunFrames X.base l:=by
  intro l
  induction l with
  |nil=>intro _ _;trivial
  |cons env r ih=>
   intro hs hl;obtain⟨hk,⟨L,o,hf,hn,ho,hd⟩,hr⟩:=hl;have hL:L∈X.fs:=hs L (by unfold frs;rw[eO,hf];exact aO);obtain⟨sl,e⟩:=I.base.slot L o ho (I.ok.Q8 L hL) hL λ z=>I.ok.Ox L z hL
   exact⟨hk,⟨L,_,hf,hn,e,hd⟩,ih (λ b hb=>hs b (by unfold frs;rw[eO,hf];exact aL _ hb)) hr⟩
 exact all X.outer (λ _ hb=>hb) I.ok.zG
theorem Inv.stack(I:Inv X pins σ H s):s.heap.FunFrames X.base X.stack:=by
 rcases I.ok.Ov with e | ⟨e,hf⟩
 ·rw[e];exact I.zG
 ·rw[e]
  obtain⟨m,hn,_⟩:=I.loc;refine .cons (by rw[I.ok.kind];decide) hf hn ?_ I.zG;exact Heap.get?_none_of_le (bg I.ok.Oj I.ok.above)
theorem Inv.Aa(I:Inv X pins σ H s):∀b∈frs X.stack,b∈X.env.locals::X.fs:=λ b hb=>by
 rcases I.ok.Ov with e | ⟨e,hf⟩
 ·rw[e] at hb;exact aL _ hb
 ·rw[e] at hb
  unfold frs at hb;rw[eO,hf] at hb;exact hb
theorem Inv.zR(I:Inv X pins σ H s):∀b∈frs X.stack,H b=none:=λ b hb=>by
 rcases aA.mp (I.Aa b hb) with e | hb
 ·rw[e];exact I.free
 ·obtain⟨_,o,ho,_⟩:=I.ok.zG.mem hb
  exact I.base.free b o ho (I.ok.Q8 b hb) λ z=>I.ok.Ox b z hb
theorem Inv.step{g':Array GenState}{t':Nat}{d':Drawn}{ch:List Addr}(I:Inv X pins σ H s)
  (hch:∀b∈ch,(b∈X.ex\/X.Ci.heap.objs.size<=b)/\b≠X.env.locals/\(∀x c,X.env.cells.lookup x=some c->c≠b)/\∀p∈X.pn++pins,p.1≠b)
  (keep:∀b o,b≠X.env.locals->b ∉ X.fs->b ∉ ch->s.heap.get? b=some o->H b=none->h'.get? b=some o)
  (slot:∀b o,b≠X.env.locals->b∈X.fs->b ∉ ch->s.heap.get? b=some o->H b=none->∃sl,h'.get? b=some { o with slots:=sl }) (free:∀b o,b ∉ ch->s.heap.get? b=some o->H b=none->H' b=none)
  (there:∀b o,b ∉ ch->s.heap.get? b=some o->∃o',h'.get? b=some o')
  (tups:∀b xs,H b=some (.tup xs)->H' b=some (.tup xs)) (Cf:∀b o u,H b=some (.Le o u)->H' b=some (.Le o u)) (Cg:∀b ps,H b=some (.DR ps)->∃more,H' b=some (.DR (ps++more)))
  (ns:∀m,s.heap.Ns X.env.locals m->h'.Ns X.env.locals m) (hok:yu X.prog X.w H' h') (hg:AllBare g') :
  Inv X pins σ H' { s with heap:=h',gens:=g',drawn:=d',toks:=t' }:=by
 have XC:∀b o,X.Ci.heap.get? b=some o->b≠X.env.locals:=λ b o e=>aW (aH (Heap.lt_size e) I.ok.above)
 have Vs:∀b o,X.Ci.heap.get? b=some o->b ∉ X.ex->b ∉ ch:=λ b o e hx hb=>by
  rcases (hch b hb).1 with z | z
  ·exact hx z
  ·exact absurd (aH (Heap.lt_size e) z) (bJ _)
 have cellK:∀x c,X.env.cells.lookup x=some c->∀v,s.heap.IsCell c v->h'.IsCell c v:=λ x c e v ⟨o,ho,hd⟩=>by
  have Tj:c ∉ ch:=λ z=>(hch c z).2.2.1 x c e rfl
  by_cases hc:c∈X.fs
  ·obtain⟨sl,q⟩:=slot c o (I.Q9 x c e) hc Tj ho (I.tM x c e);exact⟨_,q,hd⟩
  ·exact⟨o,keep c o (I.Q9 x c e) hc Tj ho (I.tM x c e),hd⟩
 refine⟨I.ok,I.os,hg,⟨λ b o e n hb hx=>?_,λ b o e n hb hx=>?_,λ b o e n hx=>?_,λ b o e hx=>?_,λ b xs e=>tups b xs (I.base.tups b xs e),λ b o xs e=>Cf b o xs (I.base.Cf b o xs e),λ b ps e=>?_⟩,?_,λ x c e=>?_,?_,λ x c e=>?_,λ p hp=>?_,hok,I.len⟩
 ·exact keep b o (XC b o e) hb (Vs b o e hx) (I.base.keep b o e n hb hx) (I.base.free b o e n hx)
 ·obtain⟨sl,e1⟩:=I.base.slot b o e n hb hx
  obtain⟨Vt,e2⟩:=slot b _ (XC b o e) hb (Vs b o e hx) e1 (I.base.free b o e n hx);exact⟨Vt,e2⟩
 ·obtain⟨o',e1⟩:=I.base.there b o e hx
  exact free b o' (Vs b o e hx) e1 (I.base.free b o e n hx)
 ·obtain⟨o',e1⟩:=I.base.there b o e hx
  exact there b o' (Vs b o e hx) e1
 ·obtain⟨m1,e1⟩:=I.base.Cg b ps e
  obtain⟨m2,e2⟩:=Cg b _ e1;exact⟨m1++m2,by rw[e2,Array.append_assoc]⟩
 ·obtain⟨m,hn,hl⟩:=I.loc
  refine⟨m,ns m hn,λ i x v e1 e2 e3=>?_⟩;obtain⟨u,r,l⟩:=hl i x v e1 e2 e3;refine⟨u,r,?_⟩
  rcases l with l | ⟨k,c,e,z⟩
  ·exact .inl l
  ·exact .inr ⟨k,c,e,cellK x c e _ z⟩
 ·obtain⟨v,z⟩:=I.cell x c e
  exact⟨v,cellK x c e v z⟩
 ·obtain⟨m,⟨o,_,_,ho,_⟩,_⟩:=I.loc
  exact free _ o (λ z=>(hch _ z).2.1 rfl) ho I.free
 ·obtain⟨v,o,ho,hd⟩:=I.cell x c e
  exact free c o (λ z=>(hch c z).2.2.1 x c e rfl) ho (I.tM x c e)
 ·obtain⟨e,n,ne,nf,d⟩:=I.pin p hp
  have Tj:p.1 ∉ ch:=λ z=>(hch p.1 z).2.2.2 p hp rfl
  exact⟨keep p.1 p.2 ne nf Tj e n,free p.1 p.2 Tj e n,ne,nf,d⟩
theorem Inv.un{t':Nat}(I:Inv X pins σ H s)(u:Un X.fs [] H H' s.heap h')(hok:yu X.prog X.w H' h'):Inv X pins σ H' { s with heap:=h',toks:=t' }:=by
 obtain⟨m,⟨o,es,ep,ho,r⟩,_⟩:=id I.loc
 obtain⟨sl,hL⟩:=u.any ho I.free (by simp)
 exact I.step (g':=s.gens) (d':=s.drawn) (ch:=[]) (λ _ z=>nomatch z) (λ b o _ hb _ e n=>u.keep b o e n hb (by simp)) (λ b o _ hb _ e n=>u.slot b o e n hb (by simp)) (λ b o _ e n=>u.free b o e n (by simp)) (λ b o _ e=>u.there b o e (by simp)) u.tups u.Cf u.Cg (λ m' hm=>by
  obtain⟨o',es',Ra,ho',r'⟩:=hm;rw[ho] at ho';cases ho';exact⟨_,es',Ra,hL,r'⟩) hok I.bare
theorem Inv.call{g':Array GenState}{t':Nat}{d':Drawn}{ch:List Addr}(I:Inv X pins σ H s)(u:Un (frs X.stack) ch H H' s.heap h')(hok:yu X.prog X.w H' h')(hg:AllBare g')
  (hch:∀b∈ch,(b∈X.ex\/X.Ci.heap.objs.size<=b)/\b≠X.env.locals/\(∀x c,X.env.cells.lookup x=some c->c≠b)/\∀p∈X.pn++pins,p.1≠b) :
  Inv X pins σ H' { s with heap:=h',gens:=g',drawn:=d',toks:=t' }:=by
 obtain⟨m,⟨o,es,ep,ho,r⟩,_⟩:=id I.loc
 obtain⟨sl,hL⟩:=u.any ho I.free λ z=>(hch _ z).2.1 rfl
 exact I.step (ch:=ch) hch (λ b o hL hb hc e n=>u.keep b o e n (λ z=>(aA.mp (I.Aa b z)).elim hL hb) hc) (λ b o _ _ hc e n=>u.any e n hc) (λ b o hc e n=>u.free b o e n hc) (λ b o hc e=>u.there b o e hc) u.tups u.Cf u.Cg (λ m' hm=>by
  obtain⟨o',es',Ra,ho',r'⟩:=hm;rw[ho] at ho';cases ho';exact⟨_,es',Ra,hL,r'⟩) hok hg
theorem Inv.turned{t':Nat}{it:Addr}(I:Inv X pins σ H s)(k:∀b o,b≠it->s.heap.get? b=some o->h'.get? b=some o)(hn:H it=none)(hL:it≠X.env.locals)
  (h1:it∈X.ex\/X.Ci.heap.objs.size<=it) (h2:∀x c,X.env.cells.lookup x=some c->c≠it) (h3:∀p∈X.pn++pins,p.1≠it):Inv X pins σ H { s with heap:=h',toks:=t' }:=by
 have Qv:∀b u,H b=some u->b≠it:=λ b u e z=>by rw[z,hn] at e;cases e
 refine I.step (g':=s.gens) (d':=s.drawn) (ch:=[it]) (λ b hb=>?_) (λ b o _ _ hc e _=>k b o (λ z=>hc (by simp[z])) e) (λ b o _ _ hc e _=>⟨o.slots,k b o (λ z=>hc (by simp[z])) e⟩) (λ _ _ _ _ n=>n)
  (λ b o hc e=>⟨o,k b o (λ z=>hc (by simp[z])) e⟩) (λ _ _ e=>e) (λ _ _ _ e=>e) (λ b ps e=>⟨#[],by rw[e];simp⟩) (λ m hm=>?_) (λ b u e=>?_) I.bare
 ·have e:b=it:=by simpa using hb
  subst e;exact⟨h1,hL,h2,h3⟩
 ·obtain⟨o,es,ep,ho,r⟩:=hm
  exact⟨o,es,ep,k _ o (Ne.symm hL) ho,r⟩
 ·refine (I.hok b u e).stay (λ c v hc q=>k c v ?_ q) (λ _ q=>q) λ _ _ q=>q
  rcases hc with z | z
  ·rw[z];exact Qv b u e
  ·exact Qv c _ z
theorem Inv.tok(I:Inv X pins σ H s)(t:Nat):Inv X pins σ H { s with toks:=t }:=I.un (h':=s.heap) (t':=t) Un.refl I.hok
theorem Inv.kept{t':Nat}(I:Inv X pins σ H s)(k:∀b u,s.heap.get? b=some u->h'.get? b=some u):Inv X pins σ H { s with heap:=h',toks:=t' }:=I.un (Un.kept k) (I.hok.kept k)
theorem Inv.laid{a:Addr}{o:HO}{t':Nat}(I:Inv X pins σ H s)(k:∀b u,s.heap.get? b=some u->h'.get? b=some u)(hp:s.heap.objs.size<=a)(new:nV X.prog X.w (upd H a o) h' a o) :
  Inv X pins σ (upd H a o) { s with heap:=h',toks:=t' }:=I.un (Un.laid k hp (I.hok.fresh hp)) (I.hok.laid k hp new)
theorem Inv.write{x e:Addr}{o:HO}{t':Nat}(I:Inv X pins σ H s)(mu:Vp (H x))(he:e=x\/H e=some (.own x))(k:∀b u,b≠e->s.heap.get? b=some u->h'.get? b=some u)(SW:∃u,h'.get? e=some u)
  (new:nV X.prog X.w (upd H x o) h' x o):Inv X pins σ (upd H x o) { s with heap:=h',toks:=t' }:=I.un (Un.write mu he k SW) (I.hok.write mu he k SW new)
theorem Inv.weak{σ':List (Option V)}(I:Inv X pins σ H s)(hl:σ'.length = σ.length)(w:∀(i:Nat) v,σ'[i]? = some (some v)->σ[i]? = some (some v)):Inv X pins σ' H s:=
 ⟨I.ok,I.os,I.bare,I.base,let ⟨m,hn,hl'⟩:=I.loc;⟨m,hn,λ i x v e1 e2 e3=>hl' i x v e1 (w i v e2) e3⟩,I.cell,I.free,I.tM,I.pin,I.hok,hl.trans I.len⟩
theorem Inv.HE{Qw:List (Addr×Obj)}(I:Inv X pins σ H s)(h:∀p∈Qw,s.heap.get? p.1=some p.2/\H p.1=none/\p.1≠X.env.locals/\p.1 ∉ X.fs/\∀v,p.2.data≠.cell v):Inv X Qw σ H s:=
 ⟨I.ok,I.os,I.bare,I.base,I.loc,I.cell,I.free,I.tM,λ p hp=>(bu.mp hp).elim (λ z=>I.pin p (fS _ z)) (h p),I.hok,I.len⟩
theorem Ab{N:List Str}(hN:N.Nodup){i j:Nat}{x:Str}(a:N[i]? = some x)(b:N[j]? = some x):i=j:=by
 obtain⟨h1,e1⟩:=ao.mp a
 obtain⟨h2,e2⟩:=ao.mp b
 exact (List.getElem_inj hN).mp (e1.trans e2.symm)
theorem CN{M:Model}{A:Around}{E:Value->Shared->Prop}{i:Nat}{x:Str}{v:V}{u:Value}{Q:Unit->Shared->Prop}(I:Inv X pins σ H s)(hN:X.N.Nodup)(hi:X.N[i]? = some x)(hx:Loc X.env.scope x)(r:RelV v u)
  (h:∀s',Inv X pins (σ.set i (some v)) H s'->(∃a,Heap.SameBut a s.heap s'.heap/\(a=X.env.locals\/X.env.cells.lookup x=some a))->Q () s') (hf:X.fn x=true\/X.env.scope.names.lookup x=some .local:=by first | exact .inl rfl | exact .inr rfl | assumption):wpAny M A (storeName X.env x u) Q E s:=by
 obtain⟨m,hn,hl⟩:=id I.loc
 have hcls:(X.env.scope.kind == .class||(X.env.scope.kind == .module&&X.env.locals != X.env.globals))=false:=by rw[I.ok.kind];rfl
 have XD:i<σ.length:=by rw[I.len];exact (ao.mp hi).1
 have Q9:=I.Q9
 have tracked:∀{a:Addr} {h':Heap},(∃o,s.heap.get? a=some o/\H a=none)->Heap.SameBut a s.heap h'->yu X.prog X.w H h':=λ {a h'} ha hs b ob e=>by
  obtain⟨_,_,hfree⟩:=ha;refine (I.hok b ob e).stay (λ c w' hc q=>(hs.2 c ?_).trans q) (λ _ q=>q) λ _ _ q=>q
  rintro rfl
  rcases hc with rfl | hc
  ·rw[hfree] at e;cases e
  ·rw[hfree] at hc;cases hc
 rcases hx with hk | hk
 ·refine wpAny_storeName_local hk hn (λ h' hn' hs=>?_) hcls
  obtain⟨oL,_,_,YX,_⟩:=id hn;refine h _ ⟨I.ok,I.os,I.bare,⟨λ b o e n hb hx=>?_,λ b o e n hb hx=>?_,I.base.free,λ b o e hx=>?_,I.base.tups,I.base.Cf,I.base.Cg⟩,⟨_,hn',λ j y v' e1 e2 e3=>?_⟩,λ y c e=>?_,I.free,I.tM,λ p hp=>?_,tracked ⟨oL,YX,I.free⟩ hs,by simpa using I.len⟩ ⟨_,hs,.inl rfl⟩
  ·exact (hs.2 b (aW (aH (Heap.lt_size e) I.ok.above))).trans (I.base.keep b o e n hb hx)
  ·obtain⟨sl,e1⟩:=I.base.slot b o e n hb hx;exact⟨sl,(hs.2 b (aW (aH (Heap.lt_size e) I.ok.above))).trans e1⟩
  ·obtain⟨o',e1⟩:=I.base.there b o e hx;exact⟨o',(hs.2 b (aW (aH (Heap.lt_size e) I.ok.above))).trans e1⟩
  ·by_cases hj:j=i
   ·subst hj;rw[hi] at e1;cases e1;rw[fk XD] at e2
    cases e2;exact⟨u,r,.inl ⟨hk,by simp⟩⟩
   ·rw[fT (Ne.symm hj)] at e2;obtain⟨u',r',q⟩:=hl j y v' e1 e2 e3;refine⟨u',r',?_⟩
    rcases q with ⟨k,e⟩ | ⟨k,c,e,z⟩
    ·refine .inl ⟨k,?_⟩;have:y≠x:=λ e=>hj (Ab hN e1 (e ▸ hi))
     simp[this,e]
    ·exact .inr ⟨k,c,e,z.sameBut hs (Q9 y c e)⟩
  ·obtain⟨w',z⟩:=I.cell y c e;exact⟨w',z.sameBut hs (Q9 y c e)⟩
  ·obtain⟨e,n,ne,nf,d⟩:=I.pin p hp;exact⟨(hs.2 p.1 ne).trans e,n,ne,nf,d⟩
 ·have hfn:X.fn x=true:=by
   rcases hf with z | z
   ·exact z
   ·rw[z] at hk;cases hk
  obtain⟨c,hc⟩:=I.ok.has x (.inl hk);obtain⟨w',z⟩:=I.cell x c hc;refine wpAny_storeName_cell I.ok.kind hk hc z (λ h' hc' hs=>?_);obtain⟨oc,hoc,VZ⟩:=id z;refine h { s with heap:=h' } ⟨I.ok,I.os,I.bare,⟨λ b o e n hb hx=>?_,λ b o e n hb hx=>?_,I.base.free,λ b o e hx=>?_,I.base.tups,I.base.Cf,I.base.Cg⟩,⟨m,hn.sameBut hs (Ne.symm (Q9 x c hc)),λ j y v' e1 e2 e3=>?_⟩,λ y c' e=>?_,I.free,I.tM,λ p hp=>?_,tracked ⟨oc,hoc,I.tM x c hc⟩ hs,by simpa using I.len⟩ ⟨c,hs,.inr hc⟩
  ·exact (hs.2 b (aW (aH (Heap.lt_size e) (I.ok.Vr x c hfn hc)))).trans (I.base.keep b o e n hb hx)
  ·obtain⟨sl,e1⟩:=I.base.slot b o e n hb hx;exact⟨sl,(hs.2 b (aW (aH (Heap.lt_size e) (I.ok.Vr x c hfn hc)))).trans e1⟩
  ·obtain⟨o',e1⟩:=I.base.there b o e hx;exact⟨o',(hs.2 b (aW (aH (Heap.lt_size e) (I.ok.Vr x c hfn hc)))).trans e1⟩
  ·by_cases hj:j=i
   ·subst hj;rw[hi] at e1;cases e1;rw[fk XD] at e2
    cases e2;exact⟨u,r,.inr ⟨.inl hk,c,hc,hc'⟩⟩
   ·rw[fT (Ne.symm hj)] at e2;obtain⟨u',r',q⟩:=hl j y v' e1 e2 e3;refine⟨u',r',?_⟩
    rcases q with q | ⟨k,c',e,z'⟩
    ·exact .inl q
    ·refine .inr ⟨k,c',e,z'.sameBut hs ?_⟩;rintro rfl;exact hj (Ab hN e1 (I.ok.inj _ _ _ e hc ▸ hi))
  ·by_cases hcc:c'=c
   ·subst hcc;exact⟨_,hc'⟩
   ·obtain⟨w2,z2⟩:=I.cell y c' e;exact⟨w2,z2.sameBut hs hcc⟩
  ·obtain⟨e,n,ne,nf,d⟩:=I.pin p hp;refine⟨(hs.2 p.1 ?_).trans e,n,ne,nf,d⟩;intro q;rw[q,hoc] at e;have q':oc=p.2:=aR e;exact d w' (by rw[<-q'];exact VZ)
theorem Ac{M:Model}{A:Around}{E:Value->Shared->Prop}{i:Nat}{x:Str}{v:V}{u:Value}{Q:Unit->Shared->Prop}(I:Inv X pins σ H s)(hN:X.N.Nodup)(hi:X.N[i]? = some x)(hx:Loc X.env.scope x)(r:RelV v u)
  (h:∀s',Inv X pins (σ.set i (some v)) H s'->Q () s') (hf:X.fn x=true\/X.env.scope.names.lookup x=some .local:=by first | exact .inl rfl | exact .inr rfl | assumption):wpAny M A (storeName X.env x u) Q E s:=
 CN I hN hi hx r (λ s' I' _=>h s' I') hf
theorem Inv.Tn{s':Shared}{ch:List Addr}(I:Inv X pins σ H s)(ho:s'.os=s.os)(u:Un (frs X.stack) ch H H' s.heap s'.heap)(hok:yu X.prog X.w H' s'.heap)(hg:AllBare s'.gens)
  (hch:∀b∈ch,(b∈X.ex\/X.Ci.heap.objs.size<=b)/\b≠X.env.locals/\(∀x c,X.env.cells.lookup x=some c->c≠b)/\∀p∈X.pn++pins,p.1≠b):Inv X pins σ H' s':=by
 obtain⟨h',g',d',t',o'⟩:=s'
 have e:o'=s.os:=ho
 subst e
 exact I.call (g':=g') (t':=t') (d':=d') u hok hg hch
end
abbrev XK:=Value->Option Addr->Hp->Prop
abbrev St:=List (Option V)
abbrev VK:=V->Hp->Prop
abbrev TE:=St->Hp->VK->Prop
abbrev TT:=St->Hp->(Bool->Hp->Prop)->Prop
abbrev TA:=St->Hp->(List V->Hp->Prop)->Prop
structure Ends where
 nx:St->Hp->Prop
 rt:VK
 bk:St->Hp->Prop:=λ _ _=>False
 ct:St->Hp->Prop:=λ _ _=>False
abbrev TS:=Ends->St->Hp->Prop
def EP(X:Cx)(pins:List (Addr×Obj))(σ:St)(Q:VK)(u:Value)(s':Shared):Prop:=∃v H',Inv X pins σ H' s'/\RelV v u/\Q v H'
def TP(X:Cx)(pins:List (Addr×Obj))(σ:St)(Q:Bool->Hp->Prop)(b:Bool)(s':Shared):Prop:=∃H',Inv X pins σ H' s'/\Q b H'
def AP(X:Cx)(pins:List (Addr×Obj))(σ:St)(Q:List V->Hp->Prop)(us:List Value)(s':Shared):Prop:=∃vs H',Inv X pins σ H' s'/\Vals vs us/\Q vs H'
def SP(X:Cx)(pins:List (Addr×Obj))(D:Ends)(f:Flow)(s':Shared):Prop:=
 match f with
 |.next=>∃σ' H',Inv X pins σ' H' s'/\D.nx σ' H'
 |.brk=>∃σ' H',Inv X pins σ' H' s'/\D.bk σ' H'
 |.cont=>∃σ' H',Inv X pins σ' H' s'/\D.ct σ' H'
 |.ret u=>∃v σ' H',Inv X pins σ' H' s'/\RelV v u/\D.rt v H'
def PE(X:Cx)(e:Expr)(t:TE):Prop:=
 ∀(pins:List (Addr×Obj)) (s:Shared) (σ:St) (H:Hp) (Q:VK),Inv X pins σ H s->t σ H Q->wpAny (model X.prog X.w) X.A (eval e X.env) (EP X pins σ Q) X.xe s
def PT(X:Cx)(e:Expr)(t:TT):Prop:=
 ∀(pins:List (Addr×Obj)) (s:Shared) (σ:St) (H:Hp) (Q:Bool->Hp->Prop),Inv X pins σ H s->t σ H Q->wpAny (model X.prog X.w) X.A (isTrue e X.env (eval e X.env)) (TP X pins σ Q) X.xe s
def PW(X:Cx)(e:Expr)(t:TT):Prop:=
 ∀(whole:Sem Value) (pins:List (Addr×Obj)) (s:Shared) (σ:St) (H:Hp) (Q:Bool->Hp->Prop),Inv X pins σ H s->t σ H Q->wpAny (model X.prog X.w) X.A (isTrue e X.env whole) (TP X pins σ Q) X.xe s
theorem PW.pt{X:Cx}{e:Expr}{t:TT}(h:PW X e t):PT X e t:=h _
def PA(X:Cx)(es:List Expr)(t:TA):Prop:=
 ∀(pos:Pos) (pins:List (Addr×Obj)) (s:Shared) (σ:St) (H:Hp) (Q:List V->Hp->Prop),Inv X pins σ H s->t σ H Q->wpAny (model X.prog X.w) X.A (spliced (backTo pos (starEach es X.env))) (AP X pins σ Q) X.xe s
def PS(X:Cx)(st:Stmt)(t:TS):Prop:=
 ∀(pins:List (Addr×Obj)) (s:Shared) (σ:St) (H:Hp) (D:Ends),Inv X pins σ H s->t D σ H->wpAny (model X.prog X.w) X.A (exec st X.env) (SP X pins D) X.xe s
def Lq(X:Cx)(st:List Stmt)(t:TS):Prop:=
 ∀(pins:List (Addr×Obj)) (s:Shared) (σ:St) (H:Hp) (D:Ends),Inv X pins σ H s->t D σ H->wpAny (model X.prog X.w) X.A (execs st X.env) (SP X pins D) X.xe s
theorem lO{α:Type}{t:Sem α}{Q Q':α->Shared->Prop}{M:Model}{A:Around}{E:Value->Shared->Prop}{s:Shared}(h:wpAny M A t Q E s)(hQ:∀a s,Q a s->Q' a s):wpAny M A t Q' E s:=wpAny_mono h hQ λ _ _ x=>x
end L2
namespace L2
open PySem PySem.Spec PyProof.Rows
section
variable{X:Cx}
theorem bin{a b:Expr}{ta tb:TE}(ha:PE X a ta)(hb:PE X b tb){pins:List (Addr×Obj)}{s:Shared}{σ:St}{H:Hp}{R:V->V->Hp->Prop}(I:Inv X pins σ H s)(h:ta σ H λ x H1=>tb σ H1 λ y H2=>R x y H2)
  {α:Type} {Q:α->Shared->Prop} {f:Value->Value->Sem α}
  (hf:∀v u s2 x y H2,Inv X pins σ H2 s2->RelV x v->RelV y u->R x y H2->wpAny (model X.prog X.w) X.A (f v u) Q X.xe s2) :
  wpAny (model X.prog X.w) X.A (eval a X.env) (λ v s₁=>wpAny (model X.prog X.w) X.A (eval b X.env) (λ u s₂=>wpAny (model X.prog X.w) X.A (f v u) Q X.xe s₂) X.xe s₁) X.xe s:=by
 refine lO (ha pins s σ H _ I h) λ v s1 ⟨x,H1,I1,r1,q1⟩=>?_
 refine lO (hb pins s1 σ H1 _ I1 q1) λ u s2 ⟨y,H2,I2,r2,q2⟩=>?_
 exact hf v u s2 x y H2 I2 r1 r2 q2
def wY(i:Nat):TE:=λ σ H Q=>∃v,σ[i]? = some (some v)/\Q v H
def tC(v:V):TE:=λ _ H Q=>Q v H
theorem Rb{i:Nat}{x:Str}{pos:Pos}(hN:X.N[i]? = some x)(hv:Ou X.env.scope x)(hd:(x==("__debug__":Str))=false:=by decide)(hcd:(x==("__classdict__":Str))=false:=by decide):PE X (.Name x pos) (wY i):=by
 intro pins s σ H Q I h
 obtain⟨v,e,h⟩:=h
 obtain⟨m,hn,hl⟩:=I.loc
 obtain⟨u,r,l⟩:=hl i x v hN e hv
 have fin:EP X pins σ Q u s:=⟨v,H,I,r,h⟩
 rcases l with ⟨hk,hm⟩ | ⟨hk,c,hc,hcell⟩
 ·exact wpAny_Name (wpAny_loadName_local I.ok.kind hk hn hm fin) hd
 ·rcases hk with hk | hk
  ·exact wpAny_Name (wpAny_loadName_cell I.ok.kind hk hc hcell fin) hd
  ·exact wpAny_Name (wpAny_loadName_free I.ok.kind hk hc hcell fin hcd) hd
theorem jt{i j pos}:PE X (.Constant (.int i) j pos) (tC (.int i)):=λ _ _ _ H _ I h=>wpAny_Constant_int ⟨.int i,H,I.tok _,⟨_,rfl⟩,h⟩
theorem Lr{b j pos}:PE X (.Constant (.bool b) j pos) (tC (.bl b)):=λ _ _ _ H _ I h=>Constant_bool ⟨.bl b,H,I,rfl,h⟩
def Gl(X:Cx)(x:Str):Prop:=X.env.kindOf x=some .globalImplicit
theorem sN{E:Value->Shared->Prop}{pins:List (Addr×Obj)}{s:Shared}{σ:St}{H:Hp}{x:Str}{u:Value}{pos:Pos}{Q:Value->Shared->Prop}(I:Inv X pins σ H s)(hg:Gl X x)(hm:X.mg x=some u)(h:Q u s)
  (hd:(x==("__debug__":Str))=false:=by decide):wpAny (model X.prog X.w) X.A (eval (.Name x pos) X.env) Q E s:=
 Calls.Name_function_global I.ok.kind hg (Calls.loadGlobal_global (by rw[I.ok.glob];exact I.mod.glob.keeps I.bk) hm h) hd
theorem wB{E:Value->Shared->Prop}{pins:List (Addr×Obj)}{s:Shared}{σ:St}{H:Hp}{x:Str}{u:Value}{pos:Pos}{Q:Value->Shared->Prop}(I:Inv X pins σ H s)(hg:Gl X x)(hm:X.mg x=none)(hv:bootBuiltins x=some u)(h:Q u s)
  (hn:x≠"__name__":=by decide) (hd:(x==("__debug__":Str))=false:=by decide):wpAny (model X.prog X.w) X.A (eval (.Name x pos) X.env) Q E s:=by
 obtain⟨mb,h1,h2⟩:=I.mod.blt
 exact Calls.Name_function_global I.ok.kind hg (Calls.loadGlobal_builtin (by rw[I.ok.glob];exact I.mod.glob.keeps I.bk) hm (by rw[I.ok.blt];exact h1.keeps I.bk) ((h2 x hn).trans hv) h) hd
theorem Oz{x:Str}{v:V}{u:Value}{pos:Pos}(hg:Gl X x)(hm:X.mg x=some u)(r:RelV v u)(hd:(x==("__debug__":Str))=false:=by decide):PE X (.Name x pos) (tC v):=
 λ _ _ _ H _ I h=>sN I hg hm ⟨v,H,I,r,h⟩ hd
variable{a b:Expr}{ta tb:TE}{pos:Pos}
def tB(t:TE):TT:=λ σ H Q=>t σ H λ x H1=>∃c,x=.bl c/\Q c H1
theorem pW{e:Expr}{t:TE}(h:PE X e t)(he:∀whole,isTrue e X.env whole=(do let v <-whole;standAt e.pos;holding [v] (truthy v)):=by intro _;rfl):PT X e (tB t):=by
 intro pins s σ H Q I hw
 refine isTrue_plain (lO (h pins s σ H _ I hw) λ v s1 ⟨x,H1,I1,r1,q1⟩=>?_) (he _)
 obtain⟨d,rfl,q⟩:=q1
 cases r1
 exact wpAny_truthy_bool ⟨H1,I1,q⟩
variable{tA Vu:TT}{rest:List Expr}
def V0(t u:TT):TT:=λ σ H Q=>t σ H λ c H1=>if c=true then u σ H1 Q else Q false H1
def YY(t u:TT):TT:=λ σ H Q=>t σ H λ c H1=>if c=true then Q true H1 else u σ H1 Q
def V1(t:TT):TT:=λ σ H Q=>t σ H λ c H1=>Q (!c) H1
theorem OA(ha:PT X a tA):PW X (.BoolOp .And [a] pos) tA:=by
 intro wh pins s σ H Q I h
 refine isTrue_and (lO (ha pins s σ H Q I h) λ c s1 e=>?_)
 cases c with
 |true=>exact isTrue_and_nil e
 |false=>exact e
theorem Rc(ha:PT X a tA):PW X (.BoolOp .Or [a] pos) tA:=by
 intro wh pins s σ H Q I h
 refine isTrue_or (lO (ha pins s σ H Q I h) λ c s1 e=>?_)
 cases c with
 |false=>exact isTrue_or_nil e
 |true=>exact e
theorem Rf(ha:PT X a tA)(hb:PW X (.BoolOp .And (b::rest) pos) Vu):PW X (.BoolOp .And (a::b::rest) pos) (V0 tA Vu):=by
 intro wh pins s σ H Q I h
 refine isTrue_and (lO (ha pins s σ H _ I h) λ c s1 ⟨H1,I1,q1⟩=>?_)
 cases c with
 |true=>exact hb wh pins s1 σ H1 Q I1 q1
 |false=>exact⟨H1,I1,q1⟩
theorem To(ha:PT X a tA)(hb:PW X (.BoolOp .Or (b::rest) pos) Vu):PW X (.BoolOp .Or (a::b::rest) pos) (YY tA Vu):=by
 intro wh pins s σ H Q I h
 refine isTrue_or (lO (ha pins s σ H _ I h) λ c s1 ⟨H1,I1,q1⟩=>?_)
 cases c with
 |true=>exact⟨H1,I1,q1⟩
 |false=>exact hb wh pins s1 σ H1 Q I1 q1
theorem DS(ha:PT X a tA):PT X (.UnaryOp .Not a pos) (V1 tA):=by
 intro pins s σ H Q I h
 exact isTrue_not (ha pins s σ H (λ c H1=>Q (!c) H1) I h)
def V2(ta tb:TE):TE:=λ σ H Q=>ta σ H λ x H1=>∃c,x=.bl c/\if c=true then Q (.bl true) H1 else tb σ H1 Q
theorem Ls{op}{t:TE}(h:PE X a t):PE X (.BoolOp op [a] pos) t:=λ pins s σ H Q I hw=>BoolOp_one (h pins s σ H Q I hw)
theorem Lu(ha:PE X a ta)(hb:PE X (.BoolOp .Or (b::rest) pos) tb):PE X (.BoolOp .Or (a::b::rest) pos) (V2 ta tb):=by
 intro pins s σ H Q I h
 refine BoolOp_or (lO (ha pins s σ H _ I h) λ v s1 ⟨x,H1,I1,r1,q1⟩=>?_)
 obtain⟨c,rfl,q1⟩:=q1
 cases r1
 refine wpAny_truthy_bool ?_
 cases c with
 |false=>exact hb pins s1 σ H1 Q I1 q1
 |true=>exact⟨.bl true,H1,I1,rfl,q1⟩
def XE(t:TT)(ta tb:TE):TE:=λ σ H Q=>t σ H λ c H1=>if c=true then ta σ H1 Q else tb σ H1 Q
theorem ua{c:Expr}(hc:PT X c tA)(ha:PE X a ta)(hb:PE X b tb):PE X (.IfExp c a b pos) (XE tA ta tb):=by
 intro pins s σ H Q I h
 refine wpAny_IfExp (lO (hc pins s σ H _ I h) λ d s1 ⟨H1,I1,q1⟩=>?_)
 cases d with
 |true=>exact ha pins s1 σ H1 Q I1 q1
 |false=>exact hb pins s1 σ H1 Q I1 q1
end
end L2
namespace L2
open PySem PySem.Spec PyProof.Rows
def jz(K:aj)(H:Hp)(a:Addr)(xs:List V):Prop:=
 Rd H a (.lst xs) \/
  ∃(o:Obj) (its:Array Value) (n:Nat),K.lookup a=some o/\o.cls=.type "list"/\o.dict=none/\o.data=.seq its n/\its.size<=sizeLine/\Vals xs its.toList
def rq(K:aj)(H:Hp)(a:Addr)(xs:List V):Prop:=
 Rd H a (.tup xs) \/
  ∃(o:Obj) (its:Array Value) (n:Nat),K.lookup a=some o/\o.cls=.type "tuple"/\o.data=.seq its n/\its.size<=sizeLine/\Vals xs its.toList
def V3:Value->Option V
 |.none=>some .pT
 |.bool b=>some (.bl b)
 |.int i _=>some (.int i)
 |.str x _=>some (.str x)
 |.bytes b _=>some (.HD b)
 |.float b _=>some (.Vo b)
 |.ref a=>some (.ref a)
 |.type n=>some (.ty n)
 |_=>none
theorem RelV.abs{x:V}{u:Value}(r:RelV x u):V3 u=some x:=by
 cases x with
 |pT=>cases r;rfl
 |bl _=>cases r;rfl
 |int _=>obtain⟨t,rfl⟩:=r;rfl
 |str _=>obtain⟨t,rfl⟩:=r;rfl
 |HD _=>obtain⟨t,rfl⟩:=r;rfl
 |Vo _=>obtain⟨t,rfl⟩:=r;rfl
 |ref _=>cases r;rfl
 |ty _=>cases r;rfl
theorem RelV.inj{x y:V}{u:Value}(r:RelV x u)(q:RelV y u):x=y:=aR (r.abs.symm.trans q.abs)
theorem Vals.inj:∀{xs ys:List V}{us:List Value},Vals xs us->Vals ys us->xs=ys
 |_,_,_,.nil,.nil=>rfl
 |_,_,_,.cons r t,.cons r' t'=>by rw[r.inj r',Vals.inj t t']
section
variable{X:Cx}{pins:List (Addr×Obj)}{σ:St}{H:Hp}{s:Shared}{a:Addr}{xs ys:List V}
theorem jz.of{K:aj}(h:H a=some (.lst xs)):jz K H a xs:=.inl (.inl h)
theorem rq.of{K:aj}(h:H a=some (.tup xs)):rq K H a xs:=.inl (.inl h)
theorem Inv.list(I:Inv X pins σ H s)(h:jz X.K H a xs):∃its:List Value,Vals xs its/\PlainL s.heap a its.toArray/\xs.length<=sizeLine:=by
 rcases h with h | ⟨o,its,n,hk,hc,hd,hs,hz,r⟩
 ·obtain⟨z,its,n,r,e⟩:=h.ok I.hok
  exact⟨its,r,⟨_,n,e,rfl,rfl,rfl⟩,z⟩
 ·refine⟨its.toList,r,⟨o,n,I.Gk a o hk,hc,hd,by simpa using hs⟩,?_⟩
  have e:=r.length;simp only[cZ] at e
  omega
theorem Inv.tuple(I:Inv X pins σ H s)(h:rq X.K H a xs):∃its:List Value,Vals xs its/\IsTup s.heap a its.toArray/\xs.length<=sizeLine:=by
 rcases h with h | ⟨o,its,n,hk,hc,hs,hz,r⟩
 ·obtain⟨z,its,r,p⟩:=h.ok I.hok
  exact⟨its,r,p,z⟩
 ·refine⟨its.toList,r,⟨o,I.Gk a o hk,hc,n,by simpa using hs⟩,?_⟩
  have e:=r.length;simp only[cZ] at e
  omega
theorem Inv.wZ(I:Inv X pins σ H s)(h:jz X.K H a xs)(h':jz X.K H a ys):xs=ys:=by
 obtain⟨its,r,⟨o,n,e,_,_,d⟩,_⟩:=I.list h
 obtain⟨its',r',⟨o',n',e',_,_,d'⟩,_⟩:=I.list h'
 rw[e] at e';cases e'
 rw[d] at d'
 injection d' with d1 _
 have:its=its':=by simpa using congrArg Array.toList d1
 subst this
 exact r.inj r'
end
section
variable{X:Cx}{pins:List (Addr×Obj)}{σ:St}{H:Hp}{s:Shared}{E:Value->Shared->Prop}
end
section
variable{X:Cx}{st:Stmt}{rest:List Stmt}{t u:TS}{e:Expr}{te:TE}{pos:Pos}
def Tq:TS:=λ D σ H=>D.nx σ H
def Jo(t u:TS):TS:=λ D σ H=>t { D with nx:=u D } σ H
theorem m7:Lq X [] Tq:=λ _ _ σ H _ I h=>wpAny_execs_nil ⟨σ,H,I,h⟩
theorem ja(h1:PS X st t)(h2:Lq X rest u):Lq X (st::rest) (Jo t u):=by
 intro pins s σ H D I h
 refine wpAny_execs_cons (lO (h1 pins s σ H { D with nx:=u D } I h) λ f s1 q=>?_)
 cases f with
 |next=>
  obtain⟨σ',H',I',q⟩:=q;exact h2 pins s1 σ' H' D I' q
 |ret v=>exact q
 |brk=>exact q
 |cont=>exact q
theorem jf(h1:PS X st t):Lq X [st] t:=by
 intro pins s σ H D I h
 refine wpAny_execs_cons (lO (h1 pins s σ H D I h) λ f s1 q=>?_)
 cases f with
 |next=>exact wpAny_execs_nil q
 |ret v=>exact q
 |brk=>exact q
 |cont=>exact q
theorem Inv.quiet{pins:List (Addr×Obj)}{σ:St}{H:Hp}{s:Shared}(I:Inv X pins σ H s):interactive X.env=false:=by simp[interactive,I.ok.kind]
def Lv(te:TE):TS:=λ D σ H=>te σ H λ _ H1=>D.nx σ H1
theorem jH(he:PE X e te)(hs:swapsWith e none pos.line X.env=pure false:=by rfl):PS X (.Expr e pos) (Lv te):=by
 intro pins s σ H D I h
 exact wpAny_Expr_any (lO (he pins s σ H _ I h) λ v s1 ⟨x,H1,I1,r1,q1⟩=>⟨σ,H1,I1,q1⟩) I.quiet hs
def OB(te:TE):TS:=λ D σ H=>te σ H D.rt
theorem jx(he:PE X e te):PS X (.Return (some e) pos) (OB te):=by
 intro pins s σ H D I h
 exact wpAny_Return_some (lO (he pins s σ H _ I h) λ v s1 ⟨x,H1,I1,r1,q1⟩=>⟨x,σ,H1,I1,r1,q1⟩)
def V4(c:TT)(t u:TS):TS:=λ D σ H=>c σ H λ b H1=>if b=true then t D σ H1 else u D σ H1
theorem rA{c:Expr}{a b:List Stmt}{tc:TT}(hc:PT X c tc)(ha:Lq X a t)(hb:Lq X b u):PS X (.If c a b pos) (V4 tc t u):=by
 intro pins s σ H D I h
 refine wpAny_If (lO (hc pins s σ H _ I h) λ d s1 ⟨H1,I1,q1⟩=>?_)
 cases d with
 |true=>exact ha pins s1 σ H1 D I1 q1
 |false=>exact hb pins s1 σ H1 D I1 q1
end
abbrev TG:=V->St->Hp->(St->Hp->Prop)->Prop
abbrev Rg:=List V->St->Hp->(St->Hp->Prop)->Prop
def PG(X:Cx)(target:Expr)(t:TG):Prop:=
 ∀(pins:List (Addr×Obj)) (s:Shared) (σ:St) (H:Hp) (v:V) (u:Value) (Q:St->Hp->Prop),Inv X pins σ H s->RelV v u->t v σ H Q ->
  wpAny (model X.prog X.w) X.A (assign target X.env u) (λ _ s'=>∃σ' H',Inv X pins σ' H' s'/\Q σ' H') X.xe s
def Vv(X:Cx)(ts:List Expr)(t:Rg):Prop:=
 ∀(pins:List (Addr×Obj)) (s:Shared) (σ:St) (H:Hp) (vs:List V) (us:List Value) (Q:St->Hp->Prop),Inv X pins σ H s->Vals vs us->t vs σ H Q ->
  wpAny (model X.prog X.w) X.A (assignInOrder ((assignEach ts X.env).map (·.2)) us) (λ _ s'=>∃σ' H',Inv X pins σ' H' s'/\Q σ' H') X.xe s
abbrev Lw:=V->V->V->Hp->(Hp->Prop)->Prop
def Rh(X:Cx)(t:Lw):Prop:=
 ∀(pins:List (Addr×Obj)) (s:Shared) (σ:St) (H:Hp) (o i v:V) (ov iv u:Value) (Q:Hp->Prop),Inv X pins σ H s->RelV o ov->RelV i iv->RelV v u->t o i v H Q ->
  wpAny (model X.prog X.w) X.A (setItem ov iv u) (λ _ s'=>∃H',Inv X pins σ H' s'/\Q H') X.xe s
abbrev S0:=V->V->Hp->VK->Prop
def V5(X:Cx)(op:Operator)(t:S0):Prop:=
 ∀(pins:List (Addr×Obj)) (s:Shared) (σ:St) (H:Hp) (x y:V) (v u:Value) (Q:VK),Inv X pins σ H s->RelV x v->RelV y u->t x y H Q ->
  wpAny (model X.prog X.w) X.A (inplaceOp op v u) (EP X pins σ Q) X.xe s
section
variable{X:Cx}{pos:Pos}
def CO(i:Nat):TG:=λ v σ H Q=>Q (σ.set i (some v)) H
theorem jS{i:Nat}{x:Str}(hN:X.N.Nodup)(hi:X.N[i]? = some x)(hx:Loc X.env.scope x)(hf:X.fn x=true\/X.env.scope.names.lookup x=some .local:=by first | exact .inl rfl | exact .inr rfl | assumption):PG X (.Name x pos) (CO i):=by
 intro pins s σ H v u Q I r h
 exact wpAny_assign_Name (Ac I hN hi hx r (λ s' I'=>⟨_,H,I',h⟩) hf)
def Tr:Rg:=λ vs σ H Q=>vs=[]/\Q σ H
def Lx(t:TG)(u:Rg):Rg:=λ vs σ H Q=>∃v r,vs=v::r/\t v σ H λ σ' H'=>u r σ' H' Q
theorem OE:Vv X [] Tr:=by
 intro pins s σ H vs us Q I r h
 obtain⟨e,h⟩:=h
 subst e
 cases r
 exact assignInOrder_nil ⟨σ,H,I,h⟩
theorem EM{e:Expr}{es:List Expr}{t:TG}{u:Rg}(h1:PG X e t)(h2:Vv X es u)
  (hs:(assignEach (e::es) X.env).map (·.2)=assign e X.env::(assignEach es X.env).map (·.2):=by rfl):Vv X (e::es) (Lx t u):=by
 intro pins s σ H vs us Q I r h
 obtain⟨v,vr,e1,h⟩:=h
 subst e1
 cases r with
 |cons r rr=>
  rw[hs];refine assignInOrder_cons (lO (h1 pins s σ H _ _ _ I r h) λ _ s1 ⟨σ1,H1,I1,q1⟩=>?_);exact h2 pins s1 σ1 H1 _ _ Q I1 rr q1
def Tt(K:aj)(n:Nat)(t:Rg):TG:=λ v σ H Q=>∃a xs,v=.ref a/\rq K H a xs/\xs.length=n/\t xs σ H Q
theorem Ri{es:List Expr}{k:Nat}{t:Rg}{n:Nat}(hc:X.calm=true)(h:Vv X es t)
  (hn:(assignEach es X.env).length=n:=by rfl) (hst:(assignEach es X.env).findIdx? (·.1)=none:=by rfl):PG X (.Tuple es k pos) (Tt X.K n t):=by
 intro pins s σ H v u Q I r hw
 obtain⟨a,xs,e1,hq,hl,hw⟩:=hw
 subst e1
 cases r
 obtain⟨its,rv,ht,hz⟩:=I.tuple hq
 refine assign_Tuple_tuple (I.ok.hd hc) ht (by simp[hn,<-hl,rv.length]) hst λ h' hx=>?_
 have I1:Inv X pins σ H { s with heap:=h' }:=I.kept (t':=s.toks) λ b o e=>hx b o (aW (Heap.lt_size e)) e
 exact h pins _ σ H xs _ Q I1 (by simpa using rv) hw
def V6(to ti:TE)(t:Lw):TG:=λ v σ H Q=>to σ H λ o H1=>ti σ H1 λ i H2=>t o i v H2 λ H3=>Q σ H3
theorem yw{o i:Expr}{to ti:TE}{t:Lw}(ho:PE X o to)(hi:PE X i ti)(hs:Rh X t)
  (ha:∀v,assign (.Subscript o i pos) X.env v=(do
   let ov <-holding [v] (eval o X.env)
   let iv <-holding [v,ov] (eval i X.env)
   standAt pos
   holding [v,ov,iv] (setItem ov iv v)
   release [v,ov,iv] []):=by intro _;rfl):PG X (.Subscript o i pos) (V6 to ti t):=by
 intro pins s σ H v u Q I r h
 rw[ha]
 refine wpAny_bind (wpAny_holding (lO (ho pins s σ H _ I h) λ ov s1 ⟨x,H1,I1,r1,q1⟩=>?_))
 refine wpAny_bind (wpAny_holding (lO (hi pins s1 σ H1 _ I1 q1) λ iv s2 ⟨y,H2,I2,r2,q2⟩=>?_))
 refine wpAny_bind (wpAny_standAt (wpAny_bind (wpAny_holding (lO (hs pins s2 σ H2 x y v ov iv u _ I2 r1 r2 r q2) λ _ s3 ⟨H3,I3,q3⟩=>?_))))
 exact wpAny_release ⟨σ,H3,I3,q3⟩
def Rj(te:TE)(g:TG):TS:=λ D σ H=>te σ H λ x H1=>g x σ H1 D.nx
theorem yx{tg e:Expr}{te:TE}{g:TG}(he:PE X e te)(hg:PG X tg g)(hs:swapsWithSole [tg] e pos.line X.env=pure false:=by rfl)(hw:swappedStores [tg] e X.env=pure none:=by rfl)
  (h1:(assignEach [tg] X.env).map (·.2)=[assign tg X.env]:=by rfl):PS X (.Assign [tg] e pos) (Rj te g):=by
 intro pins s σ H D I h
 refine wpAny_Assign_stores (lO (he pins s σ H _ I h) λ v s1 ⟨x,H1,I1,r1,q1⟩=>?_) hs hw
 rw[h1]
 exact lO (hg pins s1 σ H1 x v _ I1 r1 q1) λ _ s2 q=>q
theorem jB{i:Nat}{x:Str}{e:Expr}{te:TE}{pos':Pos}(hN:X.N.Nodup)(hi:X.N[i]? = some x)(hx:Loc X.env.scope x)(he:PE X e te)(hs:swapsWith e (some (.Name x pos')) pos.line X.env=pure false:=by rfl)(hf:X.fn x=true\/X.env.scope.names.lookup x=some .local:=by first | exact .inl rfl | exact .inr rfl | assumption) :
  PS X (.Assign [.Name x pos'] e pos) (Rj te (CO i)):=by
 intro pins s σ H D I h
 refine wpAny_Assign_Name (lO (he pins s σ H _ I h) λ v s1 ⟨y,H1,I1,r1,q1⟩=>?_) hs
 exact Ac I1 hN hi hx r1 (λ s2 I2=>⟨_,H1,I2,q1⟩) hf
def V8(i:Nat)(te:TE)(ti:S0):TS:=λ D σ H=>∃x,σ[i]? = some (some x)/\te σ H λ y H1=>ti x y H1 λ z H2=>D.nx (σ.set i (some z)) H2
theorem Rk{i:Nat}{x:Str}{e:Expr}{te:TE}{op:Operator}{ti:S0}{pos':Pos}(hN:X.N.Nodup)(hi:X.N[i]? = some x)(hx:Loc X.env.scope x)(he:PE X e te)(ho:V5 X op ti)(hf:X.fn x=true\/X.env.scope.names.lookup x=some .local:=by first | exact .inl rfl | exact .inr rfl | assumption) :
  PS X (.AugAssign (.Name x pos') op e pos) (V8 i te ti):=by
 intro pins s σ H D I h
 obtain⟨v,e1,h⟩:=h
 obtain⟨m,hn,hl⟩:=I.loc
 have Wa:Ou X.env.scope x:=by rcases hx with k | k;exact .inl k;exact .inr (.inl k)
 obtain⟨u,r,l⟩:=hl i x v hi e1 Wa
 refine wpAny_AugAssign_Name ?_
 have go:wpAny (model X.prog X.w) X.A (eval e X.env) (λ w s₂=>wpAny (model X.prog X.w) X.A (inplaceOp op u w) (λ r s₃=>wpAny (model X.prog X.w) X.A (storeName X.env x r) (λ _=>SP X pins D .next) X.xe s₃) X.xe s₂) X.xe s:=by
  refine lO (he pins s σ H _ I h) λ w s1 ⟨y,H1,I1,r1,q1⟩=>?_
  refine lO (ho pins s1 σ H1 v y u w _ I1 r r1 q1) λ z s2 ⟨zv,H2,I2,r2,q2⟩=>?_
  exact Ac I2 hN hi hx r2 (λ s3 I3=>⟨_,H2,I3,q2⟩) hf
 rcases l with ⟨hk,hm⟩ | ⟨hk,c,hc,hcell⟩
 ·exact wpAny_loadName_local I.ok.kind hk hn hm go
 ·rcases hk with hk | hk
  ·exact wpAny_loadName_cell I.ok.kind hk hc hcell go
  ·rcases hx with k | k
   ·have:X.env.scope.names.lookup x=some .free:=hk;rw[k] at this;cases this
   ·have:X.env.scope.names.lookup x=some .free:=hk;rw[k] at this;cases this
def Tu(to ti te:TE)(OF:V->V->Hp->VK->Prop)(Vw:S0)(OG:Lw):TS:=λ D σ H=>to σ H λ o H1=>ti σ H1 λ i H2=>OF o i H2 λ x H3=>te σ H3 λ y H4=>Vw x y H4 λ z H5=>OG o i z H5 λ H6=>D.nx σ H6
def Tv(X:Cx)(t:V->V->Hp->VK->Prop):Prop:=
 ∀(pins:List (Addr×Obj)) (s:Shared) (σ:St) (H:Hp) (o i:V) (ov iv:Value) (Q:VK),Inv X pins σ H s->RelV o ov->RelV i iv->t o i H Q ->
  wpAny (model X.prog X.w) X.A (getItem ov iv) (EP X pins σ Q) X.xe s
theorem OH{o i e:Expr}{to ti te:TE}{OF:V->V->Hp->VK->Prop}{Vw:S0}{OG:Lw}{op:Operator}{tpos:Pos}(ho:PE X o to)(hi:PE X i ti)(hg:Tv X OF)(he:PE X e te)(hp:V5 X op Vw)(hs:Rh X OG)
  (ha:∀ov iv new,augStore i ov iv new=(do holding [new,ov,iv] (setItem ov iv new);release [new,ov,iv] [];pure .next):=by intros;rfl):PS X (.AugAssign (.Subscript o i tpos) op e pos) (Tu to ti te OF Vw OG):=by
 intro pins s σ H D I h
 refine wpAny_AugAssign_SubscriptAny (lO (ho pins s σ H _ I h) λ ov s1 ⟨x1,H1,I1,r1,q1⟩=>?_) ha
 refine lO (hi pins s1 σ H1 _ I1 q1) λ iv s2 ⟨x2,H2,I2,r2,q2⟩=>?_
 refine lO (hg pins s2 σ H2 x1 x2 ov iv _ I2 r1 r2 q2) λ old s3 ⟨x3,H3,I3,r3,q3⟩=>?_
 refine lO (he pins s3 σ H3 _ I3 q3) λ v s4 ⟨x4,H4,I4,r4,q4⟩=>?_
 refine lO (hp pins s4 σ H4 x3 x4 old v _ I4 r3 r4 q4) λ new s5 ⟨x5,H5,I5,r5,q5⟩=>?_
 exact lO (hs pins s5 σ H5 x1 x2 x5 ov iv new _ I5 r1 r2 r5 q5) λ _ s6 ⟨H6,I6,q6⟩=>⟨σ,H6,I6,q6⟩
def YZ(f:Int->Int->Int):S0:=λ x y H Q=>∃i j,x=.int i/\y=.int j/\Q (.int (f i j)) H
theorem Rl:V5 X .Sub (YZ λ i j=>i-j):=by
 intro pins s σ H x y v u Q I r1 r2 h
 obtain⟨i,j,e1,e2,q⟩:=h
 subst e1;subst e2
 obtain⟨t,rfl⟩:=r1
 obtain⟨t',rfl⟩:=r2
 exact isub_int ⟨.int _,H,I.tok _,⟨_,rfl⟩,q⟩
end
section
variable{X:Cx}{pos:Pos}
def Rm(c:TT)(tb:TS):TS:=λ D σ H=>∃W:Nat->St->Hp->Prop,(∃m,W m σ H)/\∀m σ H,W m σ H ->
 c σ H λ b H1=>if b=true then ∃N:St->Hp->Prop,(∀σ' H',N σ' H'->∃m',m'<m/\W m' σ' H')/\tb { D with nx:=N,ct:=N,bk:=D.nx } σ H1 else D.nx σ H1
theorem mT{c:Expr}{body:List Stmt}{tc:TT}{tb:TS}(hp:PassesOwn (model X.prog X.w) X.A X.env X.xe)(hc:PT X c tc)(hb:Lq X body tb):PS X (.While c body [] pos) (Rm tc tb):=by
 intro pins s σ H D I h
 obtain⟨W,⟨m0,w0⟩,turn⟩:=h
 refine wpAny_While (codeAny_whileLoop (λ n s'=>∃σ' H',Inv X pins σ' H' s'/\W n σ' H') ?_ m0 ⟨σ,H,I,w0⟩)
 rintro n s1 ⟨σ1,H1,I1,w1⟩
 refine wpAny_passesOwn hp (lO (hc pins s1 σ1 H1 _ I1 (turn n σ1 H1 w1)) λ b s2 ⟨H2,I2,q2⟩=>?_)
 cases b with
 |true=>
  obtain⟨N,hN,q2⟩:=q2;rw[if_pos rfl];refine wpAny_passesOwn hp (lO (hb pins s2 σ1 H2 _ I2 q2) λ f s3 q3=>?_)
  cases f with
  |next=>
   obtain⟨σ3,H3,I3,n3⟩:=q3;obtain⟨m',hm,w3⟩:=hN σ3 H3 n3;exact⟨m',hm,σ3,H3,I3,w3⟩
  |cont=>
   obtain⟨σ3,H3,I3,n3⟩:=q3;obtain⟨m',hm,w3⟩:=hN σ3 H3 n3;exact⟨m',hm,σ3,H3,I3,w3⟩
  |brk=>exact q3
  |ret v=>exact q3
 |false=>
  rw[if_neg aM];exact wpAny_execs_nil ⟨σ1,H2,I2,q2⟩
end
structure It where
 go:Nat->Hp->Prop
 Ly:Nat->Hp->V->Hp->Prop
 stop:Nat->Hp->Prop
def zH(X:Cx)(pins:List (Addr×Obj))(H:Hp)(b:Addr):Prop:=
 H b=none/\b≠X.env.locals/\b ∉ X.fs/\(b∈X.ex\/X.Ci.heap.objs.size<=b)/\(∀x c,X.env.cells.lookup x=some c->c≠b)/\∀p∈X.pn++pins,p.1≠b
theorem Inv.Lz{X:Cx}{pins:List (Addr×Obj)}{σ:St}{H H':Hp}{s:Shared}{b:Addr}(I:Inv X pins σ H s)(hb:s.heap.objs.size<=b)(hn:H' b=none):zH X pins H' b:=by
 refine⟨hn,fm (aH I.lt hb),I.VY hb,.inr (bg I.sz hb),λ x c e z=>?_,λ p hp z=>?_⟩
 ·obtain⟨v,q⟩:=I.cell x c e
  exact absurd (aH q.lt (by rw[z];exact hb)) (bJ _)
 ·exact absurd (aH (Heap.lt_size (I.pin p hp).1) (by rw[z];exact hb)) (bJ _)
structure Turn(P:Program)(w:World)(K:aj)(tg:Expr)(J:It)(fp:List Addr)(it:Addr)(tn:Nat->Heap->Prop):Prop where
 mem:it∈fp
 obj:∀i h,tn i h->∀b∈fp,∃o,h.get? b=some o/\∀v,o.data≠.cell v
 keep:∀i h h',tn i h->(∀b∈fp,∀o,h.get? b=some o->h'.get? b=some o)->tn i h'
 item:∀(X:Cx),X.prog=P->X.w=w->X.K=K->X.calm=true->∀(i:Nat) (pins:List (Addr×Obj)) (s:Shared) (σ:St) (H:Hp) (E:Value->Shared->Prop),Inv X pins σ H s->(∀b∈fp,zH X pins H b)->tn i s.heap->J.go i H ->
  wpAny (model P w) X.A (pyNext (.ref it)) (λ r s1=>∃u,r=some u /\
   wpAny (model P w) X.A (letOwnedTupleGo tg (.ref it) u) (λ _ s2=>∃x H',Inv X pins σ H' s2/\RelV x u/\J.Ly i H x H'/\tn (i+1) s2.heap/\∀b∈fp,H' b=none) E s1) E s
 done:∀(X:Cx),X.prog=P->X.w=w->X.K=K->X.calm=true->∀(i:Nat) (pins:List (Addr×Obj)) (s:Shared) (σ:St) (H:Hp) (E:Value->Shared->Prop),Inv X pins σ H s->(∀b∈fp,zH X pins H b)->tn i s.heap->J.stop i H ->
  wpAny (model P w) X.A (pyNext (.ref it)) (λ r s1=>r=none/\Inv X pins σ H s1) E s
 self:∀(A:Around) (i:Nat) (s:Shared) (Q:Value->Shared->Prop) (E:Value->Shared->Prop),tn i s.heap->Q (.ref it) s->wpAny (model P w) A (pyIter (.ref it)) Q E s
abbrev TI:=St->Hp->(It->Hp->Prop)->Prop
def XF(X:Cx)(pins:List (Addr×Obj))(σ:St)(tg:Expr)(R:It->Hp->Prop)(itv:Value)(s2:Shared):Prop:=
 ∃(it:Addr) (fp:List Addr) (tn:Nat->Heap->Prop) (J:It) (H':Hp),itv=.ref it/\Inv X pins σ H' s2/\Turn X.prog X.w X.K tg J fp it tn/\tn 0 s2.heap/\(∀b∈fp,zH X pins H' b)/\R J H'
def PI(X:Cx)(tg iter:Expr)(wi:TI):Prop:=
 ∀(pins:List (Addr×Obj)) (s:Shared) (σ:St) (H:Hp) (R:It->Hp->Prop),Inv X pins σ H s->wi σ H R ->
  wpAny (model X.prog X.w) X.A (eval iter X.env) (λ v s1=>wpAny (model X.prog X.w) X.A (pyIter v) (XF X pins σ tg R) X.xe s1) X.xe s
theorem Qx{M:Model}{A:Around}{E:Value->Shared->Prop}{s:Shared}{tg:Expr}{it:Addr}{u:Value}{o:Obj}{n:String}{vs:Array Value}{Q:Unit->Shared->Prop}(ho:s.heap.get? it=some o)(hc:o.cls=.type n)(hd:o.data=.fields vs)
  (hn:["enumerate","zip","dict_itemiterator","dict_reverseitemiterator","odict_iterator","itertools.zip_longest","itertools.pairwise"].contains n=false) (hQ:Q () s):wpAny M A (letOwnedTupleGo tg (.ref it) u) Q E s:=by
 unfold letOwnedTupleGo
 cases tg<;>first
  |exact wpAny_pure hQ
  | (cases u<;>first
    |exact wpAny_pure hQ
    | (refine wpAny_bind (wpAny_load ho ?_)
       rw[hc,hd];show wpAny M A (if (["enumerate","zip","dict_itemiterator","dict_reverseitemiterator","odict_iterator","itertools.zip_longest","itertools.pairwise"].contains n&&vs[0]? == some (rawInt _))=true then _ else _) Q E s;rw[if_neg (by intro h;rw[hn,Bool.false_and] at h;cases h)];exact wpAny_pure hQ))
def Qy(K:aj)(a:Addr):It:=
 ⟨λ i H=>∃xs x,jz K H a xs/\xs[i]? = some x,λ i H x H'=>H'=H/\∀xs,jz K H a xs->xs[i]? = some x,λ i H=>∃xs,jz K H a xs/\xs.length<=i⟩
def OI(lo:Int)(n:Nat):It:=⟨λ i _=>i<n,λ i H x H'=>H'=H/\x=.int (lo+i),λ i _=>n<=i⟩
theorem Jp{P:Program}{w:World}{K:aj}{tg:Expr}(a it:Addr):Turn P w K tg (Qy K a) [it] it (λ i h=>h.IsListIter it a i) where
 mem:=by simp
 obj:=λ i h st b hb=>by
  have e:b=it:=by simpa using hb
  subst e;obtain⟨o,e,c,d⟩:=st;exact⟨o,e,λ v z=>by rw[d] at z;cases z⟩
 keep:=λ i h h' st k=>st.at λ o e=>k it (by simp) o e
 item:=by
  intro X hP hw hK hc i pins s σ H E I hf st hg;subst hP hw hK;obtain⟨xs,x,hq,hx⟩:=hg;obtain⟨its,rv,p,hz⟩:=I.list hq;obtain⟨u,hu,ru⟩:=rv.get hx;obtain⟨f0,f1,f2,f3,f4,f5⟩:=hf it (by simp);refine wpAny_pyNext_list_item st p.isList (x:=u) (by simpa using hu) λ h' st' sb=>?_
  have I1:Inv X pins σ H { s with heap:=h' }:=I.turned (t':=s.toks) (λ b o hb e=>(sb.2 b hb).trans e) f0 f1 f3 f4 f5;obtain⟨o,e,c,d⟩:=id st';exact⟨u,rfl,Qx (s:={ s with heap:=h' }) e c d (by decide) ⟨x,H,I1,ru,⟨rfl,λ ys hy=>by rw[I.wZ hy hq];exact hx⟩,st',λ b hb=>(hf b hb).1⟩⟩
 done:=by
  intro X hP hw hK hc i pins s σ H E I hf st hg;subst hP hw hK;obtain⟨xs,hq,hx⟩:=hg;obtain⟨its,rv,p,hz⟩:=I.list hq;obtain⟨f0,f1,f2,f3,f4,f5⟩:=hf it (by simp);have hl:=rv.length;exact wpAny_pyNext_list_end (I.ok.hd hc) st p.isList (by simp;omega) λ h' eb=>⟨rfl,I.turned (t':=s.toks) (λ b o hb e=>eb b o hb e) f0 f1 f3 f4 f5⟩
 self:=λ _ _ _ _ _ st h=>wpAny_pyIter_listiter st h
theorem Gw{P:Program}{w:World}{K:aj}{tg:Expr}(it:Addr)(lo:Int)(n:Nat):Turn P w K tg (OI lo n) [it] it (λ i h=>IsRangeIter h it (lo+(i:Nat)*1) ((n:Int)-(i:Nat)) 1) where
 mem:=by simp
 obj:=λ i h st b hb=>by
  have e:b=it:=by simpa using hb
  subst e;exact⟨_,st,λ v z=>by
   have z':Data.fields _=Data.cell v:=z
   cases z'⟩
 keep:=λ i h h' st k=>k it (by simp) _ st
 item:=by
  intro X hP hw hK hc i pins s σ H E I hf st hg;subst hP hw hK;obtain⟨f0,f1,f2,f3,f4,f5⟩:=hf it (by simp);have W:=Walks.range (prog:=X.prog) (w:=X.w) (I.ok.hd hc) it lo 1 n;refine W.item i s _ _ hg st λ v h' tk hv st' kk=>?_
  obtain⟨t,rfl⟩:=hv;have I1:Inv X pins σ H { s with heap:=h',toks:=tk }:=I.turned (λ b o hb e=>kk b o (by simpa using hb) e) f0 f1 f3 f4 f5;refine⟨_,rfl,Qx (s:={ s with heap:=h',toks:=tk }) (n:="range_iterator") st' rfl rfl (by decide) ⟨.int (lo+i),H,I1,⟨t,?_⟩,⟨rfl,rfl⟩,st',λ b hb=>(hf b hb).1⟩⟩;rw[Int.mul_one]
 done:=by
  intro X hP hw hK hc i pins s σ H E I hf st hg;subst hP hw hK;obtain⟨f0,f1,f2,f3,f4,f5⟩:=hf it (by simp);exact wpAny_pyNext_range_end (I.ok.hd hc) st (by have:n<=i:=hg;omega) λ h' eb=>⟨rfl,I.turned (t':=s.toks) (λ b o hb e=>eb b o hb e) f0 f1 f3 f4 f5⟩
 self:=λ _ _ _ _ _ st h=>wpAny_pyIter_rangeiter st h
end L2
namespace L2
open PySem PySem.Spec PyProof.Rows
section
variable{X:Cx}{tg:Expr}
def Tw(K:aj)(tl:TE):TI:=λ σ H R=>tl σ H λ x H1=>∃a,x=.ref a/\(∃xs,jz K H1 a xs)/\R (Qy K a) H1
theorem kK{l:Expr}{tl:TE}(hl:PE X l tl):PI X tg l (Tw X.K tl):=by
 intro pins s σ H R I h
 refine lO (hl pins s σ H _ I h) λ v s1 ⟨x,H1,I1,r1,q1⟩=>?_
 obtain⟨a,e,⟨xs,hq⟩,q⟩:=q1
 subst e
 cases r1
 obtain⟨its,rv,p,hz⟩:=I1.list hq
 refine wpAny_pyIter_list p.isList ?_
 refine⟨s1.heap.objs.size,[s1.heap.objs.size],_,_,H1,rfl,I1.kept (t':=s1.toks) λ b o e=>Heap.get?_push_of_some _ e,Jp a _,⟨_,Heap.get?_push_size _ rfl,rfl,rfl⟩,λ b hb=>?_,q⟩
 have e:b=s1.heap.objs.size:=by simpa using hb
 subst e
 exact I1.Lz (aq _) (I1.hok.fresh (aq _))
theorem LA{pins:List (Addr×Obj)}{σ:St}{H:Hp}{s:Shared}{R:It->Hp->Prop}{E:Value->Shared->Prop}{lo hi:Int}{t u v:Tok}{tk:Nat}(I:Inv X pins σ H s)(h1:-(2^62)<=lo)(h2:lo<2^62)(h3:-(2^62)<=hi)(h4:hi<2^62)
  (q:R (OI lo (hi-lo).toNat) H):wpAny (model X.prog X.w) X.A (pyIter (.ref s.heap.objs.size)) (XF X pins σ tg R) E { s with heap:=s.heap.push { cls:=.type "range",data:=.fields #[.int lo t,.int hi u,.int 1 v] },toks:=tk }:=by
 refine wpAny_pyIter_range (IsRange.new ..) (small_one h1 h2 h3 h4) ?_
 have I1:Inv X pins σ H { s with heap:=s.heap.push { cls:=.type "range",data:=.fields #[.int lo t,.int hi u,.int 1 v] },toks:=tk }:=I.kept λ b o e=>Heap.get?_push_of_some _ e
 refine⟨(s.heap.push { cls:=.type "range",data:=.fields #[.int lo t,.int hi u,.int 1 v] }).objs.size,[(s.heap.push { cls:=.type "range",data:=.fields #[.int lo t,.int hi u,.int 1 v] }).objs.size],_,_,H,rfl,
  I1.kept (t':=tk) λ b o e=>Heap.get?_push_of_some _ e,Gw _ lo (hi-lo).toNat,?_,λ b hb=>?_,q⟩
 ·have e1:lo+((0:Nat):Int)*1=lo:=by simp
  have e2:(((hi-lo).toNat:Nat):Int)-((0:Nat):Int)=Builtin.Range.rangeSize lo hi 1:=by rw[rangeSize_one];split<;>omega
  show IsRangeIter _ _ (lo+((0:Nat):Int)*1) ((((hi-lo).toNat:Nat):Int)-((0:Nat):Int)) 1;rw[e1,e2];exact Heap.get?_push_size _ rfl
 ·have e:b=(s.heap.push { cls:=.type "range",data:=.fields #[.int lo t,.int hi u,.int 1 v] }).objs.size:=by simpa using hb
  subst e;exact I1.Lz (aq _) (I1.hok.fresh (aq _))
def Tz(ta:TA):TI:=λ σ H R=>ta σ H λ vs H1=>∃j:Int,vs=[.int j]/\-(2^62)<=j/\j<2^62/\R (OI 0 j.toNat) H1
theorem vf{a:Expr}{ta:TA}{p pos:Pos}(hg:Gl X "range")(hm:X.mg "range" = none)(ha:PA X [a] ta)(hs:starEach [a] X.env=[(false,eval a X.env)]:=by rfl):PI X tg (.Call (.Name "range" p) [a] [] pos) (Tz ta):=by
 intro pins s σ H R I h
 refine Call_ (wB I hg hm boot_range (PyProof.Rows.callWith_type1 (lO (ha pos pins s σ H _ I h) λ us s1 ⟨vs,H1,I1,r1,q1⟩=>?_) hs rfl))
 obtain⟨j,e,q1,q2,q⟩:=q1
 subst e
 cases r1 with
 |cons r rr=>
  cases rr;obtain⟨t,rfl⟩:=r;exact call_range_1 (LA I1 (by omega) (by omega) q1 q2 (by simpa using q))
def Wb(wi:TI)(g:TG)(tb:TS):TS:=λ D σ H=>wi σ H λ J H1=>∃W:Nat->Nat->St->Hp->Prop,(∃m,W 0 m σ H1)/\∀i m σ H,W i m σ H ->
 (J.stop i H/\D.nx σ H)\/(J.go i H/\∃N:St->Hp->Prop,(∀σ' H',N σ' H'->∃m',m'<m/\W (i+1) m' σ' H')/\∀x H',J.Ly i H x H'->g x σ H' λ σ2 H2=>tb { D with nx:=N,ct:=N,bk:=D.nx } σ2 H2)
def Ad(fp:List Addr)(h:Heap):List (Addr×Obj):=fp.filterMap λ b=>(h.get? b).map λ o=>(b,o)
theorem wC{fp:List Addr}{h:Heap}{b:Addr}{o:Obj}(hb:b∈fp)(e:h.get? b=some o):(b,o)∈Ad fp h:=eZ.mpr ⟨b,hb,by rw[e];rfl⟩
theorem Jq{fp:List Addr}{h:Heap}{p:Addr×Obj}(hp:p∈Ad fp h):p.1∈fp/\h.get? p.1=some p.2:=by
 obtain⟨b,hb,e⟩:=eZ.mp hp
 cases q:h.get? b with
 |none=>rw[q] at e;cases e
 |some o=>
  rw[q] at e;have e':(b,o)=p:=aR e;subst e';exact⟨hb,q⟩
theorem Inv.pinned{pins:List (Addr×Obj)}{σ:St}{H:Hp}{s:Shared}{fp:List Addr}(I:Inv X pins σ H s)(hf:∀b∈fp,zH X pins H b)(ho:∀b∈fp,∃o,s.heap.get? b=some o/\∀v,o.data≠.cell v):Inv X (pins++Ad fp s.heap) σ H s:=
 I.HE λ p hp=>(bu.mp hp).elim (λ z=>I.pin p (bG _ z)) λ z=>by
  obtain⟨hb,e⟩:=Jq z;obtain⟨f0,f1,f2,_⟩:=hf p.1 hb;obtain⟨o,e',d⟩:=ho p.1 hb;rw[e] at e';cases e';exact⟨e,f0,f1,f2,d⟩
theorem Inv.w9{pins pl:List (Addr×Obj)}{σ:St}{H:Hp}{s:Shared}(I:Inv X (pins++pl) σ H s):Inv X pins σ H s:=I.HE λ p hp=>I.pin p (bG _ (fS _ hp))
theorem qN{iter:Expr}{body:List Stmt}{wi:TI}{g:TG}{tb:TS}{pos:Pos}(hp:PassesOwn (model X.prog X.w) X.A X.env X.xe)(hc:X.calm=true)(hi:PI X tg iter wi)(hg:PG X tg g)(hb:Lq X body tb)
  (hs:∀x,foldedSetIterable iter X.env x=pure x:=by intro _;rfl):PS X (.For tg iter body [] pos) (Wb wi g tb):=by
 intro pins s σ H D I h
 refine wpAny_For (lO (hi pins s σ H _ I h) λ v s1 h1=>lO h1 λ itv s2 h2=>?_) hs
 obtain⟨it,fp,tn,J,H2,e,I2,T,st2,f2,W,⟨m0,w0⟩,turn⟩:=h2
 subst e
 have Gx:∀{H':Hp},(∀b∈fp,H' b=none)->∀b∈fp,zH X pins H' b:=λ hn b hb=>⟨hn b hb,(f2 b hb).2⟩
 refine codeAny_forLoop_any (λ n s'=>∃i σ' H',Inv X pins σ' H' s'/\tn i s'.heap/\(∀b∈fp,H' b=none)/\W i n σ' H') ?_ m0 ⟨0,σ,H2,I2,st2,λ b hb=>(f2 b hb).1,w0⟩
 rintro n s3 ⟨i,σ3,H3,I3,st3,XG,w3⟩
 rcases turn i n σ3 H3 w3 with ⟨stop,qn⟩ | ⟨go,N,hN,step⟩
 ·refine wpAny_passesOwn hp (lO (T.done X rfl rfl rfl hc i pins s3 σ3 H3 X.xe I3 (Gx XG) st3 stop) λ r s4 ⟨hr,I4⟩=>?_)
  subst hr;exact wpAny_execs_nil ⟨σ3,H3,I4,qn⟩
 ·refine wpAny_passesOwn hp (lO (T.item X rfl rfl rfl hc i pins s3 σ3 H3 X.xe I3 (Gx XG) st3 go) λ r s4 ⟨u,hr,h4⟩=>?_)
  subst hr;refine wpAny_passesOwn hp (lO h4 λ _ s5 ⟨x,H5,I5,r5,y5,S1,Y0⟩=>?_);have Y3:=I5.pinned (Gx Y0) (T.obj _ _ S1);refine wpAny_passesOwn hp (lO (hg _ s5 σ3 H5 x u _ Y3 r5 (step x H5 y5)) λ _ s6 ⟨σ6,H6,I6,q6⟩=>?_);refine wpAny_passesOwn hp (lO (hb _ s6 σ6 H6 _ I6 q6) λ f s7 q7=>?_);have again:∀{σ7:St} {H7:Hp},Inv X (pins++Ad fp s5.heap) σ7 H7 s7->N σ7 H7->∃m,m<n/\∃i σ' H',Inv X pins σ' H' s7/\tn i s7.heap/\(∀b∈fp,H' b=none)/\W i m σ' H':=λ {σ7 H7} I7 n7=>by
   obtain⟨m',hm,w7⟩:=hN σ7 H7 n7;refine⟨m',hm,i+1,σ7,H7,I7.w9,T.keep _ _ _ S1 λ b hb o e=>(I7.pin (b,o) (bG _ (bG _ (wC hb e)))).1,λ b hb=>?_,w7⟩;obtain⟨o,e,d⟩:=T.obj _ _ S1 b hb;exact (I7.pin (b,o) (bG _ (bG _ (wC hb e)))).2.1
  cases f with
  |next=>obtain⟨σ7,H7,I7,n7⟩:=q7;exact again I7 n7
  |cont=>obtain⟨σ7,H7,I7,n7⟩:=q7;exact again I7 n7
  |brk=>obtain⟨σ7,H7,I7,q7⟩:=q7;exact⟨σ7,H7,I7.w9,q7⟩
  |ret v=>obtain⟨x7,σ7,H7,I7,r7,q7⟩:=q7;exact⟨x7,σ7,H7,I7.w9,r7,q7⟩
end
theorem xf{K:aj}{a:Addr}{xs:List V}{g:TG}{tb:TS}{D:Ends}{σ:St}{H:Hp}(Pv:Nat->St->Hp->Prop)(h0:Pv 0 σ H)(hl:∀i σ H,i<=xs.length->Pv i σ H->jz K H a xs)
  (hs:∀i x σ H,xs[i]? = some x->Pv i σ H->g x σ H λ σ2 H2=>tb { D with nx:=Pv (i+1),ct:=Pv (i+1),bk:=D.nx } σ2 H2) (hd:∀σ H,Pv xs.length σ H->D.nx σ H) :
  ∃W:Nat->Nat->St->Hp->Prop,(∃m,W 0 m σ H)/\∀i m σ H,W i m σ H ->
   ((Qy K a).stop i H/\D.nx σ H)\/((Qy K a).go i H/\∃N:St->Hp->Prop,(∀σ' H',N σ' H'->∃m',m'<m/\W (i+1) m' σ' H')/\∀x H',(Qy K a).Ly i H x H'->g x σ H' λ σ2 H2=>tb { D with nx:=N,ct:=N,bk:=D.nx } σ2 H2):=by
 refine⟨λ i m σ H=>m=xs.length-i/\i<=xs.length/\Pv i σ H,⟨xs.length,by simp,bf _,h0⟩,?_⟩
 rintro i m σ H ⟨rfl,hi,p⟩
 have q:=hl i σ H hi p
 by_cases hlt:i<xs.length
 ·refine .inr ⟨⟨xs,xs[i],q,by simp[hlt]⟩,Pv (i+1),λ σ' H' p'=>⟨xs.length-(i+1),by omega,rfl,hlt,p'⟩,λ x H' y=>?_⟩
  obtain⟨e,y⟩:=y;subst e;exact hs i x σ _ (y xs q) p
 ·have e:i=xs.length:=by omega
  subst e;exact .inl ⟨⟨xs,q,aq _⟩,hd σ H p⟩
theorem CP{lo:Int}{n:Nat}{g:TG}{tb:TS}{D:Ends}{σ:St}{H:Hp}(Pv:Nat->St->Hp->Prop)(h0:Pv 0 σ H)
  (hs:∀i σ H,i<n->Pv i σ H->g (.int (lo+i)) σ H λ σ2 H2=>tb { D with nx:=Pv (i+1),ct:=Pv (i+1),bk:=D.nx } σ2 H2) (hd:∀σ H,Pv n σ H->D.nx σ H) :
  ∃W:Nat->Nat->St->Hp->Prop,(∃m,W 0 m σ H)/\∀i m σ H,W i m σ H ->
   ((OI lo n).stop i H/\D.nx σ H)\/((OI lo n).go i H/\∃N:St->Hp->Prop,(∀σ' H',N σ' H'->∃m',m'<m/\W (i+1) m' σ' H')/\∀x H',(OI lo n).Ly i H x H'->g x σ H' λ σ2 H2=>tb { D with nx:=N,ct:=N,bk:=D.nx } σ2 H2):=by
 refine⟨λ i m σ H=>m=n-i/\i<=n/\Pv i σ H,⟨n,by simp,bf _,h0⟩,?_⟩
 rintro i m σ H ⟨rfl,hi,p⟩
 by_cases hlt:i<n
 ·refine .inr ⟨hlt,Pv (i+1),λ σ' H' p'=>⟨n-(i+1),by omega,rfl,hlt,p'⟩,λ x H' y=>?_⟩
  obtain⟨e,y⟩:=y;subst e y;exact hs i σ _ hlt p
 ·have e:i=n:=by omega
  subst e;exact .inl ⟨aq _,hd σ H p⟩
end L2
namespace L2
open PySem PySem.Spec PyProof.Rows
abbrev R2:=V->V->Hp->VK->Prop
def vg(X:Cx)(f:Value->Value->Sem Value)(r:R2):Prop:=
 ∀(pins:List (Addr×Obj)) (s:Shared) (σ:St) (H:Hp) (x y:V) (v u:Value) (Q:VK),Inv X pins σ H s->RelV x v->RelV y u->r x y H Q ->
  wpAny (model X.prog X.w) X.A (f v u) (EP X pins σ Q) X.xe s
def We(X:Cx)(f:Value->Sem Value)(r:V->Hp->VK->Prop):Prop:=
 ∀(pins:List (Addr×Obj)) (s:Shared) (σ:St) (H:Hp) (x:V) (v:Value) (Q:VK),Inv X pins σ H s->RelV x v->r x H Q ->
  wpAny (model X.prog X.w) X.A (f v) (EP X pins σ Q) X.xe s
def uc(X:Cx)(f:Value)(r:List V->Hp->VK->Prop):Prop:=
 ∀(pins:List (Addr×Obj)) (s:Shared) (σ:St) (H:Hp) (xs:List V) (us:List Value) (Q:VK),Inv X pins σ H s->Vals xs us->r xs H Q ->
  wpAny (model X.prog X.w) X.A (call f us) (EP X pins σ Q) X.xe s
def Wf(X:Cx)(r:V->Hp->(Bool->Hp->Prop)->Prop):Prop:=
 ∀(pins:List (Addr×Obj)) (s:Shared) (σ:St) (H:Hp) (x:V) (v:Value) (Q:Bool->Hp->Prop),Inv X pins σ H s->RelV x v->r x H Q ->
  wpAny (model X.prog X.w) X.A (truthy v) (TP X pins σ Q) X.xe s
def Qz(r:R2)(ta tb:TE):TE:=λ σ H Q=>ta σ H λ x H1=>tb σ H1 λ y H2=>r x y H2 Q
def Y4(r:V->Hp->VK->Prop)(ta:TE):TE:=λ σ H Q=>ta σ H λ x H1=>r x H1 Q
def rI(C:Int->Int->Prop)(g:Int->Int->V):R2:=λ x y H Q=>∃i j,x=.int i/\y=.int j/\C i j/\Q (g i j) H
def Gm(g:Int->Int->V):R2:=λ x y H Q=>∃i j,x=.int i/\y=.int j/\Q (g i j) H
def rU(g:Int->V):V->Hp->VK->Prop:=λ x H Q=>∃i,x=.int i/\Q (g i) H
section
variable{X:Cx}{a b c:Expr}{ta tb tc:TE}{pos:Pos}
theorem Rn(ha:PE X a ta)(hb:PE X b tb){pins:List (Addr×Obj)}{s:Shared}{σ:St}{H:Hp}{R:V->V->Hp->Prop}(I:Inv X pins σ H s)
  (h:ta σ H λ x H1=>tb σ H1 λ y H2=>R x y H2) {Q:Value->Shared->Prop} {f:Value->Value->Sem Value}
  (hf:∀v u s2 x y H2,Inv X pins σ H2 s2->RelV x v->RelV y u->R x y H2->wpAny (model X.prog X.w) X.A (f v u) Q X.xe s2) :
  wpAny (model X.prog X.w) X.A (eval a X.env) (λ v s₁=>wpAny (model X.prog X.w) X.A (eval b X.env) (λ u s₂=>wpAny (model X.prog X.w) X.A (f v u) Q X.xe s₂) X.xe s₁) X.xe s:=by
 refine lO (ha pins s σ H _ I h) λ v s1 ⟨x,H1,I1,r1,q1⟩=>?_
 refine lO (hb pins s1 σ H1 _ I1 q1) λ u s2 ⟨y,H2,I2,r2,q2⟩=>?_
 exact hf v u s2 x y H2 I2 r1 r2 q2
theorem kB{op:Operator}{r:R2}(ho:vg X (binaryOp op) r)(ha:PE X a ta)(hb:PE X b tb):PE X (.BinOp a op b pos) (Qz r ta tb):=by
 intro pins s σ H Q I h
 exact wpAny_BinOp (Rn ha hb I h λ v u s2 x y H2 I2 rx ry q=>ho pins s2 σ H2 x y v u Q I2 rx ry q)
theorem CQ{op:UnaryOp}{r:V->Hp->VK->Prop}(ho:We X (unaryOp op) r)(ha:PE X a ta):PE X (.UnaryOp op a pos) (Y4 r ta):=by
 intro pins s σ H Q I h
 exact UnaryOp_ (lO (ha pins s σ H _ I h) λ v s1 ⟨x,H1,I1,r1,q1⟩=>ho pins s1 σ H1 x v Q I1 r1 q1)
theorem Ro{f:Value->Value->Sem Value}{C:Int->Int->Prop}{g:Int->Int->Int}
  (rule:∀(i j:Int) (t u:Tok) (s:Shared) (Q:Value->Shared->Prop) (E:Value->Shared->Prop),C i j->Q (.int (g i j) s.toks) { s with toks:=s.toks+1 }->wpAny (model X.prog X.w) X.A (f (.int i t) (.int j u)) Q E s) :
  vg X f (rI C λ i j=>.int (g i j)):=by
 intro pins s σ H x y v u Q I rx ry h
 obtain⟨i,j,rfl,rfl,hc,q⟩:=h
 obtain⟨t,rfl⟩:=rx
 obtain⟨t',rfl⟩:=ry
 exact rule i j t t' s _ _ hc ⟨.int (g i j),H,I.tok _,⟨_,rfl⟩,q⟩
theorem Rp{f:Value->Value->Sem Value}{g:Int->Int->Int}
  (rule:∀(i j:Int) (t u:Tok) (s:Shared) (Q:Value->Shared->Prop) (E:Value->Shared->Prop),Q (.int (g i j) s.toks) { s with toks:=s.toks+1 }->wpAny (model X.prog X.w) X.A (f (.int i t) (.int j u)) Q E s) :
  vg X f (Gm λ i j=>.int (g i j)):=by
 intro pins s σ H x y v u Q I rx ry h
 obtain⟨i,j,rfl,rfl,q⟩:=h
 obtain⟨t,rfl⟩:=rx
 obtain⟨t',rfl⟩:=ry
 exact rule i j t t' s _ _ ⟨.int (g i j),H,I.tok _,⟨_,rfl⟩,q⟩
theorem OJ{f:Value->Value->Sem Value}{g:Int->Int->Bool}
  (rule:∀(i j:Int) (t u:Tok) (s:Shared) (Q:Value->Shared->Prop) (E:Value->Shared->Prop),Q (.bool (g i j)) s->wpAny (model X.prog X.w) X.A (f (.int i t) (.int j u)) Q E s) :
  vg X f (Gm λ i j=>.bl (g i j)):=by
 intro pins s σ H x y v u Q I rx ry h
 obtain⟨i,j,rfl,rfl,q⟩:=h
 obtain⟨t,rfl⟩:=rx
 obtain⟨t',rfl⟩:=ry
 exact rule i j t t' s _ _ ⟨.bl (g i j),H,I,rfl,q⟩
def TF(i j:Int):Prop:=0<j/\j<1073741824
def Rr(i j:Int):Prop:=(-(2^64)<i/\i<2^64)\/(-(2^64)<j/\j<2^64)
theorem Rr.ok{i j:Int}(h:Rr i j):IntMulOk i j:=by
 rcases h with ⟨h1,h2⟩ | ⟨h1,h2⟩
 ·exact .of_left (intBits_le_64 h1 h2)
 ·exact .of_right (intBits_le_64 h1 h2)
theorem Gy(k:Nat):(0:Int)<=2^k:=by
 rw[two_pow_cast]
 exact Int.natCast_nonneg _
theorem Ae:vg X (binaryOp .Add) (Gm λ i j=>.int (i+j)):=Rp λ _ _ _ _ _ _ _ q=>add_int q
theorem DT:vg X (binaryOp .Sub) (Gm λ i j=>.int (i-j)):=Rp λ _ _ _ _ _ _ _ q=>sub_int q
theorem ud:vg X (binaryOp .Mult) (rI Rr λ i j=>.int (i*j)):=Ro λ _ _ _ _ _ _ _ hc q=>mul_int q hc.ok
theorem Vx:vg X (binaryOp .FloorDiv) (rI TF λ i j=>.int (i/j)):=Ro λ i j _ _ _ _ _ hc q=>by
 have h1:(0:Int)<j:=hc.1
 have h2:j<1073741824:=hc.2
 exact floordiv_int (by omega) (by rw[cO i (by omega)];exact q) (.inl (PyProof.noPylong_small (by omega)))
theorem Gz:vg X (binaryOp .Mod) (rI (λ _ j=>0<j) λ i j=>.int (i%j)):=Ro λ i j _ _ _ _ _ hc q=>by
 have h1:(0:Int)<j:=hc
 exact mod_int' (by omega) (by rw[Int.fmod_eq_emod_of_nonneg i (by omega)];exact q)
theorem LB:vg X (binaryOp .RShift) (rI (λ _ j=>0<=j) λ i j=>.int (i/2^j.toNat)):=Ro λ i j _ _ _ _ _ hc q=>
 rshift_int hc (by rw[cO i (Gy _)];exact q)
theorem Rt:vg X (binaryOp .BitAnd) (Gm λ i j=>.int (Builtin.bitAnd i j)):=Rp λ _ _ _ _ _ _ _ q=>and_int q
theorem LC:vg X (inplaceOp .FloorDiv) (rI TF λ i j=>.int (i/j)):=Ro λ i j _ _ _ _ _ hc q=>by
 have h1:(0:Int)<j:=hc.1
 have h2:j<1073741824:=hc.2
 exact ifloordiv_int (by omega) (by rw[cO i (by omega)];exact q) (.inl (PyProof.noPylong_small (by omega)))
theorem Y5{f:Value->Sem Value}{g:Int->Int}
  (rule:∀(i:Int) (t:Tok) (s:Shared) (Q:Value->Shared->Prop) (E:Value->Shared->Prop),Q (.int (g i) s.toks) { s with toks:=s.toks+1 }->wpAny (model X.prog X.w) X.A (f (.int i t)) Q E s) :
  We X f (rU λ i=>.int (g i)):=by
 intro pins s σ H x v Q I rx h
 obtain⟨i,rfl,q⟩:=h
 obtain⟨t,rfl⟩:=rx
 exact rule i t s _ _ ⟨.int (g i),H,I.tok _,⟨_,rfl⟩,q⟩
theorem yz:We X (unaryOp .USub) (rU λ i=>.int (-i)):=Y5 λ _ _ _ _ _ q=>neg_int q
end
def TH:V->V->Bool
 |.pT,.pT=>true | .pT,.int _=>true | .int _,.pT=>true | .pT,.bl _=>true | .bl _,.pT=>true | .pT,.str _=>true | .str _,.pT=>true
 |.int _,.int _=>true | .bl _,.bl _=>true | .str _,.str _=>true | .HD _,.HD _=>true
 |.int _,.str _=>true | .str _,.int _=>true | .bl _,.str _=>true | .str _,.bl _=>true
 |_,_=>false
def Y6:R2:=λ x y H Q=>TH x y=true/\Q (.bl (decide (x=y))) H
def Y7:R2:=λ x y H Q=>TH x y=true/\Q (.bl (!decide (x=y))) H
theorem mw{i j:Int}:decide (V.int i=V.int j)=(i==j):=by
 rw[aS]
 simp
theorem LD{i j:Bool}:decide (V.bl i=V.bl j)=(i==j):=by
 rw[aS]
 simp
theorem HF{i j:Str}:decide (V.str i=V.str j)=(i==j):=by
 rw[aS]
 simp
theorem HG{i j:Array UInt8}:decide (V.HD i=V.HD j)=(i.toList==j.toList):=by
 rw[aS]
 cases i
 cases j
 simp
section
variable{X:Cx}{a b c:Expr}{ta tb tc:TE}{pos:Pos}
theorem jY{pins:List (Addr×Obj)}{σ:St}{H:Hp}{s:Shared}{Q:VK}{k k':Bool}(I:Inv X pins σ H s)(q:Q (.bl k) H)(e:k=k'):EP X pins σ Q (.bool k') s:=by
 subst e
 exact⟨.bl k,H,I,rfl,q⟩
theorem Af:vg X (compareOp .Eq) Y6:=by
 intro pins s σ H x y v u Q I rx ry h
 obtain⟨hs,q⟩:=h
 cases x with
 |pT=>
  cases rx
  cases y with
  |pT=>cases ry;exact PySem.EqNone.eq_none_none (jY I q (by simp))
  |bl j=>cases ry;exact PySem.EqNone.eq_none_bool (jY I q (by simp))
  |int j=>obtain⟨t',rfl⟩:=ry;exact PySem.EqNone.eq_none_int (jY I q (by simp))
  |str j=>obtain⟨t',rfl⟩:=ry;exact PySem.EqNone.eq_none_str (jY I q (by simp))
  |_=>exact absurd (show false=true from hs) aM
 |bl i=>
  cases rx
  cases y with
  |pT=>cases ry;exact PySem.EqNone.eq_bool_none (jY I q (by simp))
  |bl j=>cases ry;exact eq_bool (jY I q LD)
  |str j=>obtain⟨t',rfl⟩:=ry;exact PySem.EqMixed.eq_bool_str (jY I q (by simp))
  |_=>exact absurd (show false=true from hs) aM
 |int i=>
  obtain⟨t,rfl⟩:=rx
  cases y with
  |pT=>cases ry;exact PySem.EqNone.eq_int_none (jY I q (by simp))
  |int j=>obtain⟨t',rfl⟩:=ry;exact eq_int (jY I q mw)
  |str j=>obtain⟨t',rfl⟩:=ry;exact PySem.EqMixed.eq_int_str (jY I q (by simp))
  |_=>exact absurd (show false=true from hs) aM
 |str i=>
  obtain⟨t,rfl⟩:=rx
  cases y with
  |pT=>cases ry;exact PySem.EqNone.eq_str_none (jY I q (by simp))
  |bl j=>cases ry;exact PySem.EqMixed.eq_str_bool (jY I q (by simp))
  |int j=>obtain⟨t',rfl⟩:=ry;exact PySem.EqMixed.eq_str_int (jY I q (by simp))
  |str j=>obtain⟨t',rfl⟩:=ry;exact eq_str (jY I q HF)
  |_=>exact absurd (show false=true from hs) aM
 |HD i=>
  obtain⟨t,rfl⟩:=rx
  cases y with
  |HD j=>obtain⟨t',rfl⟩:=ry;exact PySem.W.eq_bytes (jY I q HG)
  |_=>exact absurd (show false=true from hs) aM
 |_=>cases y<;>exact absurd (show false=true from hs) aM
theorem CS:vg X (compareOp .NotEq) Y7:=by
 intro pins s σ H x y v u Q I rx ry h
 obtain⟨hs,q⟩:=h
 cases x with
 |pT=>
  cases rx
  cases y with
  |pT=>cases ry;exact PySem.EqNone.ne_none_none (jY I q (by simp))
  |bl j=>cases ry;exact PySem.EqNone.ne_none_bool (jY I q (by simp))
  |int j=>obtain⟨t',rfl⟩:=ry;exact PySem.EqNone.ne_none_int (jY I q (by simp))
  |str j=>obtain⟨t',rfl⟩:=ry;exact PySem.EqNone.ne_none_str (jY I q (by simp))
  |_=>exact absurd (show false=true from hs) aM
 |bl i=>
  cases rx
  cases y with
  |pT=>cases ry;exact PySem.EqNone.ne_bool_none (jY I q (by simp))
  |bl j=>cases ry;exact ne_bool (jY I q (congrArg not LD))
  |str j=>obtain⟨t',rfl⟩:=ry;exact PySem.EqMixed.ne_bool_str (jY I q (by simp))
  |_=>exact absurd (show false=true from hs) aM
 |int i=>
  obtain⟨t,rfl⟩:=rx
  cases y with
  |pT=>cases ry;exact PySem.EqNone.ne_int_none (jY I q (by simp))
  |int j=>obtain⟨t',rfl⟩:=ry;exact ne_int (jY I q (congrArg not mw))
  |str j=>obtain⟨t',rfl⟩:=ry;exact PySem.EqMixed.ne_int_str (jY I q (by simp))
  |_=>exact absurd (show false=true from hs) aM
 |str i=>
  obtain⟨t,rfl⟩:=rx
  cases y with
  |pT=>cases ry;exact PySem.EqNone.ne_str_none (jY I q (by simp))
  |bl j=>cases ry;exact PySem.EqMixed.ne_str_bool (jY I q (by simp))
  |int j=>obtain⟨t',rfl⟩:=ry;exact PySem.EqMixed.ne_str_int (jY I q (by simp))
  |str j=>obtain⟨t',rfl⟩:=ry;exact ne_str (jY I q (congrArg not HF))
  |_=>exact absurd (show false=true from hs) aM
 |HD i=>
  obtain⟨t,rfl⟩:=rx
  cases y with
  |HD j=>obtain⟨t',rfl⟩:=ry;exact PySem.W.ne_bytes (jY I q (congrArg not HG))
  |_=>exact absurd (show false=true from hs) aM
 |_=>cases y<;>exact absurd (show false=true from hs) aM
theorem LF:vg X (compareOp .Lt) (Gm λ i j=>.bl (decide (i<j))):=OJ λ _ _ _ _ _ _ _ q=>lt_int q
theorem nM:vg X (compareOp .LtE) (Gm λ i j=>.bl (decide (i<=j))):=OJ λ _ _ _ _ _ _ _ q=>le_int q
theorem TJ:vg X (compareOp .Gt) (Gm λ i j=>.bl (decide (j<i))):=OJ λ _ _ _ _ _ _ _ q=>gt_int q
theorem TM:vg X (compareOp .GtE) (Gm λ i j=>.bl (decide (j<=i))):=OJ λ _ _ _ _ _ _ _ q=>ge_int q
theorem kN(b:Expr){op:CmpOp}(h:op≠.In:=by decide)(h2:op≠.NotIn:=by decide):behindInMarks op b=false:=by
 have e1:(op==CmpOp.In)=false:=by cases op<;>first | rfl | exact absurd rfl h
 have e2:(op==CmpOp.NotIn)=false:=by cases op<;>first | rfl | exact absurd rfl h2
 cases b<;>simp[behindInMarks,e1,e2]
theorem oG{op:CmpOp}{r:R2}(ho:vg X (compareOp op) r)(ha:PE X a ta)(hb:PE X b tb)(hm:behindInMarks op b=false):PE X (.Compare a [op] [b] pos) (Qz r ta tb):=by
 intro pins s σ H Q I h
 exact wpAny_Compare1 (Rn ha hb I h λ v u s2 x y H2 I2 rx ry q=>ho pins s2 σ H2 x y v u Q I2 rx ry q) hm
def LG(t:TE):TT:=λ σ H Q=>t σ H λ x H'=>∃k,x=.bl k/\Q k H'
theorem lT{op:CmpOp}{r:R2}(ho:vg X (compareOp op) r)(ha:PE X a ta)(hb:PE X b tb)(hm:behindInMarks op b=false):PT X (.Compare a [op] [b] pos) (LG (Qz r ta tb)):=by
 intro pins s σ H Q I h
 refine wpAny_isTrue_Compare1 (lO (ha pins s σ H _ I h) λ v s1 ⟨x,H1,I1,r1,q1⟩=>lO (hb pins s1 σ H1 _ I1 q1) λ u s2 ⟨y,H2,I2,r2,q2⟩=>
  lO (ho pins s2 σ H2 x y v u _ I2 r1 r2 q2) λ c s3 ⟨z,H3,I3,r3,k,e,q3⟩=>?_) hm
 subst e
 cases r3
 exact wpAny_truthy_bool ⟨H3,I3,q3⟩
def DU(r r':R2)(ta tb tc:TE):TE:=λ σ H Q=>ta σ H λ x H1=>tb σ H1 λ y H2=>r x y H2 λ z H3=>∃k,z=.bl k /\
 (if k=true then tc σ H3 λ w' H4=>r' y w' H4 Q else Q (.bl false) H3)
theorem rB{op op':CmpOp}{r r':R2}(ho:vg X (compareOp op) r)(ho':vg X (compareOp op') r')(ha:PE X a ta)(hb:PE X b tb)(hc:PE X c tc)
  (hm:lastMarks [op,op'] [b,c]=false:=by with_unfolding_all rfl):PE X (.Compare a [op,op'] [b,c] pos) (DU r r' ta tb tc):=by
 intro pins s σ H Q I h
 refine Compare_chain (lO (ha pins s σ H _ I h) λ v s1 ⟨x,H1,I1,r1,q1⟩=>chain_link (lO (hb pins s1 σ H1 _ I1 q1) λ u s2 ⟨y,H2,I2,r2,q2⟩=>
  lO (ho pins s2 σ H2 x y v u _ I2 r1 r2 q2) λ d s3 ⟨z,H3,I3,r3,k,e,q3⟩=>?_)) hm
 subst e
 cases r3
 refine wpAny_truthy_bool ?_
 cases k with
 |false=>exact ite_ff ⟨.bl false,H3,I3,rfl,q3⟩
 |true=>exact ite_tt (chain_last (lO (hc pins s3 σ H3 _ I3 q3) λ w' s4 ⟨z',H4,I4,r4,q4⟩=>ho' pins s4 σ H4 y z' u w' Q I4 r2 r4 q4))
theorem LH{op op':CmpOp}{r r':R2}(ho:vg X (compareOp op) r)(ho':vg X (compareOp op') r')(ha:PE X a ta)(hb:PE X b tb)(hc:PE X c tc)
  (hm:lastMarks [op,op'] [b,c]=false:=by with_unfolding_all rfl):PT X (.Compare a [op,op'] [b,c] pos) (LG (DU r r' ta tb tc)):=by
 intro pins s σ H Q I h
 refine isTrue_chain (lO (ha pins s σ H _ I h) λ v s1 ⟨x,H1,I1,r1,q1⟩=>test_link (lO (hb pins s1 σ H1 _ I1 q1) λ u s2 ⟨y,H2,I2,r2,q2⟩=>
  lO (ho pins s2 σ H2 x y v u _ I2 r1 r2 q2) λ d s3 ⟨z,H3,I3,r3,k,e,q3⟩=>?_)) hm
 subst e
 cases r3
 refine wpAny_truthy_bool ?_
 cases k with
 |false=>
  obtain⟨k',e',q'⟩:=q3
  cases e';exact ite_ff ⟨H3,I3,q'⟩
 |true=>
  refine ite_tt (test_last (lO (hc pins s3 σ H3 _ I3 q3) λ w' s4 ⟨z',H4,I4,r4,q4⟩=>lO (ho' pins s4 σ H4 y z' u w' _ I4 r2 r4 q4) λ d' s5 ⟨z2,H5,I5,r5,k2,e2,q5⟩=>?_));subst e2
  cases r5;exact wpAny_truthy_bool ⟨H5,I5,q5⟩
def OL(K:aj)(x:V)(H:Hp)(k:Bool):Prop:=
 match x with
 |.pT=>k=false
 |.bl b=>k=b
 |.int i=>k=(i != 0)
 |.str y=>y.length<=sizeLine/\k=((y.length:Int) != 0)
 |.HD y=>y.size<=sizeLine/\k=((y.size:Int) != 0)
 |.ref p=>(∃xs,jz K H p xs/\k = !xs.isEmpty)\/(∃xs,rq K H p xs/\k = !xs.isEmpty)\/∃kvs,H p=some (.dK kvs)/\k = !kvs.isEmpty
 |_=>False
theorem GA{κ:Type}{kvs:List (κ×V)}{vs:List (κ×Value)}(r:KV kvs vs):(!vs.isEmpty) = !kvs.isEmpty:=by
 cases r<;>rfl
theorem Ag{xs:List V}{its:List Value}(r:Vals xs its):(!its.toArray.isEmpty) = !xs.isEmpty:=by
 cases r<;>simp
theorem Ah:(sizeLine:Nat)<2^63:=by rw[sizeLine_eq];decide
theorem Ru:Wf X (λ x H Q=>∃k,OL X.K x H k/\Q k H):=by
 intro pins s σ H x v Q I rx h
 obtain⟨k,e,q⟩:=h
 have hl:=Ah
 have hs:sizeLine=16777216:=sizeLine_eq
 cases x with
 |pT=>
  cases rx;have e':k=false:=e;subst e';exact truthy_none ⟨H,I,q⟩
 |bl b=>
  cases rx;have e':k=b:=e;subst e';exact wpAny_truthy_bool ⟨H,I,q⟩
 |int i=>
  obtain⟨t,rfl⟩:=rx;have e':k=(i != 0):=e;subst e';exact iL ⟨H,I,q⟩
 |str y=>
  obtain⟨t,rfl⟩:=rx;obtain⟨hy,e'⟩:y.length<=sizeLine/\k=((y.length:Int) != 0):=e;subst e';exact PySem.P.truthy_str (by omega) ⟨H,I.tok _,q⟩
 |HD y=>
  obtain⟨t,rfl⟩:=rx;obtain⟨hy,e'⟩:y.size<=sizeLine/\k=((y.size:Int) != 0):=e;subst e';exact PySem.W.truthy_bytes (by omega) ⟨H,I.tok _,q⟩
 |ref p=>
  cases rx;have e':(∃xs,jz X.K H p xs/\k = !xs.isEmpty)\/(∃xs,rq X.K H p xs/\k = !xs.isEmpty)\/∃kvs,H p=some (.dK kvs)/\k = !kvs.isEmpty:=e
  rcases e' with ⟨xs,hx,e'⟩ | ⟨xs,hx,e'⟩ | ⟨kvs,hx,e'⟩
  ·subst e';obtain⟨its,r,pl,hz⟩:=I.list hx;have hlen:=r.length;exact wpAny_truthy_list pl.isList (by simp only[aC];omega) ⟨H,I.tok _,by rw[Ag r];exact q⟩
  ·subst e';obtain⟨its,r,pl,hz⟩:=I.tuple hx;have hlen:=r.length;exact truthy_tuple pl (by simp only[aC];omega) ⟨H,I.tok _,by rw[Ag r];exact q⟩
  ·subst e';obtain⟨hz,hS,vs,r,m⟩:kvs.length<=sizeLine/\(p==sysModules)=false/\∃vs,KV kvs vs/\s.heap.DictOf (kT X.prog X.w) p vs:=I.hok p _ hx;have hlen:kvs.length=vs.length:=Paired.length r;exact wpAny_truthy_dict hS m (by omega) ⟨H,I.tok _,by rw[GA r];exact q⟩
 |_=>exact (show False from e).elim
theorem LI(ha:PE X a ta)(he:∀whole,isTrue a X.env whole=(do let v <-whole;standAt a.pos;holding [v] (truthy v))) :
  PT X a (λ σ H Q=>ta σ H λ x H'=>∃k,OL X.K x H' k/\Q k H'):=by
 intro pins s σ H Q I h
 exact isTrue_plain (lO (ha pins s σ H _ I h) λ v s1 ⟨x,H1,I1,r1,q1⟩=>Ru pins s1 σ H1 x v Q I1 r1 q1) (he _)
theorem vals1{x:V}{us:List Value}(r:Vals [x] us):∃u,us=[u]/\RelV x u:=by
 cases r with
 |cons r1 r2=>cases r2;exact⟨_,rfl,r1⟩
theorem LJ:uc X (.builtin "abs") (λ xs H Q=>∃i,xs=[.int i]/\Q (.int (if i<0 then -i else i)) H):=by
 intro pins s σ H xs us Q I r h
 obtain⟨i,rfl,q⟩:=h
 obtain⟨u,rfl,t,rfl⟩:=vals1 r
 exact call_abs_int λ u tk=>⟨.int (if i<0 then -i else i),H,I.tok _,⟨_,rfl⟩,q⟩
end
end L2
namespace L2
open PySem PySem.Spec PyProof.Rows
structure GB(h:Heap)(x dx C:Addr)(mA:Str->Option Value):Prop where
 obj:h.get? x=some (cI C dx)
 ns:h.Ns1 dx mA
 ne:dx≠x
theorem Jr{h:Heap}{dx:Addr}{mA:Str->Option Value}(n:h.Ns1 dx mA):∃od,h.get? dx=some od/\∀name,gh name od=some (mA name):=by
 obtain⟨o,es,ep,ho,hd,hk,_,hm⟩:=n
 refine⟨o,ho,λ name=>?_⟩
 have e:=hm name
 unfold nsFind findBy at e
 rw[<-Array.find?_toList] at e
 unfold gh
 rw[hd]
 dsimp only
 split
 ·rename_i y q
  rw[q] at e;exact congrArg some e
 ·rename_i q
  rw[q] at e;have a:es.toList.any (·.refKey)=false:=by
   rw[List.any_eq_false];intro y hy;obtain⟨z,t,hkey⟩:=hk y (Array.mem_toList_iff.mp hy);simp[DictEntry.refKey,hkey]
  have a':¬es.toList.any (·.refKey)=true:=by rw[a];exact aM
  rw[if_neg a'];exact congrArg some e
theorem GB.look{h:Heap}{x dx C:Addr}{mA:Str->Option Value}(I:GB h x dx C mA):∃od,PySem.W.InstAt h x (cI C dx) C (some od)/\∀name,gh name od=some (mA name):=
 let ⟨od,ho,hl⟩:=Jr I.ns
 ⟨od,⟨I.obj,rfl,rfl,ho⟩,hl⟩
section
variable{prog:Program}{w:World}{A:Around}{E:Value->Shared->Prop}{s:Shared}{K:aj}{x dx C f:Addr}{mA:Str->Option Value}{name:Str}{v:Value}
theorem get_map{expr:Bool}{Q:Value->Shared->Prop}(X:K.In s.heap)(I:GB s.heap x dx C mA)(hg:fJ K C name=true)(hh:gA K C=true)
  (ha:cE K (.ref C) name=some none) (hv:mA name=some v) (hv':iW v=true) (h:Q v { s with toks:=s.toks+1 }) :
  wpAny (model prog w) A (getAttr (.ref x) name expr) Q E s:=by
 obtain⟨od,J,hl⟩:=I.look
 exact PySem.W.get_value X J (f7 hg).1 (PySem.W.findObj_own hh ha rfl (by rw[hl,hv])) hv' h
theorem LK{pl:Sem Bool}{Q:Value×List Value->Shared->Prop}(X:K.In s.heap)(I:GB s.heap x dx C mA)(hg:fJ K C name=true)
  (hf:cE K (.ref C) name=some (some (.ref f))) (ht:iO K (.ref f)=true) (hv:mA name=none) (h:Q (.ref f,[.ref x]) s) :
  wpAny (model prog w) A (getMethod (.ref x) name pl) Q E s:=by
 obtain⟨od,J,hl⟩:=I.look
 exact PySem.W.method_fn X J (f7 hg).1 (f7 hg).2 hf (beq_iff_eq.mp ht) (by show (gh name od).map (·.isSome)=some false;rw[hl,hv];rfl) h
theorem OM{ns:List Str}{Q:Unit->Shared->Prop}(X:K.In s.heap)(I:GB s.heap x dx C mA)
  (hs:cE K (.ref C) "__setattr__" = some (some (.builtin "object.__setattr__"))) (hp:iP K C=true) (ht:gZ K C name=some none) (hh:gA K C=true)
  (hw:PySem.Within mA ns) (hsz:ns.length<=sizeLine)
  (h:∀h',GB h' x dx C (λ y=>if y=name then some v else mA y)->Heap.SameBut dx s.heap h'->Q () { s with heap:=h',toks:=s.toks+2 }) :
  wpAny (model prog w) A (setAttr (.ref x) name v) Q E s:=by
 obtain⟨od,J,hl⟩:=I.look
 refine PySem.W.set_plain X J hs (PySem.W.osa_open (s:={ s with toks:=s.toks+1 }) (r:=none) X J hp ht λ b=>?_)
 obtain⟨cd,hc,hd'⟩:=PySem.W.any_some hh
 have hx:s.heap.get? x=some ⟨.ref C,some dx,.plain,#[]⟩:=I.obj
 refine wpAny_bind (wpAny_pure (wpAny_bind (wpAny_bind (wpAny_loadPart hx (wpAny_bind (PySem.W.Looks.here (s:={ s with toks:=s.toks+1 }) (PySem.W.looks_clsIn X hc) ?_))))))
 rw[hd']
 refine wpAny_pure (a:=some dx) (wpAny_bind (wpAny_pure (wpAny_bind ?_)))
 refine wpAny_nsSet1 (s:={ s with toks:=s.toks+1 }) I.ns λ h' hn2 hs2=>?_
 obtain⟨oD,esD,epD,Y8,Y9,Za⟩:=hn2.count (PySem.Within.cons name v hw)
 refine wpAny_bind (wpAny_lookBehind Y8 (by rw[Y9];exact pastItsLine_dict (bg Za (by rw[aJ];omega))) ?_)
 exact wpAny_pure (h _ ⟨(hs2.2 _ (Ne.symm I.ne)).trans I.obj,hn2,I.ne⟩ hs2)
theorem LL{R:Result->Shared->Prop}{vs:List Value}{kw:List (Str×Value)}(X:K.In s.heap)(hm:g5 K C=true)
  (hi:cE K (.ref C) "__init__" = some (some (.ref f))) (hf:PySem.W.typeIn K (.ref f)=some (.type "function"))
  (h:codeAny (model prog w) (A.under (.builtin "type.__call__" ⟨.ref C::vs,kw⟩)) (.call (.ref f) ⟨.ref (s.heap.objs.size+1)::vs,kw⟩) (PySem.W.InitBack (s.heap.objs.size+1) R)
   { s with heap:=(s.heap.push bU).push (cI C s.heap.objs.size) }) :
  codeAny (model prog w) A (.call (.ref C) ⟨vs,kw⟩) R s:=by
 obtain⟨hh,g,d,t,os⟩:=s
 exact PySem.W.make_core (PySem.W.makes_of X hm) (PySem.W.looks_findIn X hi) (λ self=>PySem.W.bind_fn X self hf) (.inl rfl) h
end
def mU(f:Str)(v:V):List (Str×V)->List (Str×V)
 |[]=>[(f,v)]
 | (g,x)::r=>if g=f then (g,v)::r else (g,x)::mU f v r
theorem jn(f g:Str)(v:V):∀fs:List (Str×V),(mU f v fs).lookup g=if g=f then some v else fs.lookup g
 |[]=>by
  show dW g [(f,v)]=_
  by_cases h:g=f
  ·have hb:(g==f)=true:=beq_iff_eq.mpr h;simp only[dW,hb,if_pos h]
  ·have hb:(g==f)=false:=beq_eq_false_iff_ne.mpr h;simp only[dW,hb,if_neg h]
 | (k,x)::r=>by
  have ih:=jn f g v r;rw[show mU f v ((k,x)::r)=(if k=f then (k,v)::r else (k,x)::mU f v r) from rfl]
  by_cases hk:k=f
  ·rw[if_pos hk]
   by_cases h:g=k
   ·have hb:(g==k)=true:=beq_iff_eq.mpr h;simp only[dW,hb,if_pos (h.trans hk)]
   ·have hb:(g==k)=false:=beq_eq_false_iff_ne.mpr h;simp only[dW,hb,if_neg (λ e:g=f=>h (e.trans hk.symm))]
  ·rw[if_neg hk]
   by_cases h:g=k
   ·have hb:(g==k)=true:=beq_iff_eq.mpr h;simp only[dW,hb,if_neg (λ e:g=f=>hk (h.symm.trans e))]
   ·have hb:(g==k)=false:=beq_eq_false_iff_ne.mpr h;simp only[dW,hb]
    exact ih
theorem yC(f:Str)(v:V):∀fs:List (Str×V),f∈(mU f v fs).map (·.1)/\∀g,g∈fs.map (·.1)->g∈(mU f v fs).map (·.1)
 |[]=>⟨by simp[mU],λ g h=>by simp at h⟩
 | (k,x)::r=>by
  obtain⟨i1,i2⟩:=yC f v r;rw[show mU f v ((k,x)::r)=(if k=f then (k,v)::r else (k,x)::mU f v r) from rfl]
  by_cases hk:k=f
  ·rw[if_pos hk];subst hk;exact⟨by simp,λ g h=>by simpa using h⟩
  ·rw[if_neg hk];refine⟨?_,λ g h=>?_⟩
   ·rw[aT];exact aL _ i1
   ·rw[aT] at h ⊢
    rcases aA.mp h with e | e
    ·exact aA.mpr (.inl e)
    ·exact aL _ (i2 g e)
theorem ze(f:Str)(v:V):∀fs:List (Str×V),(mU f v fs).length<=fs.length+1
 |[]=>by simp[mU]
 | (k,x)::r=>by
  have ih:=ze f v r;rw[show mU f v ((k,x)::r)=(if k=f then (k,v)::r else (k,x)::mU f v r) from rfl]
  by_cases hk:k=f
  ·rw[if_pos hk,aJ,aJ];omega
  ·rw[if_neg hk,aJ,aJ];omega
theorem Ce.some_of{v:V}{o:Option Value}(r:Ce (some v) o):∃u,o=some u/\RelV v u:=by
 cases o with
 |none=>exact (show False from r).elim
 |some u=>exact⟨u,rfl,r⟩
theorem Ce.none_of{o:Option Value}(r:Ce none o):o=none:=by
 cases o with
 |none=>rfl
 |some u=>exact (show False from r).elim
theorem Js{v:V}{u:Value}(r:RelV v u):iW u=true:=by
 cases v with
 |pT=>cases (show u=Value.none from r);rfl
 |bl b=>cases (show u=Value.bool b from r);rfl
 |int i=>obtain⟨t,e⟩:=(show ∃t,u=Value.int i t from r);cases e;rfl
 |str x=>obtain⟨t,e⟩:=(show ∃t,u=Value.str x t from r);cases e;rfl
 |HD b=>obtain⟨t,e⟩:=(show ∃t,u=Value.bytes b t from r);cases e;rfl
 |Vo b=>obtain⟨t,e⟩:=(show ∃t,u=Value.float b t from r);cases e;rfl
 |ref a=>cases (show u=Value.ref a from r);rfl
 |ty n=>cases (show u=Value.type n from r);rfl
section
variable{P:Program}{w:World}{H H':Hp}{h h':Heap}{a C dx:Addr}{fs fs':List (Str×V)}
theorem DV(hok:yu P w H h)(e:H a=some (.ins C dx fs)):∃mA,GB h a dx C mA/\(∀f,Ce (fs.lookup f) (mA f))/\PySem.Within mA (fs.map (·.1))/\fs.length<=1000/\H dx=some (.own a):=by
 obtain⟨d,z,ne,ob,mA,n,r,q⟩:=(show nV P w H h a (.ins C dx fs) from hok a _ e)
 exact⟨mA,⟨ob,n,ne⟩,r,q,z,d⟩
end
structure Lf(K:aj)(C:Addr):Prop where
 pg:fJ K C Str.empty=true
 hd:gA K C=true
 po:iP K C=true
 sa:cE K (.ref C) "__setattr__" = some (some (.builtin "object.__setattr__"))
theorem Lf.get{K:aj}{C:Addr}(c:Lf K C)(f:Str):fJ K C f=true:=c.pg
def lV(K:aj)(C:Addr)(f:Str):Prop:=cE K (.ref C) f=some none
theorem lV.TN{K:aj}{C:Addr}{f:Str}(n:lV K C f):gZ K C f=some none:=by
 unfold gZ
 rw[show cE K (.ref C) f=some none from n]
 rfl
structure Meth(K:aj)(C:Addr)(m:Str)(f:Addr):Prop where
 at_:cE K (.ref C) m=some (some (.ref f))
 fn:iO K (.ref f)=true
 kp:dX K (.ref f)=true
section
variable{X:Cx}{pins:List (Addr×Obj)}{σ:St}{H:Hp}{s:Shared}{a C dx:Addr}{fs:List (Str×V)}{f:Str}{v:V}{A:Around}{E:Value->Shared->Prop}
theorem Ai{b:Bool}{Q:Value->Shared->Prop}(I:Inv X pins σ H s)(e:H a=some (.ins C dx fs))(c:Lf X.K C)(n:lV X.K C f)(l:fs.lookup f=some v)
  (h:∀u s',Inv X pins σ H s'->RelV v u->Q u s'):wpAny (model X.prog X.w) A (getAttr (.ref a) f b) Q E s:=by
 obtain⟨mA,O,r,_,_,_⟩:=DV I.hok e
 obtain⟨u,hu,ru⟩:=Ce.some_of (v:=v) (o:=mA f) (by rw[<-l];exact r f)
 exact get_map I.Gk O (c.get f) c.hd n hu (Js ru) (h u _ (I.tok _) ru)
theorem wD{m:Str}{g:Addr}{pl:Sem Bool}{Q:Value×List Value->Shared->Prop}(I:Inv X pins σ H s)(e:H a=some (.ins C dx fs))(c:Lf X.K C)(k:Meth X.K C m g)(l:fs.lookup m=none)
  (h:Q (.ref g,[.ref a]) s):wpAny (model X.prog X.w) A (getMethod (.ref a) m pl) Q E s:=by
 obtain⟨mA,O,r,_,_,_⟩:=DV I.hok e
 have hn:mA m=none:=Ce.none_of (by rw[<-l];exact r m)
 exact LK I.Gk O (c.get m) k.at_ k.fn hn h
theorem Aj{y:V}{u:Value}{Q:Unit->Shared->Prop}(I:Inv X pins σ H s)(e:H a=some (.ins C dx fs))(c:Lf X.K C)(n:lV X.K C f)(hl:fs.length<1000)(ry:RelV y u)
  (h:∀s',Inv X pins σ (upd H a (.ins C dx (mU f y fs))) s'->Q () s'):wpAny (model X.prog X.w) A (setAttr (.ref a) f u) Q E s:=by
 obtain⟨mA,O,r,wi,_,ho⟩:=DV I.hok e
 have hz:(fs.map (·.1)).length<=sizeLine:=by rw[ah,sizeLine_eq];omega
 refine OM I.Gk O c.sa c.po n.TN c.hd wi hz λ h' O' sb=>h _ ?_
 have hd:∃o,h'.get? dx=some o:=let ⟨o,_,_,e',_⟩:=O'.ns;⟨o,e'⟩
 refine I.write (x:=a) (e:=dx) (by rw[e];exact True.intro) (.inr ho) (λ b q hb z=>(sb.2 b hb).trans z) hd ?_
 refine⟨by rw[jd O.ne];exact ho,?_,O.ne,O'.obj,_,O'.ns,λ g=>?_,λ g hg=>?_⟩
 ·have:=ze f y fs;omega
 ·show Ce ((mU f y fs).lookup g) (if g=f then some u else mA g)
  rw[jn]
  by_cases q:g=f
  ·rw[if_pos q,if_pos q];exact ry
  ·rw[if_neg q,if_neg q];exact r g
 ·by_cases q:g=f
  ·rw[q];exact (yC f y fs).1
  ·refine (yC f y fs).2 g (wi g λ z=>hg ?_);show (if g=f then some u else mA g)=none;rw[if_neg q];exact z
theorem Inv.made(I:Inv X pins σ H s):Inv X pins σ (upd (upd H s.heap.objs.size (.own (s.heap.objs.size+1))) (s.heap.objs.size+1) (.ins C s.heap.objs.size []))
  { s with heap:=(s.heap.push bU).push (cI C s.heap.objs.size) }:=by
 have e1:(s.heap.push bU).get? s.heap.objs.size=some bU:=Heap.get?_push_size s.heap rfl
 have e2:((s.heap.push bU).push (cI C s.heap.objs.size)).get? (s.heap.objs.size+1)=some (cI C s.heap.objs.size):=by
  have:=Heap.get?_push_size (s.heap.push bU) (o:=cI C s.heap.objs.size) rfl
  rwa [Heap.size_push] at this
 have e3:(s.heap.push bU).Ns s.heap.objs.size (λ _=>none):=⟨bU,#[],_,e1,rfl,(λ e he=>absurd he (by simp)),λ _=>rfl⟩
 have I1:=I.laid (a:=s.heap.objs.size) (o:=.own (s.heap.objs.size+1)) (h':=s.heap.push bU) (t':=s.toks) (λ b u q=>Heap.get?_push_of_some _ q) (aq _) ⟨_,e1⟩
 refine I1.laid (a:=s.heap.objs.size+1) (o:=.ins C s.heap.objs.size []) (t':=s.toks) (λ b u q=>Heap.get?_push_of_some _ q) (gQ (Heap.size_push _ _)) ?_
 have ne:s.heap.objs.size≠s.heap.objs.size+1:=aW (aD _)
 refine⟨by rw[jd ne,iZ],bf _,ne,e2,λ _=>none,(Heap.Ns1.of_empty e3).at λ o q=>Heap.get?_push_of_some _ q,λ _=>True.intro,λ y hy=>absurd rfl hy⟩
theorem ON{prog:Program}{w:World}{env:Env}{e:Expr}{f:Str}{pos:Pos}{s:Shared}{Q:Value->Shared->Prop}(hb:attributeBase e f env (eval e env)=eval e env)
  (h:wpAny (model prog w) A (eval e env) (λ o s₁=>wpAny (model prog w) A (getAttr o f true) Q E s₁) E s):wpAny (model prog w) A (eval (.Attribute e f pos) env) Q E s:=
 Attribute_any_ h (by rw[arm_eval_Attribute,hb])
end
def LM(K:aj)(ta:TE)(f:Str):TE:=λ σ H Q=>ta σ H λ x H1=>∃a C dx fs v,x=.ref a/\H1 a=some (.ins C dx fs)/\Lf K C/\lV K C f/\fs.lookup f=some v/\Q v H1
def Wg(K:aj)(ta tv:TE)(f:Str):TS:=λ D σ H=>tv σ H λ y H1=>ta σ H1 λ x H2=>∃a C dx fs,x=.ref a/\H2 a=some (.ins C dx fs)/\Lf K C/\lV K C f/\fs.length<1000 /\
 D.nx σ (upd H2 a (.ins C dx (mU f y fs)))
def TQ(X:Cx)(op:Operator)(rd:V->V->Hp->VK->Prop):Prop:=
 ∀(pins:List (Addr×Obj)) (s:Shared) (σ:St) (H:Hp) (x y:V) (u v:Value) (Q:VK),Inv X pins σ H s->RelV x u->RelV y v->rd x y H Q->wpAny (model X.prog X.w) X.A (inplaceOp op u v) (EP X pins σ Q) X.xe s
def OO(K:aj)(ta tv:TE)(rd:V->V->Hp->VK->Prop)(f:Str):TS:=λ D σ H=>ta σ H λ x H1=>∃a C dx fs v,x=.ref a/\H1 a=some (.ins C dx fs)/\Lf K C/\lV K C f/\fs.lookup f=some v /\
 tv σ H1 λ y H2=>rd v y H2 λ z H3=>∃TR fs',H3 a=some (.ins C TR fs')/\fs'.length<1000/\D.nx σ (upd H3 a (.ins C TR (mU f z fs')))
section
variable{X:Cx}{o e value:Expr}{f:Str}{pos pos' tpos:Pos}{ta tv:TE}
theorem nt(he:PE X e ta)(hb:attributeBase e f X.env (eval e X.env)=eval e X.env):PE X (.Attribute e f pos) (LM X.K ta f):=by
 intro pins s σ H Q I h
 refine ON hb (lO (he pins s σ H _ I h) λ u s1 ⟨x,H1,I1,rx,a,C,dx,fs,v,ex,ea,c,n,l,q⟩=>?_)
 subst ex
 obtain rfl:u=Value.ref a:=rx
 exact Ai I1 ea c n l λ u' s2 I2 ru=>⟨v,H1,I2,ru,q⟩
theorem n6(ha:PE X o ta)(hv:PE X value tv)(hs:swapsWith value (some (.Attribute o f pos')) pos.line X.env=pure false):PS X (.Assign [.Attribute o f pos'] value pos) (Wg X.K ta tv f):=by
 intro pins s σ H D I h
 refine plainObj_wpAny_Assign_Attribute (lO (hv pins s σ H _ I h) λ u s1 ⟨y,H1,I1,ry,q⟩=>lO (ha pins s1 σ H1 _ I1 q) λ ov s2 ⟨x,H2,I2,rx,a,C,dx,fs,ex,ea,c,n,l,q2⟩=>?_) hs
 subst ex
 obtain rfl:ov=Value.ref a:=rx
 exact Aj I2 ea c n l ry λ s3 I3=>⟨σ,_,I3,q2⟩
theorem rC{op:Operator}{rd:V->V->Hp->VK->Prop}(ha:PE X o ta)(hv:PE X value tv)(hop:TQ X op rd):PS X (.AugAssign (.Attribute o f tpos) op value pos) (OO X.K ta tv rd f):=by
 intro pins s σ H D I h
 refine wpAny_AugAssign_AttributeAny (lO (ha pins s σ H _ I h) λ ov s1 ⟨x,H1,I1,rx,a,C,dx,fs,v,ex,ea,c,n,l,q⟩=>?_)
 subst ex
 obtain rfl:ov=Value.ref a:=rx
 refine Ai I1 ea c n l λ u s2 I2 ru=>lO (hv pins s2 σ H1 _ I2 q) λ w3 s3 ⟨y,H2,I3,ry,q3⟩=>lO (hop pins s3 σ H2 v y u w3 _ I3 ru ry q3) λ w4 s4 ⟨z,H3,I4,rz,TR,fs',Zb,l',q4⟩=>?_
 exact Aj I4 Zb c n l' rz λ s5 I5=>⟨σ,_,I5,q4⟩
def Wh:V->V->Hp->VK->Prop:=λ x y H Q=>∃i j,x=.int i/\y=.int j/\Q (.int (i+j)) H
theorem Ak:TQ X .Add Wh:=by
 rintro pins s σ H x y u v Q I rx ry ⟨i,j,rfl,rfl,q⟩
 obtain⟨t,rfl⟩:=(show ∃t,u=Value.int i t from rx)
 obtain⟨t',rfl⟩:=(show ∃t',v=Value.int j t' from ry)
 exact PyProof.Rows.iadd_int ⟨.int (i+j),H,I.tok _,⟨_,rfl⟩,q⟩
theorem QA{pl:Sem Bool}{m:Str}{apos:Pos}{args:List Expr}{pins:List (Addr×Obj)}{s:Shared}{σ:St}{H:Hp}{Q:Value->Shared->Prop}{te:TE}(he:PE X e te)(I:Inv X pins σ H s)
  (h:te σ H λ x H1=>∃a C dx fs g,x=.ref a/\H1 a=some (.ins C dx fs)/\Lf X.K C/\Meth X.K C m g/\fs.lookup m=none /\
   ∀s1,Inv X pins σ H1 s1->wpAny (model X.prog X.w) X.A (callWith pos (.ref g) [.ref a] (backTo pos (starEach args X.env)) (backToKw pos (keywordEach [] X.env))) Q X.xe s1)
  (ht:eval (.Call (.Attribute e m apos) args [] pos) X.env=(do
   let ov <-eval e X.env
   standAt apos.atName
   let (f,first) <-holding [ov] (getMethod ov m pl)
   callWith pos f first (backTo pos (starEach args X.env)) (backToKw pos (keywordEach [] X.env)))) :
  wpAny (model X.prog X.w) X.A (eval (.Call (.Attribute e m apos) args [] pos) X.env) Q X.xe s:=by
 refine fF (pl:=pl) (lO (he pins s σ H _ I h) λ u s1 ⟨x,H1,I1,rx,a,C,dx,fs,g,ex,ea,c,k,l,q⟩=>?_) ht
 subst ex
 obtain rfl:u=Value.ref a:=rx
 exact wD I1 ea c k l (q s1 I1)
end
section
variable{X:Cx}{pins:List (Addr×Obj)}{σ:St}{H:Hp}{s:Shared}{A:Around}{E:Value->Shared->Prop}{Q:Value->Shared->Prop}{c:Value}{b:Bool}
end
end L2
namespace L2
open PySem PySem.Spec PyProof.Rows
structure mQ(k:Nat)(A:Around):Prop where
 hd:A.handled=none
 dp:A.depth+3*k+5<recursionLimit
 un:A.units+16*k+200<cLine
theorem mQ.mono{j k:Nat}{A:Around}(r:mQ k A)(h:j<=k):mQ j A:=⟨r.hd,by have:=r.dp;omega,by have:=r.un;omega⟩
theorem mQ.deeper{k:Nat}{A:Around}(r:mQ (k+1) A)(env:Env):mQ k (A.deeper env):=
 ⟨r.hd,by have:=r.dp;show A.depth+1+3*k+5<_;omega,by have:=r.un;show A.units+3+16*k+200<_;omega⟩
theorem GC{A:Around}{C:Addr}{us:List Value}{kw:List (Str×Value)}:(A.under (.builtin "type.__call__" ⟨.ref C::us,kw⟩)).depth=A.depth+1:=by
 first | rfl | simp[Around.under,Code.weight,Code.isCreation,Code.isGuard,Code.isCaller,Code.frames,Code.isFrame,guardIds]
theorem GD{A:Around}{C:Addr}{us:List Value}{kw:List (Str×Value)}:(A.under (.builtin "type.__call__" ⟨.ref C::us,kw⟩)).units=A.units+1:=by
 first | rfl | simp[Around.under,Code.cUnits,Code.frames,Code.isFrame]
theorem mQ.make{k:Nat}{A:Around}(r:mQ (k+1) A)(C:Addr)(us:List Value)(kw:List (Str×Value)):mQ k (A.under (.builtin "type.__call__" ⟨.ref C::us,kw⟩)):=
 ⟨r.hd,by have:=r.dp;rw[GC];omega,by have:=r.un;rw[GD];omega⟩
theorem mQ.depth{k:Nat}{A:Around}(r:mQ k A):A.depth<recursionLimit:=by have:=r.dp;omega
theorem mQ.units{k:Nat}{A:Around}(r:mQ k A):A.units+64<cLine:=by have:=r.un;omega
def EN:TA:=λ _ H Q=>Q [] H
def Al(ta:TE)(tr:TA):TA:=λ σ H Q=>ta σ H λ x H1=>tr σ H1 λ xs H2=>Q (x::xs) H2
section
variable{X:Cx}{e:Expr}{es:List Expr}{te:TE}{t:TA}{pos:Pos}
theorem jb:PA X [] EN:=λ _ _ _ _ H Q I h=>Calls.spliced_nil ⟨[],H,I,.nil,h⟩
theorem iY(ha:PE X e te)(hr:PA X es t)(hs:starEach (e::es) X.env=(false,eval e X.env)::starEach es X.env:=by rfl):PA X (e::es) (Al te t):=by
 intro pos pins s σ H Q I h
 rw[hs]
 show wpAny _ _ (spliced ((false,eval e X.env)::backTo pos (starEach es X.env))) _ _ s
 refine Calls.spliced_cons (lO (ha pins s σ H _ I h) λ u s1 ⟨x,H1,I1,r1,q1⟩=>?_)
 exact lO (hr pos pins s1 σ H1 _ I1 q1) λ us s2 ⟨xs,H2,I2,r2,q2⟩=>⟨x::xs,H2,I2,.cons r1 r2,q2⟩
def TU(t:TA):TE:=λ σ H Q=>t σ H λ xs H1=>xs.length<=sizeLine/\∀p,H1 p=none->Q (.ref p) (upd H1 p (.tup xs))
def TV(t:TA):TE:=λ σ H Q=>t σ H λ xs H1=>xs.length<=sizeLine/\∀p,H1 p=none->Q (.ref p) (upd H1 p (.lst xs))
theorem LN{x1}(h:PA X es t):PE X (.Tuple es x1 pos) (TU t):=by
 intro pins s σ H Q I hq
 refine wpAny_Tuple_spliced (lO (h pos pins s σ H _ I hq) λ us s1 ⟨xs,H1,I1,r,z,q⟩=>⟨by rw[<-r.length];exact z,?_⟩)
 have hf:H1 s1.heap.objs.size=none:=I1.hok.fresh (aq _)
 refine⟨.ref s1.heap.objs.size,upd H1 s1.heap.objs.size (.tup xs),I1.laid (t':=s1.toks) (λ b u e=>Heap.get?_push_of_some _ e) (aq _) ?_,rfl,q _ hf⟩
 exact⟨z,us,r,⟨_,Heap.get?_push_size _ rfl,rfl,_,rfl⟩⟩
theorem mq(h:PA X es t):PE X (.List es pos) (TV t):=by
 intro pins s σ H Q I hq
 refine wpAny_List_spliced (lO (h pos pins s σ H _ I hq) λ us s1 ⟨xs,H1,I1,r,z,q⟩=>⟨by rw[<-r.length];exact z,?_⟩)
 have hf:H1 s1.heap.objs.size=none:=I1.hok.fresh (aq _)
 refine⟨.ref s1.heap.objs.size,upd H1 s1.heap.objs.size (.lst xs),I1.laid (t':=s1.toks) (λ b u e=>Heap.get?_push_of_some _ e) (aq _) ?_,rfl,q _ hf⟩
 exact⟨z,us,0,r,Heap.get?_push_size _ rfl⟩
end
abbrev Sp:=List V->Hp->VK->XK->Prop
abbrev OP:=List Env->Hp->Shared->XK->Value->Shared->Prop
structure yD(P:Program)(w:World)(K:aj)(mg:Str->Option Value)(base:Heap)(A:Around)(outer:List Env)(s:Shared)(H:Hp):Prop where
 frames:A.frames=some outer
 mod:Mod K mg base
 bs:∀b o,base.get? b=some o->s.heap.get? b=some o/\H b=none
 Oj:base.objs.size<=s.heap.objs.size
 zG:s.heap.FunFrames base outer
 Q8:∀b∈frs outer,H b=none
 hok:yu P w H s.heap
 bare:AllBare s.gens
def CE(outer:List Env)(P:Program)(w:World)(H:Hp)(s:Shared)(Q:VK)(u:Value)(s':Shared):Prop:=
 ∃v H',s'.os=s.os/\AllBare s'.gens/\Un (frs outer) [] H H' s.heap s'.heap/\yu P w H' s'.heap/\RelV v u/\Q v H'
def CR(CX:OP)(outer:List Env)(P:Program)(w:World)(H:Hp)(s:Shared)(Q:VK)(E:XK)(r:Result)(s':Shared):Prop:=
 match r with
 |.ok (.ret u)=>CE outer P w H s Q u s'
 |.ok _=>False
 |.error e=>CX outer H s E e s'
structure yE(P:Program)(w:World)(K:aj)(mg:Str->Option Value)(base:Heap)(CX:OP)(k:Nat)(f:Addr)(fd:FuncData)(ps:List Str)(sp:Sp):Prop where
 len:∀vs H Q E,sp vs H Q E->vs.length=ps.length
 run:∀(A:Around) (outer:List Env) (s:Shared) (H:Hp) (args:Args) (us:List Value) (vs:List V) (Q:VK) (E:XK),mQ k A->yD P w K mg base A outer s H->BindsTo s fd args (ps.zip us)->Vals vs us->sp vs H Q E ->
  codeAny (model P w) A (.call (.ref f) args) (CR CX outer P w H s Q E) s
theorem yD.make{P:Program}{w:World}{K:aj}{mg:Str->Option Value}{base:Heap}{A:Around}{outer:List Env}{s:Shared}{H:Hp}(e:yD P w K mg base A outer s H)(C:Addr)(us:List Value)(kw:List (Str×Value)) :
  yD P w K mg base (A.under (.builtin "type.__call__" ⟨.ref C::us,kw⟩)) outer s H:=⟨by first | exact e.frames | (simpa [Around.under,Code.envs,Code.isFrame,pushEnvs] using e.frames),e.mod,e.bs,e.Oj,e.zG,e.Q8,e.hok,e.bare⟩
section
variable{X:Cx}{pins:List (Addr×Obj)}{σ:St}{H:Hp}{s s':Shared}
theorem Inv.OQ(I:Inv X pins σ H s):yD X.prog X.w X.K X.mg X.base X.A X.stack s H:=
 ⟨I.ok.frames,I.ok.mod,I.bs,bg I.ok.Oj I.sz,I.stack,I.zR,I.hok,I.bare⟩
theorem Inv.after{Q:VK}{u:Value}(I:Inv X pins σ H s)(h:CE X.stack X.prog X.w H s Q u s'):EP X pins σ Q u s':=by
 obtain⟨v,H',os,bare,un,hok,r,q⟩:=h
 obtain⟨hh,g,d,t,os'⟩:=s'
 obtain rfl:os'=s.os:=os
 exact⟨v,H',I.call (h':=hh) (g':=g) (d':=d) (t':=t) (ch:=[]) un hok bare (λ b z=>absurd z (by simp)),r,q⟩
end
def HH(sp:Sp)(Cj:List V)(E:XK)(t:TA):TE:=λ σ H Q=>t σ H λ vs H1=>sp (vs++Cj) H1 Q E
def HJ(C:Addr)(m:Str)(sp:Sp)(Cj:List V)(E:XK)(ta:TE)(t:TA):TE:=λ σ H Q=>ta σ H λ x H1=>∃a dx fs,x=.ref a/\H1 a=some (.ins C dx fs)/\fs.lookup m=none /\
 t σ H1 λ vs H2=>sp (x::(vs++Cj)) H2 Q E
def QB(C:Addr)(sp:Sp)(Cj:List V)(E:XK)(t:TA):TE:=λ σ H Q=>t σ H λ vs H1=>∀x dx,H1 x=none->H1 dx=none->dx≠x ->
 sp (.ref x::(vs++Cj)) (upd (upd H1 dx (.own x)) x (.ins C dx [])) (λ v H2=>v=.pT/\Q (.ref x) H2) E
def Binds(K:aj)(fd:FuncData)(ps:List Str)(ds:List Value):Prop:=
 ∀(s:Shared) (us:List Value),K.In s.heap->(us++ds).length=ps.length->BindsTo s fd ⟨us,[]⟩ (ps.zip (us++ds))
theorem Binds.all{K:aj}{fd:FuncData}{ps:List Str}(h:∀us:List Value,us.length=ps.length->bindArgs fd ⟨us,[]⟩=pure (ps.zip us)):Binds K fd ps []:=λ s us _ hl=>by
 rw[cQ] at hl ⊢
 exact .of_eq (h us hl)
def o5(CX:OP)(X:Cx)(E:XK):Prop:=∀(pins:List (Addr×Obj)) (σ:St) (H:Hp) (s:Shared) (e:Value) (s':Shared),Inv X pins σ H s->CX X.stack H s E e s'->X.xe e s'
section
variable{X:Cx}{CX:OP}{k:Nat}{f C:Addr}{fd:FuncData}{ps:List Str}{sp:Sp}{Cj:List V}{ds:List Value}{E:XK}{x m:Str}{p pos apos:Pos}{e o:Expr}{es:List Expr}{ta:TE}{t:TA}
theorem GF{pins:List (Addr×Obj)}{σ:St}{H:Hp}{s:Shared}{Q:VK}{us:List Value}{vs:List V}(F:yE X.prog X.w X.K X.mg X.base CX k f fd ps sp)(hr:mQ k X.A)(hb:Binds X.K fd ps ds)(hd:Vals Cj ds)(hx:o5 CX X E)
  (I:Inv X pins σ H s) (r:Vals vs us) (h:sp (vs++Cj) H Q E):wpAny (model X.prog X.w) X.A (call (.ref f) us) (EP X pins σ Q) X.xe s:=by
 have r2:Vals (vs++Cj) (us++ds):=r.append hd
 have hl:(us++ds).length=ps.length:=by rw[<-r2.length];exact F.len _ _ _ _ h
 refine wpAny_call (codeAny_mono (F.run X.A X.stack s H ⟨us,[]⟩ (us++ds) (vs++Cj) Q E hr I.OQ (hb s us I.Gk hl) r2 h) λ r s' hq=>?_)
 cases r with
 |error e=>exact hx pins σ H s e s' I hq
 |ok fl=>
  cases fl with
  |ret u=>exact I.after hq
  |next=>exact False.elim hq
  |brk=>exact False.elim hq
  |cont=>exact False.elim hq
theorem OR(F:yE X.prog X.w X.K X.mg X.base CX k f fd ps sp)(hr:mQ k X.A)(hg:Gl X x)(hm:X.mg x=some (.ref f))(hk:dX X.K (.ref f)=true)(hb:Binds X.K fd ps ds)(hd:Vals Cj ds)(hx:o5 CX X E)
  (ha:PA X (e::es) t) (hdb:(x==("__debug__":Str))=false:=by decide) (he:starEach (e::es) X.env=(false,eval e X.env)::starEach es X.env:=by rfl) (hpl:(backTo pos (starEach es X.env)).any (·.1)=false:=by rfl) :
  PE X (.Call (.Name x p) (e::es) [] pos) (HH sp Cj E t):=by
 intro pins s σ H Q I h
 refine wpAny_Call_Name_kw (sN I hg hm ?_ hdb)
 refine e7 (h₀:=X.base) I.ok.mod.Qt hk (lO (ha pos pins s σ H _ I h) λ us s1 ⟨vs,H1,I1,r,q⟩=>⟨I1.Gk,?_⟩) he hpl
 exact GF F hr hb hd hx I1 r q
theorem OS{pl:Sem Bool}(he:PE X o ta)(c:Lf X.K C)(hm:Meth X.K C m f)(F:yE X.prog X.w X.K X.mg X.base CX k f fd ps sp)(hr:mQ k X.A)(hb:Binds X.K fd ps ds)(hd:Vals Cj ds)(hx:o5 CX X E)(ha:PA X (e::es) t)
  (hst:starEach (e::es) X.env=(false,eval e X.env)::starEach es X.env:=by rfl) (hpl:(backTo pos (starEach es X.env)).any (·.1)=false:=by rfl)
  (ht:eval (.Call (.Attribute o m apos) (e::es) [] pos) X.env=(do
   let ov <-eval o X.env
   standAt apos.atName
   let (f,first) <-holding [ov] (getMethod ov m pl)
   callWith pos f first (backTo pos (starEach (e::es) X.env)) (backToKw pos (keywordEach [] X.env))):=by rfl) :
  PE X (.Call (.Attribute o m apos) (e::es) [] pos) (HJ C m sp Cj E ta t):=by
 intro pins s σ H Q I h
 refine fF (pl:=pl) (lO (he pins s σ H _ I h) λ u s1 ⟨x,H1,I1,rx,a,dx,fs,ex,ea,l,q⟩=>?_) ht
 subst ex
 obtain rfl:u=Value.ref a:=rx
 refine wD I1 ea c hm l ?_
 refine e7 (first:=[.ref a]) (h₀:=X.base) I.ok.mod.Qt hm.kp (lO (ha pos pins s1 σ H1 _ I1 q) λ us s2 ⟨vs,H2,I2,r,q2⟩=>⟨I2.Gk,?_⟩) hst hpl
 exact GF (us:=.ref a::us) (vs:=.ref a::vs) F hr hb hd hx I2 (.cons rfl r) q2
theorem LO{pl:Sem Bool}(he:PE X o ta)(c:Lf X.K C)(hm:Meth X.K C m f)(F:yE X.prog X.w X.K X.mg X.base CX k f fd ps sp)(hr:mQ k X.A)(hb:Binds X.K fd ps ds)(hd:Vals Cj ds)(hx:o5 CX X E)
  (ht:eval (.Call (.Attribute o m apos) [] [] pos) X.env=(do
   let ov <-eval o X.env
   standAt apos.atName
   let (f,first) <-holding [ov] (getMethod ov m pl)
   callWith pos f first (backTo pos (starEach [] X.env)) (backToKw pos (keywordEach [] X.env))):=by rfl) :
  PE X (.Call (.Attribute o m apos) [] [] pos) (HJ C m sp Cj E ta EN):=by
 intro pins s σ H Q I h
 refine fF (pl:=pl) (lO (he pins s σ H _ I h) λ u s1 ⟨x,H1,I1,rx,a,dx,fs,ex,ea,l,q⟩=>?_) ht
 subst ex
 obtain rfl:u=Value.ref a:=rx
 refine wD I1 ea c hm l ?_
 exact PySem.W.callWith_K0 (first:=[.ref a]) I1.Gk hm.kp (GF (us:=[.ref a]) (vs:=[.ref a]) F hr hb hd hx I1 (.cons rfl .nil) q)
structure Mk(K:aj)(C f:Addr):Prop where
 makes:g5 K C=true
 init:cE K (.ref C) "__init__" = some (some (.ref f))
 fn:iO K (.ref f)=true
 kp:dX K (.ref C)=true
theorem LP{pins:List (Addr×Obj)}{σ:St}{H:Hp}{s:Shared}{Q:VK}{us:List Value}{vs:List V}(M:Mk X.K C f)(F:yE X.prog X.w X.K X.mg X.base CX k f fd ps sp)(hr:mQ (k+1) X.A)(hb:Binds X.K fd ps ds)(hd:Vals Cj ds)
  (hx:o5 CX X E) (I:Inv X pins σ H s) (r:Vals vs us)
  (h:∀x dx,H x=none->H dx=none->dx≠x->sp (.ref x::(vs++Cj)) (upd (upd H dx (.own x)) x (.ins C dx [])) (λ v H2=>v=.pT/\Q (.ref x) H2) E) :
  wpAny (model X.prog X.w) X.A (call (.ref C) us) (EP X pins σ Q) X.xe s:=by
 have hq:=h (s.heap.objs.size+1) s.heap.objs.size (I.hok.fresh (Nat.le_succ _)) (I.hok.fresh (aq _)) (aW (aD _))
 have I2:=Inv.made (C:=C) I
 have r2:Vals (V.ref (s.heap.objs.size+1)::(vs++Cj)) (Value.ref (s.heap.objs.size+1)::(us++ds)):=.cons rfl (r.append hd)
 have hl:(Value.ref (s.heap.objs.size+1)::us++ds).length=ps.length:=by
  have e:=r2.length;rw[F.len _ _ _ _ hq] at e;exact e.symm
 refine wpAny_call (LL (f:=f) I.Gk M.makes M.init (beq_iff_eq.mp M.fn) (codeAny_mono (F.run _ X.stack _ _ ⟨Value.ref (s.heap.objs.size+1)::us,[]⟩ (Value.ref (s.heap.objs.size+1)::(us++ds)) _ _ E (hr.make C us [])
  (I2.OQ.make C us []) (hb _ (Value.ref (s.heap.objs.size+1)::us) I2.Gk hl) r2 hq) λ r s' hq'=>?_))
 cases r with
 |error e=>exact hx pins σ _ _ e s' I2 hq'
 |ok fl=>
  cases fl with
  |ret u=>
   obtain⟨v,H',I3,rv,ev,q3⟩:=I2.after hq';subst ev;exact⟨rv,⟨V.ref (s.heap.objs.size+1),H',I3,rfl,q3⟩⟩
  |next=>exact False.elim hq'
  |brk=>exact False.elim hq'
  |cont=>exact False.elim hq'
theorem OT(M:Mk X.K C f)(F:yE X.prog X.w X.K X.mg X.base CX k f fd ps sp)(hr:mQ (k+1) X.A)(hg:Gl X x)(hm:X.mg x=some (.ref C))(hb:Binds X.K fd ps ds)(hd:Vals Cj ds)(hx:o5 CX X E)
  (ha:PA X (e::es) t) (hdb:(x==("__debug__":Str))=false:=by decide) (he:starEach (e::es) X.env=(false,eval e X.env)::starEach es X.env:=by rfl) (hpl:(backTo pos (starEach es X.env)).any (·.1)=false:=by rfl) :
  PE X (.Call (.Name x p) (e::es) [] pos) (QB C sp Cj E t):=by
 intro pins s σ H Q I h
 refine wpAny_Call_Name_kw (sN I hg hm ?_ hdb)
 refine e7 (h₀:=X.base) I.ok.mod.Qt M.kp (lO (ha pos pins s σ H _ I h) λ us s1 ⟨vs,H1,I1,r,q⟩=>⟨I1.Gk,?_⟩) he hpl
 exact LP M F hr hb hd hx I1 r q
end
section
variable{X:Cx}{CX:OP}{k:Nat}{f C:Addr}{fd:FuncData}{ps ks:List Str}{sp:Sp}{E:XK}{x m:Str}{p pos apos kpos:Pos}{e o:Expr}{es:List Expr}{kws:List Keyword}{te ta:TE}{t tk:TA}{nm:Option Str}
variable{g:List Value->List Value->List Value}{gV:List V->List V->List V}
end
structure jo(N P:List Str)(sc:Scope):Prop where
 kind:sc.kind=.function
 co:sc.isCoroutine=false
 gen:sc.isGenerator=false
 nd:N.Nodup
 pre:N.take P.length=P
 Wi:∀x∈P,sc.names.lookup x=some .local\/sc.names.lookup x=some .cell
 Rv:∀y∈sc.names,y.2≠.free
theorem CT{kindOf:Str->Option NameKind}{x:Str}:∀{binds:List (Str×Value)}{m:Str->Option Value},(∀v,(x,v) ∉ binds)->bindL kindOf binds m x=m x
 |[],_,_=>rfl
 | (n,v)::r,m,h=>by
  unfold bindL;rw[CT λ w hw=>h w (aL _ hw)]
  split
  ·have:x≠n:=by rintro rfl;exact h v aO
   simp[this]
  ·rfl
theorem CU{kindOf:Str->Option NameKind}{x:Str}:∀{binds:List (Str×Value)}{m:Str->Option Value},(∀v,(x,v) ∉ binds)->bindC kindOf binds m x=m x
 |[],_,_=>rfl
 | (n,v)::r,m,h=>by
  unfold bindC;rw[CU λ w hw=>h w (aL _ hw)]
  split
  ·rfl
  ·have:x≠n:=by rintro rfl;exact h v aO
   simp[this]
theorem CV{kindOf:Str->Option NameKind}{x:Str}{v:Value}:∀{P:List Str}{vs:List Value}{i:Nat}{m:Str->Option Value},P.Nodup->P[i]? = some x->vs[i]? = some v->kindOf x=some .local ->
  bindL kindOf (P.zip vs) m x=some v
 |[],_,_,_,_,h,_,_=>by simp at h
 |_::_,[],_,_,_,_,h,_=>by simp at h
 |p::P,w::vs,0,m,nd,h1,h2,hk=>by
  simp at h1 h2;subst h1;subst h2
  show bindL kindOf ((p,w)::P.zip vs) m p=_;unfold bindL;rw[CT λ v hv=>(cR.mp nd).1 (fW hv).1,if_pos hk];simp
 |p::P,w::vs,i+1,m,nd,h1,h2,hk=>by
  show bindL kindOf ((p,w)::P.zip vs) m x=_;unfold bindL;exact CV (i:=i) (cR.mp nd).2 (by simpa using h1) (by simpa using h2) hk
theorem CW{kindOf:Str->Option NameKind}{x:Str}{v:Value}:∀{P:List Str}{vs:List Value}{i:Nat}{m:Str->Option Value},P.Nodup->P[i]? = some x->vs[i]? = some v->kindOf x≠some .local ->
  bindC kindOf (P.zip vs) m x=some v
 |[],_,_,_,_,h,_,_=>by simp at h
 |_::_,[],_,_,_,_,h,_=>by simp at h
 |p::P,w::vs,0,m,nd,h1,h2,hk=>by
  simp at h1 h2;subst h1;subst h2
  show bindC kindOf ((p,w)::P.zip vs) m p=_;unfold bindC;rw[CU λ v hv=>(cR.mp nd).1 (fW hv).1,if_neg hk];simp
 |p::P,w::vs,i+1,m,nd,h1,h2,hk=>by
  show bindC kindOf ((p,w)::P.zip vs) m x=_;unfold bindC;exact CW (i:=i) (cR.mp nd).2 (by simpa using h1) (by simpa using h2) hk
def start(N:List Str)(vs:List V):St:=vs.map some++aF (N.length-vs.length) none
def Am(CX:OP)(P:Program)(w:World)(K:aj)(mg:Str->Option Value)(base:Heap)(N:List Str)(qual:Str)(scope:Scope)(f:Addr)(cd:Value)(A:Around)(outer:List Env)(s:Shared)(H:Hp)(E:XK):Cx where
 prog:=P
 w:=w
 K:=K
 mg:=mg
 base:=base
 A:=A.deeper (envOfC qual scope s.heap.objs.size f cd)
 N:=N
 Ci:=s
 Qu:=H
 env:=envOfC qual scope s.heap.objs.size f cd
 outer:=outer
 stack:=envOfC qual scope s.heap.objs.size f cd::outer
 ex:=[]
 calm:=true
 fn:=λ _=>true
 pn:=[]
 xe:=λ e s'=>wpAny (model P w) (A.deeper (envOfC qual scope s.heap.objs.size f cd)) (leaving (envOfC qual scope s.heap.objs.size f cd) e) (λ _ s''=>CX outer H s E e s'') (λ e' s''=>CX outer H s E e' s'') s'
theorem EO{sc:Scope}{n:Nat}{x:Str}(h:sc.names.lookup x=some .cell):∃c,(cellsFrom n sc.names []).lookup x=some c:=by
 have q:=fq sc.names n [] (.inl h)
 exact gE.mp q
theorem CY{CX:OP}{P:Program}{w:World}{K:aj}{mg:Str->Option Value}{base:Heap}{N ps:List Str}{qual:Str}{scope:Scope}{f:Addr}{cd:Value}{A:Around}{outer:List Env}{s s1:Shared}{H:Hp}{E:XK}{us:List Value}{vs:List V}
  (S:jo N ps scope) (hd:A.handled=none) (e0:yD P w K mg base A outer s H) (hl:vs.length=ps.length) (r:Vals vs us)
  (x:InCallC s s.heap.objs.size (bindL (envOfC qual scope s.heap.objs.size f cd).kindOf (ps.zip us) λ _=>none) (cellsFrom (s.heap.objs.size+1) scope.names []) (bindC (envOfC qual scope s.heap.objs.size f cd).kindOf (ps.zip us) λ _=>none) s1) :
  Inv (Am CX P w K mg base N qual scope f cd A outer s H E) [] (start N vs) H s1:=by
 have hpl:ps.length<=N.length:=by have:=congrArg fc S.pre;rw[aU] at this;omega
 obtain⟨h1,tk,rfl,hk⟩:=x.done
 have OU:∀b:Addr,b ∉ (Am CX P w K mg base N qual scope f cd A outer s H E).ex:=λ b z=>absurd (show b∈([]:List Addr) from z) (by simp)
 refine⟨⟨e0.mod,S.kind,rfl,rfl,aq _,λ y z c h1 h2=>?_,λ y hy=>?_,λ y c _ h=>?_,λ _=>hd,Around.frames_deeper e0.frames,.inr ⟨rfl,rfl⟩,λ b z=>absurd z (OU b),e0.bs,e0.Oj,λ b _ _=>OU b,λ b z=>absurd z (OU b),e0.zG,e0.Q8⟩,
  rfl,e0.bare,Un.kept hk,⟨_,x.toInCall.ns,λ i y v h1 h2 h3=>?_⟩,λ y c h=>⟨_,x.cell y c h⟩,e0.hok.fresh (aq _),λ y c h=>?_,λ p hp=>absurd (show p∈([]:List (Addr×Obj)) from hp) (by simp),e0.hok.kept hk,?_⟩
 ·exact name_of_addr x.apart (aP h1) (aP h2)
 ·have hy:scope.names.lookup y=some .cell\/scope.names.lookup y=some .free:=hy
  rcases hy with hy | hy
  ·exact EO hy
  ·exact absurd rfl (S.Rv _ (aP hy))
 ·exact aZ (x.above y c (aP h))
 ·have hi:i<vs.length:=by
   unfold start at h2
   by_cases hi:i<vs.length
   ·exact hi
   ·rw[cP (by simpa using hi)] at h2;rw[fh] at h2
    split at h2<;>cases h2
  have ha:vs[i]? = some v:=by
   unfold start at h2;rw[bL (by simpa using hi),ai] at h2
   cases e:vs[i]? with
   |none=>rw[e] at h2;cases h2
   |some a=>rw[e] at h2;cases h2;rfl
  obtain⟨u,hu,rv⟩:=r.get ha;have hp:ps[i]? = some y:=by
   rw[<-S.pre,List.getElem?_take_of_lt (by omega)];exact h1
  have XH:ps.Nodup:=by rw[<-S.pre];exact S.nd.sublist (List.take_sublist _ _)
  refine⟨u,rv,?_⟩
  rcases S.Wi y (au hp) with k | k
  ·exact .inl ⟨k,CV XH hp hu k⟩
  ·obtain⟨c,e⟩:=EO (n:=s.heap.objs.size+1) k;refine .inr ⟨.inl k,c,e,?_⟩;have q:=x.cell y c e;rw[CW XH hp hu (by show scope.names.lookup y≠_;rw[k];decide)] at q;exact q
 ·exact e0.hok.fresh (aZ (x.above y c (aP h)))
 ·unfold start
  show _=N.length;rw[aE,ah,cA];omega
theorem TX{CX:OP}{P:Program}{w:World}{K:aj}{mg:Str->Option Value}{base:Heap}{k:Nat}{f:Addr}{name qual:Str}{params:Arguments}{body:List Stmt}{scope:Scope}{dV kV doc pm cdv ct oc:Value}{an od:Option Addr}
  {osl:Array (Option Value)} {N ps:List Str} {sp:Sp} (lk:K.lookup f=some ⟨oc,od,.func (dj name qual params body scope dV kV doc pm an cdv ct),osl⟩) (hcd:gi K cdv qual=true) (S:jo N ps scope)
  (len:∀vs H Q E,sp vs H Q E->vs.length=ps.length)
  (hbody:∀(A:Around) (outer:List Env) (s:Shared) (H:Hp) (vs:List V) (Q:VK) (E:XK),mQ k (A.deeper (envOfC qual scope s.heap.objs.size f cdv))->sp vs H Q E ->
   ∃t,Lq (Am CX P w K mg base N qual scope f cdv A outer s H E) body t/\t { nx:=λ _ H'=>Q .pT H',rt:=Q } (start N vs) H) :
  yE P w K mg base CX (k+1) f (dj name qual params body scope dV kV doc pm an cdv ct) ps sp:=by
 refine⟨len,λ A outer s H args us vs Q E hr e0 hb r Vy=>?_⟩
 have hl:=len _ _ _ _ Vy
 have KX:K.In s.heap:=e0.mod.Qt.keeps λ b o e=>(e0.bs b o e).1
 have lim:s.heap.NoLimit:=e0.mod.nolimit.keeps λ b o e=>(e0.bs b o e).1
 have hkind:∀y∈ps.zip us,scope.names.lookup y.1=some .local\/(scope.names.lookup y.1=some .cell/\((cellsFrom (s.heap.objs.size+1) scope.names []).lookup y.1).isSome=true):=λ⟨n,v⟩ hy=>by
  rcases S.Wi n (fW hy).1 with q | q
  ·exact .inl q
  ·exact .inr ⟨q,fq _ _ _ (.inl q)⟩
 refine codeAny_call_function hr.depth (KX _ _ lk) rfl S.co S.gen rfl (iM KX hcd) (hb _ _ _ _ ?_)
 refine wpAny_newFunctionEnv_cells S.kind hkind λ env he s1 x=>?_
 subst he
 refine⟨lim.keeps x.toInCall.keep,codeAny_func ?_⟩
 obtain⟨t,ht,hq⟩:=hbody A outer s H vs Q E (hr.deeper _) Vy
 have I:Inv (Am CX P w K mg base N qual scope f cdv A outer s H E) [] (start N vs) H s1:=CY S hr.hd e0 hl r x
 refine wpAny_mono (ht [] s1 (start N vs) H _ I hq) (λ fl s' hs=>?_) λ e s' hs=>hs
 have fin:∀{σ':St} {H':Hp} {v:V} {u:Value},Inv (Am CX P w K mg base N qual scope f cdv A outer s H E) [] σ' H' s'->RelV v u->Q v H'->CE outer P w H s Q u s':=
  λ {σ' H' v u} J rv q=>⟨v,H',J.os,J.bare,J.base,J.hok,rv,q⟩
 cases fl with
 |ret u=>
  obtain⟨v,σ',H',J,rv,q⟩:=hs;exact fin J rv q
 |next=>
  obtain⟨σ',H',J,q⟩:=hs;exact fin (v:=V.pT) (u:=Value.none) J rfl q
 |brk=>
  obtain⟨_,_,_,q⟩:=hs;exact False.elim q
 |cont=>
  obtain⟨_,_,_,q⟩:=hs;exact False.elim q
end L2
namespace L2
open PySem PySem.Spec PyProof.Rows
section
variable{X:Cx}{x:Str}{p pos:Pos}{e:Expr}{es:List Expr}{t:TA}{id T:String}{r:List V->Hp->VK->Prop}
def Wj(r:List V->Hp->VK->Prop)(t:TA):TE:=λ σ H Q=>t σ H λ vs H1=>r vs H1 Q
theorem jT(hc:uc X (.builtin id) r)(hg:Gl X x)(hm:X.mg x=none)(hv:bootBuiltins x=some (.builtin id))(ha:PA X (e::es) t)(hn:x≠"__name__":=by decide)(hdb:(x==("__debug__":Str))=false:=by decide)
  (he:starEach (e::es) X.env=(false,eval e X.env)::starEach es X.env:=by rfl) (hpl:(backTo pos (starEach es X.env)).any (·.1)=false:=by rfl):PE X (.Call (.Name x p) (e::es) [] pos) (Wj r t):=by
 intro pins s σ H Q I h
 refine wpAny_Call_Name_kw (wB I hg hm hv ?_ hn hdb)
 exact PyProof.Rows.callWith_builtin1 (lO (ha pos pins s σ H _ I h) λ us s1 ⟨vs,H1,I1,r1,q1⟩=>hc pins s1 σ H1 vs us Q I1 r1 q1) he hpl
theorem vh(hc:uc X (.type T) r)(hg:Gl X x)(hm:X.mg x=none)(hv:bootBuiltins x=some (.type T))(ha:PA X (e::es) t)(hn:x≠"__name__":=by decide)(hdb:(x==("__debug__":Str))=false:=by decide)
  (he:starEach (e::es) X.env=(false,eval e X.env)::starEach es X.env:=by rfl) (hpl:(backTo pos (starEach es X.env)).any (·.1)=false:=by rfl):PE X (.Call (.Name x p) (e::es) [] pos) (Wj r t):=by
 intro pins s σ H Q I h
 refine wpAny_Call_Name_kw (wB I hg hm hv ?_ hn hdb)
 exact PyProof.Rows.callWith_type1 (lO (ha pos pins s σ H _ I h) λ us s1 ⟨vs,H1,I1,r1,q1⟩=>hc pins s1 σ H1 vs us Q I1 r1 q1) he hpl
end
end L2
namespace HT
open PySem PyProof.Rows
section
open PySem.SeqAt
open PySem.AutoSeq1 (wpAny_loadPart')
open PySem.MeetsSeq PySem.MeetsSeq2 PySem.MeetsSeq3
end
section
variable{prog:Program}{w:World}{A:Around}{E:Value->Shared->Prop}{s:Shared}
def Gn(n d:Nat):Option Int->Nat
 |none=>d
 |some v=>if v<0 then (v+(n:Int)).toNat else min v.toNat n
theorem HK(n d k:Nat):Gn n d (some (k:Int))=min k n:=by
 show (if (k:Int)<0 then ((k:Int)+(n:Int)).toNat else min (k:Int).toNat n)=min k n
 rw[if_neg (by omega),bM]
end
end HT
namespace L2
open PySem PySem.Spec PyProof.Rows
abbrev TO:=St->Hp->(Option Int->Hp->Prop)->Prop
def PO(X:Cx)(e:Option Expr)(t:TO):Prop:=
 ∀(pins:List (Addr×Obj)) (s:Shared) (σ:St) (H:Hp) (Q:Option Int->Hp->Prop),Inv X pins σ H s->t σ H Q ->
  wpAny (model X.prog X.w) X.A (evalPart e X.env) (λ u s'=>∃o H',Inv X pins σ H' s'/\IsPart u o/\Q o H') X.xe s
def LQ(t:TE):TO:=λ σ H Q=>t σ H λ x H1=>∃i,x=.int i/\Q (some i) H1
section
variable{X:Cx}{e:Expr}{te:TE}{lo hi:Option Expr}{tl th:TO}{pos p2:Pos}
theorem zS(h:PE X e te):PO X (some e) (LQ te):=by
 intro pins s σ H Q I hw
 rw[evalPart_some]
 refine lO (h pins s σ H _ I hw) λ u s1 ⟨x,H1,I1,r1,q1⟩=>?_
 obtain⟨i,rfl,q⟩:=q1
 obtain⟨t,rfl⟩:=r1
 exact⟨some i,H1,I1,.int i t,q⟩
def XI(X:Cx)(r:V->Option Int->Option Int->Hp->VK->Prop):Prop:=
 ∀(pins:List (Addr×Obj)) (s:Shared) (σ:St) (H:Hp) (x:V) (v vl vu:Value) (lo hi:Option Int) (sl:Addr) (Q:VK),Inv X pins σ H s->RelV x v->s.heap.IsSliceOf sl vl vu .none->IsPart vl lo->IsPart vu hi->r x lo hi H Q ->
  ∃T id,typeLookup (.type T) "__getitem__" = pure (some (.builtin id))/\s.TypeIs v T/\wpAny (model X.prog X.w) X.A (getItem v (.ref sl)) (EP X pins σ Q) X.xe s
def XJ(r:V->Option Int->Option Int->Hp->VK->Prop)(te:TE)(tl th:TO):TE:=λ σ H Q=>te σ H λ x H1=>tl σ H1 λ l H2=>th σ H2 λ u H3=>r x l u H3 Q
theorem EQ{r:V->Option Int->Option Int->Hp->VK->Prop}(hr:XI X r)(he:PE X e te)(hl:PO X lo tl)(hu:PO X hi th):PE X (.Subscript e (.Slice lo hi none p2) pos) (XJ r te tl th):=by
 intro pins s σ H Q I h
 refine Subscript_ (lO (he pins s σ H _ I h) λ v s1 ⟨x,H1,I1,r1,q1⟩=>?_)
 refine wpAny_Slice (lO (hl pins s1 σ H1 _ I1 q1) λ vl s2 ⟨l,H2,I2,pl,q2⟩=>lO (hu pins s2 σ H2 _ I2 q2) λ vu s3 ⟨u,H3,I3,pu,q3⟩=>?_)
 rw[evalPart_none]
 refine wpAny_pure ?_
 have I4:Inv X pins σ H3 { s3 with heap:=s3.heap.push { cls:=.type "slice",data:=.fields #[vl,vu,.none] } }:=I3.kept (t':=s3.toks) λ b ob q=>Heap.get?_push_of_some _ q
 obtain⟨T,id,hT,ht,hg⟩:=hr pins { s3 with heap:=s3.heap.push { cls:=.type "slice",data:=.fields #[vl,vu,.none] } } σ H3 x v vl vu l u s3.heap.objs.size Q I4 r1 (Heap.IsSliceOf.new ..) pl pu q3
 show wpAny (model X.prog X.w) X.A (subscriptTail e (.Slice lo hi none p2) v (.ref s3.heap.objs.size)) (EP X pins σ Q) X.xe { s3 with heap:=s3.heap.push { cls:=.type "slice",data:=.fields #[vl,vu,.none] } }
 exact tail_any (ops:=[.ref s3.heap.objs.size,v]) ht hT hg (by with_unfolding_all rfl)
def Jt(xs:List V)(lo hi:Option Int):List V:=(xs.drop (HT.Gn xs.length 0 lo)).take (HT.Gn xs.length xs.length hi-HT.Gn xs.length 0 lo)
theorem ER(xs:List V)(lo hi:Option Int):(Jt xs lo hi).length<=xs.length:=by
 unfold Jt
 rw[aU,fK]
 omega
end
end L2
namespace L2
open PySem PySem.Spec PyProof.Rows
def HL(n:Nat)(i:Int):Option Nat:=if 0<=i then (if i<n then some i.toNat else none) else if -(n:Int)<=i then some (i+n).toNat else none
def ES{α:Type}(xs:List α)(i:Int):Option α:=(HL xs.length i).bind λ j=>xs[j]?
theorem HM{n:Nat}{i:Int}{j:Nat}(h:HL n i=some j):seqIndex? i n=some j/\j<n/\-(n:Int)<=i/\i<n:=by
 unfold HL at h
 by_cases h0:0<=i
 ·rw[if_pos h0] at h
  by_cases h1:i<n
  ·rw[if_pos h1] at h;have e:i.toNat=j:=aR h;exact⟨by rw[seqIndex_of h0 h1,e],by omega,by omega,h1⟩
  ·rw[if_neg h1] at h;cases h
 ·rw[if_neg h0] at h
  by_cases h1:-(n:Int)<=i
  ·rw[if_pos h1] at h;have e:(i+n).toNat=j:=aR h;exact⟨by rw[seqIndex_neg (by omega) h1,e],by omega,h1,by omega⟩
  ·rw[if_neg h1] at h;cases h
theorem HN{α:Type}{xs:List α}{i:Int}{v:α}(h:ES xs i=some v):∃j,seqIndex? i xs.length=some j/\xs[j]? = some v/\j<xs.length/\-(xs.length:Int)<=i/\i<xs.length:=by
 unfold ES at h
 cases e:HL xs.length i with
 |none=>rw[e] at h;cases h
 |some j=>
  rw[e] at h;obtain⟨h1,h2,h3,h4⟩:=HM e;exact⟨j,h1,h,h2,h3,h4⟩
theorem sO{α:Type}{xs:List α}{j:Nat}{v:α}(h:xs[j]? = some v):ES xs (j:Int)=some v:=by
 have hj:j<xs.length:=(ao.mp h).1
 have e:HL xs.length (j:Int)=some j:=by
  unfold HL;rw[if_pos (by omega),if_pos (by omega)];simp
 unfold ES;rw[e];exact h
def OV(b:Expr):Prop:=∀o i,subscripted b false o i=operate [o,i] (getItem o i)
def TY(X:Cx)(r:R2):Prop:=
 ∀(value slice:Expr) (pins:List (Addr×Obj)) (s:Shared) (σ:St) (H:Hp) (x y:V) (v u:Value) (Q:VK),Inv X pins σ H s->RelV x v->RelV y u->r x y H Q ->
  subscripted slice false v u=operate [v,u] (getItem v u)->wpAny (model X.prog X.w) X.A (subscriptTail value slice v u) (EP X pins σ Q) X.xe s
def VA(X:Cx)(id:String)(r:V->List V->Hp->VK->Prop):Prop:=
 ∀(pins:List (Addr×Obj)) (s:Shared) (σ:St) (H:Hp) (x:V) (xs:List V) (v:Value) (us:List Value) (Q:VK),Inv X pins σ H s->RelV x v->Vals xs us->r x xs H Q ->
  wpAny (model X.prog X.w) X.A (call (.builtin id) (v::us)) (EP X pins σ Q) X.xe s
section
variable{X:Cx}{a b:Expr}{ta tb:TE}{pos:Pos}
theorem mh{r:R2}(hr:TY X r)(ha:PE X a ta)(hb:PE X b tb)(hs:OV b):PE X (.Subscript a b pos) (Qz r ta tb):=by
 intro pins s σ H Q I h
 exact Subscript_ (Rn ha hb I h λ v u s2 x y H2 I2 rx ry q=>hr a b pins s2 σ H2 x y v u Q I2 rx ry q (hs _ _))
def TZ(K:aj):R2:=λ x y H Q=>∃p xs i v,x=.ref p/\y=.int i/\jz K H p xs/\ES xs i=some v/\Q v H
def T3(K:aj):R2:=λ x y H Q=>∃p xs i v,x=.ref p/\y=.int i/\rq K H p xs/\ES xs i=some v/\Q v H
theorem HP:TY X (TZ X.K):=by
 intro value slice pins s σ H x y v u Q I rx ry h hs
 obtain⟨p,xs,i,z,rfl,rfl,hq,he,q⟩:=h
 cases rx
 obtain⟨t,rfl⟩:=ry
 obtain⟨its,r,pl,hz⟩:=I.list hq
 obtain⟨j,h1,h2,h3,h4,h5⟩:=HN he
 obtain⟨w,ew,rw'⟩:=r.get h2
 have hl:=r.length
 have hn:=Ah
 have fin:EP X pins σ Q w s:=⟨z,H,I,rw',q⟩
 by_cases h0:0<=i
 ·have hj:i.toNat=j:=by
   rw[seqIndex_of h0 h5] at h1;exact aR h1
  exact item_listR pl.isList h0 (by omega) (by rw[hj];simpa using ew) fin hs
 ·have hj:(i+(its.toArray.size:Int)).toNat=j:=by
   rw[seqIndex_neg (by omega) h4] at h1;rw[aC,<-hl];exact aR h1
  exact subscriptTail_builtinR (x:=w) pl.isList.typeIs slot_list_getitem.lookup
   (wpAny_getItem_list_neg (Q:=λ r s'=>r=w/\EP X pins σ Q r s') pl.isList (by omega) (by rw[aC]<;>omega) (by omega) (by rw[hj];simpa using ew) ⟨rfl,fin⟩) hs
theorem Rw:TY X (T3 X.K):=by
 intro value slice pins s σ H x y v u Q I rx ry h hs
 obtain⟨p,xs,i,z,rfl,rfl,hq,he,q⟩:=h
 cases rx
 obtain⟨t,rfl⟩:=ry
 obtain⟨its,r,pl,hz⟩:=I.tuple hq
 obtain⟨j,h1,h2,h3,h4,h5⟩:=HN he
 obtain⟨w,ew,rw'⟩:=r.get h2
 have hl:=r.length
 have hn:=Ah
 have fin:EP X pins σ Q w s:=⟨z,H,I,rw',q⟩
 exact subscriptTail_builtinR (x:=w) pl.typeIs slot_tuple_getitem.lookup
  (getItem_tuple (j:=j) (Q:=λ r s'=>r=w/\EP X pins σ Q r s') pl (by omega) (by omega) (by rw[aC,<-hl];exact h1) (by simpa using ew) ⟨rfl,fin⟩) hs
theorem GG(its:List Value)(n j:Nat)(u:Value):Obj.mapSeq (·.setIfInBounds j u) { cls:=.type "list",data:=.seq its.toArray n } = { cls:=.type "list",data:=.seq (its.set j u).toArray n }:=by
 simp[Obj.mapSeq]
theorem Inv.lst{pins:List (Addr×Obj)}{σ:St}{H:Hp}{s:Shared}{p:Addr}{xs:List V}(I:Inv X pins σ H s)(h:H p=some (.lst xs)) :
  ∃(its:List Value) (n:Nat),Vals xs its/\s.heap.get? p=some { cls:=.type "list",data:=.seq its.toArray n }/\xs.length<=sizeLine:=by
 obtain⟨z,its,n,r,e⟩:=I.hok p _ h
 exact⟨its,n,r,e,z⟩
theorem Inv.Ry{pins:List (Addr×Obj)}{σ:St}{H:Hp}{s:Shared}{p:Addr}{xs ys:List V}{its its':List Value}{n n':Nat}{f:Obj->Obj}(I:Inv X pins σ H s)(h:H p=some (.lst xs))
  (ho:s.heap.get? p=some { cls:=.type "list",data:=.seq its.toArray n }) (hf:f { cls:=.type "list",data:=.seq its.toArray n } = { cls:=.type "list",data:=.seq its'.toArray n' }) (r:Vals ys its') (hz:ys.length<=sizeLine) (t:Nat) :
  Inv X pins σ (upd H p (.lst ys)) { s with heap:=s.heap.update p f,toks:=t }:=by
 have e:(s.heap.update p f).get? p=some { cls:=.type "list",data:=.seq its'.toArray n' }:=by
  rw[Heap.get?_update_self f ho (by rw[hf]<;>rfl),hf]
 refine I.write (x:=p) (e:=p) (by rw[h];trivial) (.inl rfl) (λ b u hb q=>(Heap.get?_update_other _ _ (Ne.symm hb)).trans q) ⟨_,e⟩ ?_
 exact⟨hz,its',n',r,e⟩
def T4:V->V->V->Hp->(Hp->Prop)->Prop:=λ o i v H Q=>∃p xs k j,o=.ref p/\i=.int k/\H p=some (.lst xs)/\HL xs.length k=some j/\Q (upd H p (.lst (xs.set j v)))
theorem set_list:Rh X T4:=by
 intro pins s σ H o i v ov iv u Q I ro ri rv h
 obtain⟨p,xs,k,j,rfl,rfl,hp,hj,q⟩:=h
 cases ro
 obtain⟨t,rfl⟩:=ri
 obtain⟨its,n,r,ho,hz⟩:=I.lst hp
 obtain⟨h1,h2,h3,h4⟩:=HM hj
 have hl:=r.length
 have hn:=Ah
 have I':Inv X pins σ (upd H p (.lst (xs.set j v))) { s with heap:=s.heap.update p (Obj.mapSeq (·.setIfInBounds j u)) }:=
  I.Ry hp ho (GG its n j u) (r.set rv j) (by rw[cy];exact hz) s.toks
 by_cases h0:0<=k
 ·have hk:k.toNat=j:=by
   rw[seqIndex_of h0 h4] at h1;exact aR h1
  exact PySem.W.ki_setAt ho h0 (by omega) (by rw[aC,<-hl];exact h4) (by rw[hk];exact⟨_,I',q⟩)
 ·have hk:(k+(its.toArray.size:Int)).toNat=j:=by
   rw[seqIndex_neg (by omega) h3] at h1;rw[aC,<-hl];exact aR h1
  exact PySem.W.ki_setBack ho (by omega) (by rw[aC,<-hl];exact h3) (by omega) (by rw[hk];exact⟨_,I',q⟩)
theorem DW(lo hi:Option Int)(n:Nat):(sliceBounds lo hi none n).1=((HT.Gn n 0 lo:Nat):Int)/\(sliceBounds lo hi none n).2.1=((HT.Gn n n hi:Nat):Int)/\(sliceBounds lo hi none n).2.2=1:=by
 refine⟨?_,?_,rfl⟩
 ·cases lo with
  |none=>simp[sliceBounds,HT.Gn]
  |some i=>
   simp only[sliceBounds,HT.Gn,Option.getD_none,show (1:Int)>0 by decide,if_true]
   by_cases h:i<0
   ·simp only[h,if_true]<;>omega
   ·simp only[h,if_false]<;>omega
 ·cases hi with
  |none=>simp[sliceBounds,HT.Gn]
  |some i=>
   simp only[sliceBounds,HT.Gn,Option.getD_none,show (1:Int)>0 by decide,if_true]
   by_cases h:i<0
   ·simp only[h,if_true]<;>omega
   ·simp only[h,if_false]<;>omega
theorem Cm(its:List Value)(lo hi:Option Int):slicePick its.toArray lo hi none=((its.drop (HT.Gn its.length 0 lo)).take (HT.Gn its.length its.length hi-HT.Gn its.length 0 lo)).toArray:=by
 obtain⟨h1,h2,h3⟩:=DW lo hi its.toArray.size
 unfold slicePick
 rw[h1,h2,h3]
 simp only[sliceRange_one,pick_run,aC]<;>rfl
def T5(K:aj):V->Option Int->Option Int->Hp->VK->Prop:=λ x lo hi H Q=>∃a xs,x=.ref a/\jz K H a xs/\∀p,H p=none->Q (.ref p) (upd H p (.lst (Jt xs lo hi)))
theorem HQ:XI X (T5 X.K):=by
 intro pins s σ H x v vl vu lo hi sl Q I rx hs pl pu h
 obtain⟨a,xs,rfl,hx,q⟩:=h
 cases rx
 obtain⟨its,r,ht,hz⟩:=I.list hx
 have hlen:=r.length
 refine⟨"list",_,slot_list_getitem.lookup,ht.isList.typeIs,?_⟩
 refine wpAny_getItem_list_slice ht.isList hs pl pu .none (by simp) ?_ (by rw[aC]<;>omega)
 rw[Cm,<-hlen]
 refine⟨.ref s.heap.objs.size,_,I.laid (t':=s.toks) (o:=.lst (Jt xs lo hi)) (λ b ob q=>Heap.get?_push_of_some _ q) (aq _) ?_,rfl,q _ (I.hok.fresh (aq _))⟩
 exact⟨bg (ER xs lo hi) hz,_,0,(r.drop (HT.Gn xs.length 0 lo)).take (HT.Gn xs.length xs.length hi-HT.Gn xs.length 0 lo),Heap.get?_push_size _ rfl⟩
theorem jI:uc X (.builtin "len") (λ xs H Q=>∃p ys,xs=[.ref p]/\(jz X.K H p ys\/rq X.K H p ys)/\Q (.int ys.length) H):=by
 intro pins s σ H xs us Q I r h
 obtain⟨p,ys,rfl,hq,q⟩:=h
 obtain⟨u,rfl,rx⟩:=vals1 r
 cases rx
 have hn:=Ah
 rcases hq with hq | hq
 ·obtain⟨its,r',pl,hz⟩:=I.list hq
  have hlen:=r'.length;exact Calls.call_len_list pl.isList (by simp only[aC]<;>omega) ⟨.int ys.length,H,I.tok _,⟨s.toks+1,by rw[aC,hlen]⟩,q⟩
 ·obtain⟨its,r',pl,hz⟩:=I.tuple hq
  have hlen:=r'.length;exact len_tuple pl (by simp only[aC]<;>omega) ⟨.int ys.length,H,I.tok _,⟨s.toks+1,by rw[aC,hlen]⟩,q⟩
theorem xg:uc X (.type "list") (λ xs H Q=>∃p ys,xs=[.ref p]/\(jz X.K H p ys\/rq X.K H p ys)/\∀l,H l=none->Q (.ref l) (upd H l (.lst ys))):=by
 intro pins s σ H xs us Q I r h
 obtain⟨p,ys,rfl,hq,q⟩:=h
 obtain⟨u,rfl,rx⟩:=vals1 r
 cases rx
 have fin:∀(its:List Value),Vals ys its->ys.length<=sizeLine->∀(h':Heap) (c':Nat),(∀b o',s.heap.get? b=some o'->h'.get? b=some o') ->
   h'.get? s.heap.objs.size=some { cls:=.type "list",dict:=none,data:=.seq its.toArray c',slots:=#[] }->EP X pins σ Q (.ref s.heap.objs.size) { s with heap:=h' }:=λ its r' hz h' c' kp e=>
  ⟨.ref s.heap.objs.size,_,I.laid (t':=s.toks) kp (aq _) (show nV X.prog X.w _ h' _ (.lst ys) from ⟨hz,its,c',r',e⟩),rfl,q _ (I.hok.fresh (aq _))⟩
 rcases hq with hq | hq
 ·obtain⟨its,r',pl,hz⟩:=I.list hq
  have hlen:=r'.length;obtain⟨o,ho,hc,n,hd⟩:=pl.isList;exact call_list_seq p (.inl rfl) ho hc hd (λ h' c' kp e=>fin its r' hz h' c' kp e) (by simp only[aC]<;>omega)
 ·obtain⟨its,r',pl,hz⟩:=I.tuple hq
  have hlen:=r'.length;obtain⟨o,ho,hc,n,hd⟩:=pl;exact call_list_seq p (.inr rfl) ho hc hd (λ h' c' kp e=>fin its r' hz h' c' kp e) (by simp only[aC]<;>omega)
theorem Cn:uc X (.type "tuple") (λ xs H Q=>∃p ys,xs=[.ref p]/\((jz X.K H p ys/\∀l,H l=none->Q (.ref l) (upd H l (.tup ys)))\/(rq X.K H p ys/\Q (.ref p) H))):=by
 intro pins s σ H xs us Q I r h
 obtain⟨p,ys,rfl,h⟩:=h
 obtain⟨u,rfl,rx⟩:=vals1 r
 cases rx
 rcases h with ⟨hq,q⟩ | ⟨hq,q⟩
 ·obtain⟨its,r',pl,hz⟩:=I.list hq
  have hlen:=r'.length;refine call_tuple_list pl.isList (λ h' kp=>?_) (by simp only[aC]<;>omega);have I1:Inv X pins σ H { s with heap:=h' }:=I.kept (t':=s.toks) kp;have I2:Inv X pins σ (upd H h'.objs.size (.tup ys)) { s with heap:=h'.push { cls:=.type "tuple",data:=.seq its.toArray } }:=
   I1.laid (t':=s.toks) (λ b o e=>Heap.get?_push_of_some _ e) (aq _) (show nV X.prog X.w _ _ _ (.tup ys) from ⟨hz,its,r',IsTup.new _ _⟩)
  exact⟨.ref h'.objs.size,_,I2,rfl,q _ (I1.hok.fresh (aq _))⟩
 ·obtain⟨its,r',pl,hz⟩:=I.tuple hq
  exact call_tuple_same pl ⟨.ref p,H,I,rfl,q⟩
def XM(K:aj)(T:String)(x:V)(H:Hp):Prop:=match x with
 |.str _=>T = "str"
 |.int _=>T = "int"
 |.ref p=>(T = "list"/\∃xs,jz K H p xs)\/(T = "tuple"/\∃o,K.lookup p=some o/\o.cls=.type "tuple"/\o.dict=none) \/
   (T = "dict"/\((∃kvs,H p=some (.dK kvs))\/∃kvs,H p=some (.dT kvs)))\/(T = "set"/\∃S n,H p=some (.set S n))
 |_=>False
theorem Rz{pins:List (Addr×Obj)}{σ:St}{H:Hp}{s:Shared}{T:String}{x:V}{v:Value}(I:Inv X pins σ H s)(r:RelV x v)(ty:XM X.K T x H) :
  s.TypeIs v T/\∀a,v=.ref a->∃ob,s.heap.get? a=some ob/\ob.dict=none:=by
 cases x with
 |str z=>
  obtain⟨t,rfl⟩:=r
  cases (show T = "str" from ty);exact⟨typeIs_str s z t,λ _ e=>nomatch e⟩
 |int i=>
  obtain⟨t,rfl⟩:=r
  cases (show T = "int" from ty);exact⟨typeIs_int s i t,λ _ e=>nomatch e⟩
 |ref p=>
  cases r
  rcases ty with ⟨rfl,xs,hq⟩ | ⟨rfl,o,hk,hc,hd⟩ | ⟨rfl,hk⟩ | ⟨rfl,S,n,hk⟩
  ·obtain⟨its,_,pl,_⟩:=I.list hq;refine⟨pl.isList.typeIs,λ a e=>?_⟩
   cases e;obtain⟨o,n,e,c,hd,_⟩:=pl;exact⟨o,e,hd⟩
  ·refine⟨⟨o,I.Gk p o hk,hc⟩,λ a e=>?_⟩
   cases e;exact⟨o,I.Gk _ o hk,hd⟩
  ·have z:∃o,s.heap.get? p=some o/\o.ExactDict:=by
    rcases hk with ⟨kvs,hk⟩ | ⟨kvs,hk⟩
    ·obtain⟨_,_,_,_,o,_,_,e,ex,_⟩:=I.hok p _ hk;exact⟨o,e,ex⟩
    ·obtain⟨_,_,_,_,o,_,_,e,ex,_⟩:=I.hok p _ hk;exact⟨o,e,ex⟩
   obtain⟨o,e,ex⟩:=z;refine⟨⟨o,e,ex.1⟩,λ a e2=>?_⟩
   cases e2;exact⟨o,e,ex.2.1⟩
  ·obtain⟨o,_,_,_,e,ex,_⟩:=I.hok p _ hk;refine⟨⟨o,e,ex.1⟩,λ a e2=>?_⟩
   cases e2;exact⟨o,e,ex.2.1⟩
 |_=>exact False.elim ty
def XN(K:aj)(T:String)(r:V->List V->Hp->VK->Prop)(to:TE)(t:TA):TE:=λ σ H Q=>to σ H λ x H1=>XM K T x H1/\t σ H1 λ xs H2=>r x xs H2 Q
variable{o e:Expr}{es:List Expr}{to:TE}{t:TA}{name:Str}{apos cpos:Pos}{T id:String}{r:V->List V->Hp->VK->Prop}
theorem CZ(pa:PlainAttrs T)(slot:Slot T name id)(hty:typeOf (.builtin id)=pure (.type "method_descriptor"))(hm:VA X id r)(ho:PE X o to)(ha:PA X (e::es) t)
  (hbase:attributeBase o name X.env (eval o X.env)=eval o X.env:=by rfl)
  (hfew:((backTo cpos (starEach (e::es) X.env)).all (λ x=>!x.1)&&(backToKw cpos (keywordEach [] X.env)).all (λ x=>x.1.isSome)
   && decide ((e::es).length+([]:List Keyword).length+(if ([]:List Keyword).isEmpty then 0 else 1)<30))=true:=by rfl)
  (hline:(apos.endLine==cpos.line)=true:=by rfl) (hs:starEach (e::es) X.env=(false,eval e X.env)::starEach es X.env:=by rfl) (hplain:(backTo cpos (starEach es X.env)).any (·.1)=false:=by rfl) :
  PE X (.Call (.Attribute o name apos) (e::es) [] cpos) (XN X.K T r to t):=by
 intro pins s σ H Q I h
 refine wpAny_Call_method_late hbase hfew hline rfl (lO (ho pins s σ H _ I h) λ v s1 ⟨x,H1,I1,r1,ty,q1⟩=>?_)
 obtain⟨h1,h2⟩:=Rz I1 r1 ty
 refine⟨T,id,pa,slot,hty,h1,h2,?_⟩
 have hA:=ha cpos pins s1 σ H1 _ I1 q1
 rw[hs] at hA ⊢
 refine Calls.callWith_builtin (by show (false||(backTo cpos (starEach es X.env)).any (·.1))=false;rw[hplain]<;>rfl) (Calls.evalArgs_plain ?_)
 exact lO hA λ us s2 ⟨vs,H2,I2,r2,q2⟩=>hm pins s2 σ H2 x vs v us Q I2 r1 r2 q2
end
end L2
namespace L2
open PySem PySem.Spec PyProof.Rows
def XO(X:Cx)(id:String)(r:V->List V->Hp->VK->Prop):Prop:=
 ∀(pins:List (Addr×Obj)) (s:Shared) (σ:St) (H:Hp) (x:V) (xs:List V) (v:Value) (us:List Value) (Q:VK),Inv X pins σ H s->RelV x v->Vals xs us->r x xs H Q ->
  wpAny (model X.prog X.w) X.A (call (.builtin id) (v::us)) (EP X pins σ Q) X.xe s
theorem Vals.one:∀{x:V}{us:List Value},Vals [x] us->∃u,us=[u]/\RelV x u
 |_,_,.cons r .nil=>⟨_,rfl,r⟩
theorem Vals.reverse{xs:List V}{us:List Value}(h:Vals xs us):Vals xs.reverse us.reverse:=by
 induction h with
 |nil=>exact .nil
 |cons r t ih=>rw[List.reverse_cons,List.reverse_cons];exact Vals.append ih (.cons r .nil)
theorem Vals.rep{xs:List V}{us:List Value}(h:Vals xs us):∀k:Nat,Vals (aF k xs).flatten (aF k us).flatten
 |0=>.nil
 |k+1=>by
  rw[cJ,cJ,dP,dP];exact Vals.append h (Vals.rep h k)
theorem foldl_rep(its:List Value):∀(k:Nat) (acc:List Value),
  List.foldl (λ x1 x2=>x1++x2) acc.toArray (aF k its.toArray)=(acc++(aF k its).flatten).toArray
 |0,acc=>by simp
 |k+1,acc=>by
  have e:acc.toArray++its.toArray=(acc++its).toArray:=by simp
  have e2:(acc++its)++(aF k its).flatten=acc++(aF (k+1) its).flatten:=by
   rw[cJ,dP,cG]
  rw[<-e2,<-foldl_rep its k (acc++its),<-e,cJ,dG]
section
variable{X:Cx}{pins:List (Addr×Obj)}{σ:St}{H:Hp}{s:Shared}{l b:Addr}{xs ys zs:List V}
theorem Inv.T6{its its':List Value}{n:Nat}{f:Array Value->Array Value}{t':Nat}(I:Inv X pins σ H s)(hH:H l=some (.lst xs))
  (e:s.heap.get? l=some { cls:=.type "list",data:=.seq its.toArray n }) (hf:f its.toArray=its'.toArray) (hv:Vals ys its') (hz:ys.length<=sizeLine) :
  Inv X pins σ (upd H l (.lst ys)) { s with heap:=s.heap.update l (Obj.mapSeq f),toks:=t' }:=by
 have q:=PySem.IsL.update e f
 rw[hf] at q
 refine I.write (x:=l) (e:=l) (by rw[hH];exact trivial) (.inl rfl) (λ b' u hb hu=>(Heap.get?_update_other s.heap (Obj.mapSeq f) (Ne.symm hb)).trans hu) ⟨_,q⟩ ?_
 exact⟨hz,its',_,hv,q⟩
theorem Inv.T7{its:List Value}{t':Nat}(I:Inv X pins σ H s)(hv:Vals ys its)(hz:ys.length<=sizeLine) :
  Inv X pins σ (upd H s.heap.objs.size (.lst ys)) { s with heap:=s.heap.push { cls:=.type "list",data:=.seq its.toArray },toks:=t' }:=
 I.laid (λ _ _ q=>Heap.get?_push_of_some _ q) (aq _) ⟨hz,its,0,hv,Heap.get?_push_size _ rfl⟩
theorem Inv.fresh(I:Inv X pins σ H s):H s.heap.objs.size=none:=I.hok.fresh (aq _)
theorem Inv.Ju(I:Inv X pins σ H s)(hH:H l=some (.lst xs)):xs.length<=sizeLine/\∃(its:List Value) (n:Nat),Vals xs its/\xs.length=its.length/\s.heap.get? l=some { cls:=.type "list",data:=.seq its.toArray n }:=by
 obtain⟨z,its,n,r,e⟩:=I.hok l _ hH
 exact⟨z,its,n,r,r.length,e⟩
theorem ET{n:Nat}(h:n<=sizeLine):Builtin.List.listTooLong n=false:=by
 unfold Builtin.List.listTooLong
 exact decide_eq_false (by omega)
end
section
variable{X:Cx}
def OW:V->List V->Hp->VK->Prop:=λ x vs H Q=>∃l xs y,x=.ref l/\vs=[y]/\H l=some (.lst xs)/\xs.length<sizeLine/\Q .pT (upd H l (.lst (xs++[y])))
theorem vj:XO X "list.append" OW:=by
 intro pins s σ H x vs v us Q I rx rv h
 obtain⟨l,xs,y,rfl,rfl,hH,hz,q⟩:=h
 cases rx
 obtain⟨u,rfl,ru⟩:=rv.one
 obtain⟨z,its,n,r,hl,e⟩:=I.Ju hH
 refine call_meets F.slot_list_append ⟨_,e,rfl⟩ F.entry_list_append (F.args_list_append_2 _ _) (PySem.list_append l its.toArray n u (by rw[aC];omega)) ⟨e,?_⟩
 refine⟨.pT,_,I.T6 (its':=its++[u]) hH e (by simp) (r.append (.cons ru .nil)) ?_,rfl,q⟩
 rw[aE,List.length_singleton]
 omega
def OX:V->List V->Hp->VK->Prop:=λ x vs H Q=>∃l b xs zs,x=.ref l/\vs=[.ref b]/\H l=some (.lst xs)/\H b=some (.lst zs)/\xs.length+zs.length<=sizeLine/\Q .pT (upd H l (.lst (xs++zs)))
theorem Jv:XO X "list.extend" OX:=by
 intro pins s σ H x vs v us Q I rx rv h
 obtain⟨l,b,xs,zs,rfl,rfl,hH,hB,hz,q⟩:=h
 cases rx
 obtain⟨u,rfl,ru⟩:=rv.one
 cases ru
 obtain⟨z,its,n,r,hl,e⟩:=I.Ju hH
 obtain⟨z2,its2,n2,r2,hl2,e2⟩:=I.Ju hB
 have hsz:its.toArray.size+its2.toArray.size<=sizeLine:=by rw[aC,aC];omega
 have LR:¬(!its.toArray.isEmpty&&Builtin.List.listTooLong (its.toArray.size+its2.toArray.size))=true:=by
  rw[ET hsz,ic];exact aM
 refine call_meets F.slot_list_extend ⟨_,e,rfl⟩ F.entry_list_extend (F.args_list_extend_2 _ _)
  (AutoSeq1.list_extend_list_list_0 l its.toArray n b its2.toArray n2 LR (by rw[aC];omega) (by omega)) ⟨e,e2,?_⟩
 refine⟨.pT,_,I.T6 (its':=its++its2) hH e (by simp) (r.append r2) ?_,rfl,q⟩
 rw[aE]
 omega
def Ua:R2:=λ x y H Q=>∃l b xs zs,x=.ref l/\y=.ref b/\H l=some (.lst xs)/\H b=some (.lst zs)/\xs.length+zs.length<=sizeLine/\∀p,H p=none->Q (.ref p) (upd H p (.lst (xs++zs)))
theorem wF:vg X (binaryOp .Add) Ua:=by
 intro pins s σ H x y v u Q I rx ry h
 obtain⟨l,b,xs,zs,rfl,rfl,hH,hB,hz,q⟩:=h
 cases rx
 cases ry
 obtain⟨z,its,n,r,hl,e⟩:=I.Ju hH
 obtain⟨z2,its2,n2,r2,hl2,e2⟩:=I.Ju hB
 refine PySem.P.add_list e e2 ?_ (by rw[aC,aC];omega)
 have ea:its.toArray++its2.toArray=(its++its2).toArray:=by simp
 rw[ea]
 exact⟨.ref _,_,I.T7 (t':=s.toks) (r.append r2) (by rw[aE];omega),rfl,q _ I.fresh⟩
def Wk:R2:=λ x y H Q=>∃l k xs,x=.ref l/\y=.int k/\H l=some (.lst xs)/\-(2^63)<=k/\k<2^63/\xs.length*k.toNat<=sizeLine /\
 ∀p,H p=none->Q (.ref p) (upd H p (.lst (aF k.toNat xs).flatten))
theorem len_rep{α:Type}(xs:List α)(k:Nat):(aF k xs).flatten.length=k*xs.length:=by
 induction k with
 |zero=>simp
 |succ k ih=>rw[cJ,dP,aE,ih,Nat.succ_mul,Nat.add_comm]
theorem RA:vg X (binaryOp .Mult) Wk:=by
 intro pins s σ H x y v u Q I rx ry h
 obtain⟨l,k,xs,rfl,rfl,hH,h1,h2,hz,q⟩:=h
 cases rx
 obtain⟨t,rfl⟩:=ry
 obtain⟨z,its,n,r,hl,e⟩:=I.Ju hH
 have hlen:its.toArray.size*k.toNat<=sizeLine:=by rw[aC,<-hl];exact hz
 have hcap:¬its.toArray.size*k.toNat>(2^63-1)/8:=by
  have:(sizeLine:Nat)<=(2^63-1)/8:=by decide
  omega
 have hfit:¬(!Builtin.List.listFitsIndex k)=true:=by
  rw[fitsIndex_both h1 h2];exact aM
 have LR:¬Builtin.List.listTooLong (its.toArray.size*k.toNat)=true:=by
  rw[ET hlen];exact aM
 have hnew:List.foldl (λ x1 x2=>x1++x2) #[] (aF (if its.toArray.isEmpty=true then 0 else k.toNat) its.toArray)=(aF k.toNat its).flatten.toArray:=by
  have f0:∀m:Nat,List.foldl (λ x1 x2=>x1++x2) #[] (aF m its.toArray)=(aF m its).flatten.toArray:=λ m=>by
   have:=foldl_rep its m [];rw[dH] at this;exact this
  rw[f0]
  cases its with
  |nil=>simp
  |cons a r'=>rw[if_neg (by simp)]
 refine wpAny_binaryOp_repeat_ref (T:="list") (U:="int") (by decide) ⟨_,e,rfl⟩ (λ s'=>typeIs_int s' k t) noFill_list_mul F.fills_int_mul F.slot_int_rmul repeat_list F.slot_int_index.lookup
  (call_meets F.slot_int_rmul (typeIs_int s k t) F.entry_int_rmul (F.args_int_rmul_2 _ _) (int___rmul___int_list k t l its.toArray n)
   ⟨e,rfl,⟨_,e,rfl⟩,call_meets F.slot_list_mul ⟨_,e,rfl⟩ F.entry_list_mul (F.args_list_mul_2 _ _) (AutoListH.list___mul___list_int_3 l its.toArray n k t hfit hcap LR) ⟨e,?_⟩⟩)
 rw[hnew]
 exact⟨.ref _,_,I.T7 (t':=s.toks) (r.rep k.toNat) (by rw[len_rep,gR];exact hz),rfl,q _ I.fresh⟩
end
section
variable{prog:Program}{w:World}{A:Around}{E:Value->Shared->Prop}{s:Shared}
set_option maxRecDepth 100000 in
end
section
variable{X:Cx}
end
end L2
namespace L2
open PySem PySem.Spec PyProof.Rows
theorem Vals.ints:∀{ns:List Int}{us:List Value},Vals (ns.map V.int) us->IntsAre us ns
 |[],us,h=>by
  rw[bO] at h
  cases h;exact IntsAre.nil
 |n::ns,us,h=>by
  rw[aT] at h
  cases h with
  |cons r t=>
   obtain⟨k,rfl⟩:=r;exact IntsAre.cons n k (Vals.ints t)
theorem DX:∀{us:List Value}{ns:List Int},IntsAre us ns->Vals (ns.map V.int) us
 |_,_,.nil=>by rw[bO];exact Paired.nil
 |_,_,.cons n t h=>by rw[aT];exact Paired.cons (show RelV (V.int n) (Value.int n t) from ⟨t,rfl⟩) (DX h)
theorem Vals.XQ:∀{bs:List Bool}{us:List Value},Vals (bs.map V.bl) us->us=bs.map Value.bool
 |[],us,h=>by
  rw[bO] at h
  cases h;rfl
 |b::bs,us,h=>by
  rw[aT] at h
  cases h with
  |cons r t=>
   cases r;rw[Vals.XQ t,aT]
theorem Vals.Jw{a:Addr}{us:List Value}(r:Vals [V.ref a] us):us=[Value.ref a]:=by
 cases r with
 |cons r t=>
  cases t
  cases r;rfl
section
variable{prog:Program}{w:World}{A:Around}{E:Value->Shared->Prop}{s:Shared}{l:Addr}{its:List Value}{ns:List Int}{Q:Value->Shared->Prop}
theorem OY(hh:A.handled=none)(hl:s.heap.IsList l its.toArray)(hi:IntsAre its ns)
  (h:∀h' tk t',(∀b o,s.heap.get? b=some o->h'.get? b=some o)->Q (.int ns.sum t') { s with heap:=h',toks:=tk }):wpAny (model prog w) A (call (.builtin "sum") [.ref l]) Q E s:=by
 obtain⟨xs,e⟩:=hi.allInts.items
 have hn:numsOf (intItems xs).toList=ns:=by rw[<-e];exact hi.numsOf
 rw[nums_intItems] at hn
 rw[e] at hl
 refine PySem.sum_intListG hh hl λ h' tk t' hk=>?_
 have:=h h' tk t' hk
 rw[preSum_eq,ay (by simp),hn];exact this
end
section
variable{X:Cx}
def Wl(K:aj):List V->Hp->VK->Prop:=λ vs H Q=>∃(a:Addr) (ns:List Int),vs=[V.ref a]/\jz K H a (ns.map V.int)/\Q (.int ns.sum) H
theorem LS(hc:X.calm=true):uc X (.builtin "sum") (Wl X.K):=by
 intro pins s σ H vs us Q I r h
 obtain⟨a,ns,rfl,hs,q⟩:=h
 obtain⟨its,rv,hl,_⟩:=I.list hs
 rw[Vals.Jw r]
 exact OY (I.ok.hd hc) hl.isList rv.ints λ h' tk t' hk=>⟨.int _,H,I.kept hk,⟨_,rfl⟩,q⟩
end
section
variable{X:Cx}
end
section
variable{X:Cx}
end
theorem EU{prog:Program}{w:World}{A:Around}{E:Value->Shared->Prop}{s:Shared}{l:Addr}{items:Array Value}{Q:Value->Shared->Prop}(hl:s.heap.IsList l items)
  (h:∀s₂:Shared,s₂ = { s with heap:=s.heap.push { cls:=.type "list_iterator",data:=.fields #[.ref l,.int 0 0] } } ->
   (s₂.heap.IsListIter s.heap.objs.size l 0/\s₂.heap.IsList l items)->l≠s.heap.objs.size->Q (.ref s.heap.objs.size) s₂):wpAny (model prog w) A (pyIter (.ref l)) Q E s:=by
 have hlt:l<s.heap.objs.size:=by obtain⟨_,e,_⟩:=hl;exact Heap.lt_size e
 exact wpAny_pyIter_list hl (h _ rfl ⟨⟨_,Heap.get?_push_size _ rfl,rfl,rfl⟩,hl.push _⟩ (aW hlt))
theorem EV{prog:Program}{w:World}{A:Around}{bs:List Bool}{its:List Value}(e:its=bs.map Value.bool) :
  TruthOf prog w A (λ i v=>its.toArray[i]? = some v) (λ i=>bs.getD i false):=λ i v s Q E hv hq=>by
 have hv':its[i]? = some v:=by simpa using hv
 rw[e,ai] at hv'
 obtain⟨b,hb,rfl⟩:=dm.mp hv'
 have hg:bs.getD i false=b:=by rw[aa,hb]<;>rfl
 have hq':Q (bs.getD i false) s:=hq
 rw[hg] at hq'
 exact wpAny_truthy_bool hq'
theorem any_range:∀bs:List Bool,(aB bs.length).any (λ i=>bs.getD i false)=bs.any id
 |[]=>rfl
 |b::bs=>by
  rw[aJ,fu,List.any_cons,List.any_map,List.any_cons,<-any_range bs]
  all_goals rfl
theorem all_range:∀bs:List Bool,(aB bs.length).all (λ i=>bs.getD i false)=bs.all id
 |[]=>rfl
 |b::bs=>by
  rw[aJ,fu,dM,iQ,dM,<-all_range bs]
  all_goals rfl
section
variable{X:Cx}
def Wm(K:aj):List V->Hp->VK->Prop:=λ vs H Q=>∃(a:Addr) (bs:List Bool),vs=[V.ref a]/\jz K H a (bs.map V.bl)/\Q (.bl (bs.all id)) H
theorem LU(hc:X.calm=true):uc X (.builtin "all") (Wm X.K):=by
 intro pins s σ H vs us Q I r h
 obtain⟨a,bs,rfl,hs,q⟩:=h
 obtain⟨its,rv,hl,_⟩:=I.list hs
 rw[Vals.Jw r]
 have hb:=rv.XQ
 refine call_all_walk (EU hl.isList λ s₂ e2 st hne=>?_)
 subst e2
 refine⟨_,_,_,_,_,_,_,rfl,Walks.list (A:=X.A.in1) (I.ok.hd hc) _ a hne its.toArray,st,EV hb,λ h' tk hk=>?_⟩
 refine⟨.bl _,H,I.kept λ b o eo=>hk b o (λ hmem=>?_) (Heap.get?_push_of_some _ eo),?_,q⟩
 ·rcases aA.mp hmem with e1 | hmem
  ·exact absurd (e1 ▸ Heap.lt_size eo) (bJ _)
  ·cases hmem
 ·show Value.bool _=Value.bool _
  rw[<-all_range,hb,aC,ah]
end
mutual
inductive Dp(K:aj)(H:Hp):V->PyData->Prop
 |pT:Dp K H .pT .none
 |bl (b:Bool):Dp K H (.bl b) (.bool b)
 |int (i:Int):Dp K H (.int i) (.int i)
 |str (x:Str):Dp K H (.str x) (.str x)
 |lst {a:Addr} {xs:List V} {ds:List PyData}:jz K H a xs->An K H xs ds->Dp K H (.ref a) (.list ds)
 |tup {a:Addr} {xs:List V} {ds:List PyData}:rq K H a xs->An K H xs ds->Dp K H (.ref a) (.tuple ds)
inductive An(K:aj)(H:Hp):List V->List PyData->Prop
 |nil:An K H [] []
 |cons {v:V} {vs:List V} {d:PyData} {ds:List PyData}:Dp K H v d->An K H vs ds->An K H (v::vs) (d::ds)
end
section
variable{X:Cx}{pins:List (Addr×Obj)}{σ:St}{H:Hp}{s:Shared}
mutual
theorem Dp.reads(I:Inv X pins σ H s):∀(d:PyData) (v:V) (u:Value),Dp X.K H v d->RelV v u->∃as,Reads s.heap u d as
 |.none,_,_,h,r=>by
  cases h
  cases r;exact⟨_,Reads.none⟩
 |.bool b,_,_,h,r=>by
  cases h
  cases r;exact⟨_,Reads.bool b⟩
 |.int i,_,_,h,r=>by
  cases h;obtain⟨t,rfl⟩:=r;exact⟨_,Reads.int i t⟩
 |.str x,_,_,h,r=>by
  cases h;obtain⟨t,rfl⟩:=r;exact⟨_,Reads.str x t⟩
 |.list ds,_,_,h,r=>by
  cases h with
  |lst hs ha=>
   cases r;obtain⟨its,rv,⟨o,n,ho,hc,_,hd⟩,_⟩:=I.list hs;obtain⟨as,hr⟩:=Dp.readsAll I ds _ its ha rv;exact⟨_,Reads.list ho hc hd hr⟩
 |.tuple ds,_,_,h,r=>by
  cases h with
  |tup hs ha=>
   cases r;obtain⟨its,rv,⟨o,ho,hc,n,hd⟩,_⟩:=I.tuple hs;obtain⟨as,hr⟩:=Dp.readsAll I ds _ its ha rv;exact⟨_,Reads.tuple ho hc hd hr⟩
 |.dict _,_,_,h,_=>by cases h
theorem Dp.readsAll(I:Inv X pins σ H s):∀(ds:List PyData) (vs:List V) (us:List Value),An X.K H vs ds->Vals vs us->∃as,ReadsAll s.heap us ds as
 |[],_,_,h,r=>by
  cases h
  cases r;exact⟨_,ReadsAll.nil⟩
 |d::ds,_,_,h,r=>by
  cases h with
  |cons h1 h2=>
   cases r with
   |cons r1 r2=>
    obtain⟨as,q1⟩:=Dp.reads I d _ _ h1 r1;obtain⟨bs,q2⟩:=Dp.readsAll I ds _ _ h2 r2;exact⟨_,ReadsAll.cons q1 q2⟩
end
end
section
variable{X:Cx}
def Wn(K:aj):R2:=λ x y H Q=>∃d e,Dp K H x d/\Dp K H y e/\SeqAt.shaped d=true/\SeqAt.shaped e=true/\Q (.bl (PyData.eqv d e)) H
theorem LV(hu:X.A.units+64<cLine):vg X (compareOp .Eq) (Wn X.K):=by
 intro pins s σ H x y v u Q I rx ry h
 obtain⟨d,e,hd,he,sd,se,q⟩:=h
 obtain⟨as,r1⟩:=Dp.reads I d x v hd rx
 obtain⟨bs,r2⟩:=Dp.reads I e y u he ry
 exact SeqAt.compareEq_shaped r1 r2 sd se hu ⟨.bl _,H,I,rfl,q⟩
end
end L2
namespace L2
open PySem PySem.Spec PyProof.Rows
abbrev LW(h:Heap)(c:Addr)(v:Option Value):Prop:=h.IsCell c v
def Wo(scope sc:Scope):Scope:=
 { scope with names:=scope.names.map λ(n,k)=>if (k == .free&&sc.kind == .function&&sc.names.lookup n==some .cell) then (n,.cell) else (n,k) }
def jX(cells:List (Str×Addr)):List (Str×NameKind)->List (Str×Addr)->List (Str×Addr)
 |[],acc=>acc
 | (n,k)::r,acc=>if k == .free then jX cells r ((n,(cells.lookup n).getD 0)::acc) else jX cells r acc
theorem xh(env:Env)(f:Str×NameKind->List (Str×Addr)->Sem (ForInStep (List (Str×Addr))))
  (hf:∀n k c,f (n,k) c=if k == .free then (do let a <-cellOf env n;pure (.yield ((n,a)::c))) else pure (.yield c)) :
  ∀(names:List (Str×NameKind)) (acc:List (Str×Addr)),(∀y∈names,y.2=.free->∃c,env.cells.lookup y.1=some c)->forIn names acc f=pure (jX env.cells names acc)
 |[],acc,_=>by rw[List.forIn_nil];rfl
 | (n,k)::r,acc,h=>by
  rw[List.forIn_cons,hf];have ih:=λ acc=>xh env f hf r acc λ y hy=>h y (aL _ hy)
  unfold jX
  by_cases hk:(k==NameKind.free)=true
  ·rw[if_pos hk,if_pos hk];obtain⟨c,hc⟩:=h (n,k) aO (by simpa using hk);have e:cellOf env n=pure c:=by unfold cellOf;rw[hc]
   rw[e];have e2:(env.cells.lookup n).getD 0=c:=by rw[hc];rfl
   rw[e2];exact ih _
  ·rw[if_neg hk,if_neg hk];exact ih _
theorem Ao{scope:Scope}{env:Env}(h:∀y∈scope.names,y.2=.free->∃c,env.cells.lookup y.1=some c):closureFor scope env=pure (jX env.cells scope.names []):=by
 simp only[closureFor]
 rw[xh env _ (λ n k c=>rfl) scope.names [] h]
 rfl
theorem mem_lookup{α:Type}:∀{l:List (Str×α)}{n:Str}{c:α},(n,c)∈l->∃c',l.lookup n=some c'
 | (k,v)::r,n,c,h=>by
  rw[cC]
  cases hb:n==k with
  |true=>exact⟨_,rfl⟩
  |false=>
   rcases aA.mp h with e | h
   ·cases e;simp at hb
   ·exact mem_lookup h
theorem oQ{cells:List (Str×Addr)}:∀{names:List (Str×NameKind)}{acc:List (Str×Addr)}{n:Str}{c:Addr},(n,c)∈jX cells names acc->(n,c)∈acc\/((n,.free)∈names/\c=(cells.lookup n).getD 0)
 |[],_,_,_,h=>.inl h
 | (m,k)::r,acc,n,c,h=>by
  unfold jX at h
  split at h
  ·rename_i hk
   have hk:k=.free:=by simpa using hk
   rcases oQ h with h | ⟨h1,h2⟩
   ·rcases aA.mp h with e | h
    ·cases e;exact .inr ⟨hk ▸ aO,rfl⟩
    ·exact .inl h
   ·exact .inr ⟨aL _ h1,h2⟩
  ·rcases oQ h with h | ⟨h1,h2⟩
   ·exact .inl h
   ·exact .inr ⟨aL _ h1,h2⟩
theorem ue{cells:List (Str×Addr)}:∀{names:List (Str×NameKind)}{acc:List (Str×Addr)}{p:Str×Addr},p∈acc->p∈jX cells names acc
 |[],_,_,h=>h
 | (m,k)::r,acc,p,h=>by
  unfold jX
  split
  ·exact ue (aL _ h)
  ·exact ue h
theorem oR{cells:List (Str×Addr)}:∀{names:List (Str×NameKind)}{acc:List (Str×Addr)}{n:Str},(n,.free)∈names->(n,(cells.lookup n).getD 0)∈jX cells names acc
 | (m,k)::r,acc,n,h=>by
  unfold jX
  rcases aA.mp h with e | h
  ·cases e;exact ue aO
  ·split
   ·exact oR h
   ·exact oR h
theorem rD:∀{names:List (Str×NameKind)}{h:Heap}{acc:List (Str×Addr)}{x:Str}{c:Addr},(x,c)∈cellsFrom h.objs.size names acc ->
  (x,c)∈acc\/((x,.cell)∈names/\h.objs.size<=c/\LW (pushCells h names) c none)
 |[],_,_,_,_,h=>.inl h
 | (n,k)::r,h,acc,x,c,hm=>by
  unfold cellsFrom at hm;unfold pushCells
  split at hm
  ·rename_i hk
   rw[if_pos hk];have hk:k=.cell:=by simpa using hk
   rw[<-Heap.size_push h { cls:=.type "cell",data:=.cell none }] at hm
   rcases rD hm with hm | ⟨h1,h2,h3⟩
   ·rcases aA.mp hm with e | hm
    ·cases e;exact .inr ⟨hk ▸ aO,aq _,_,pushCells_keeps r _ _ _ (Heap.get?_push_size _ rfl),rfl⟩
    ·exact .inl hm
   ·rw[Heap.size_push] at h2;exact .inr ⟨aL _ h1,fy h2,h3⟩
  ·rename_i hk
   rw[if_neg hk]
   rcases rD hm with hm | ⟨h1,h2,h3⟩
   ·exact .inl hm
   ·exact .inr ⟨aL _ h1,h2,h3⟩
theorem vm:∀{names:List (Str×NameKind)}{n:Nat}{acc:List (Str×Addr)}{p:Str×Addr},p∈acc->p∈cellsFrom n names acc
 |[],_,_,_,h=>h
 | (m,k)::r,n,acc,p,h=>by
  unfold cellsFrom
  split
  ·exact vm (aL _ h)
  ·exact vm h
theorem yF:∀{names:List (Str×NameKind)}{n:Nat}{acc:List (Str×Addr)}{x:Str},(x,.cell)∈names->∃c,(x,c)∈cellsFrom n names acc
 | (m,k)::r,n,acc,x,h=>by
  unfold cellsFrom
  rcases aA.mp h with e | h
  ·cases e;exact⟨n,vm aO⟩
  ·split
   ·exact yF h
   ·exact yF h
theorem yG:∀{names:List (Str×NameKind)}{h:Heap}{acc:List (Str×Addr)}{x y:Str}{c:Addr},(∀p∈acc,p.2<h.objs.size)->(∀x y c,(x,c)∈acc->(y,c)∈acc->x=y) ->
  (x,c)∈cellsFrom h.objs.size names acc->(y,c)∈cellsFrom h.objs.size names acc->x=y
 |[],_,_,_,_,_,_,hi,h1,h2=>hi _ _ _ h1 h2
 | (n,k)::r,h,acc,x,y,c,hl,hi,h1,h2=>by
  unfold cellsFrom at h1 h2
  split at h1
  ·rename_i hk
   rw[if_pos hk] at h2;rw[<-Heap.size_push h { cls:=.type "cell",data:=.cell none }] at h1 h2;refine yG (h:=h.push _) (λ p hp=>?_) (λ x y c a b=>?_) h1 h2
   ·rw[Heap.size_push]
    rcases aA.mp hp with rfl | hp
    ·exact aD _
    ·exact bZ (hl p hp)
   ·rcases aA.mp a with e | a<;>rcases aA.mp b with e' | b
    ·cases e;cases e';rfl
    ·cases e;exact absurd (hl _ b) (bJ _)
    ·cases e';exact absurd (hl _ a) (bJ _)
    ·exact hi _ _ _ a b
  ·rename_i hk
   rw[if_neg hk] at h2;exact yG hl hi h1 h2
theorem EW{M:Model}{A:Around}{E:Value->Shared->Prop}{s:Shared}{scope:Scope}{globals:Addr}{closure:List (Str×Addr)}{qual:Str}{func:Option Addr}{code:Value}{around:Env}{builtins:Addr}{Q:Env->Shared->Prop}
  (h:Q (newEnv scope s.heap.objs.size globals (cellsFrom (s.heap.objs.size+1) scope.names closure) qual func code (some around) builtins)
   { s with heap:=pushCells (s.heap.push { cls:=.type "dict",data:=.dict #[] }) scope.names }) :
  wpAny M A (newFunctionEnv scope globals closure [] qual func code (some around) builtins) Q E s:=by
 simp only[newFunctionEnv,Option.isSome_some,if_true]
 refine wpAny_bind (wpAny_alloc ?_)
 refine wpAny_bind (wpAny_layCells _ (λ n k c=>rfl) scope.names closure _ _ ?_)
 rw[show ({ s with heap:=s.heap.push { cls:=.type "dict",data:=.dict #[] } }:Shared).heap.objs.size=s.heap.objs.size+1 from Heap.size_push ..]
 rw[List.forIn_nil]
 exact wpAny_bind (wpAny_pure (wpAny_pure h))
theorem uf{sc:Scope}:∀{names:List (Str×NameKind)}{x:Str}{k:NameKind},
  (names.map λ(n,k)=>if (k==NameKind.free&&sc.kind == .function&&sc.names.lookup n==some .cell) then (n,NameKind.cell) else (n,k)).lookup x=some k ->
  ∃k',names.lookup x=some k'/\(k=k'\/(k'=.free/\k=.cell))
 |[],_,_,h=>by simp at h
 | (n,k₀)::r,x,k,h=>by
  have ih:=@uf sc r x k;have h':dW x ((if (k₀==NameKind.free&&sc.kind == .function&&sc.names.lookup n==some .cell)=true then (n,NameKind.cell) else (n,k₀))::(r.map _))=some k:=h
  cases hx:x==n with
  |true=>
   simp only[cC,hx]
   by_cases hc:(k₀==NameKind.free&&sc.kind == .function&&sc.names.lookup n==some .cell)=true
   ·rw[if_pos hc] at h';simp only[cC,hx] at h'
    cases h';simp only[aQ,beq_iff_eq] at hc
    exact⟨k₀,rfl,.inr ⟨hc.1.1,rfl⟩⟩
   ·rw[if_neg hc] at h';simp only[cC,hx] at h'
    cases h';exact⟨_,rfl,.inl rfl⟩
  |false=>
   simp only[cC,hx]
   by_cases hc:(k₀==NameKind.free&&sc.kind == .function&&sc.names.lookup n==some .cell)=true
   ·rw[if_pos hc] at h';simp only[cC,hx] at h'
    exact ih h'
   ·rw[if_neg hc] at h';simp only[cC,hx] at h'
    exact ih h'
structure EX(N:List Str)(sc scope:Scope)(own:List (Str×Nat)):Prop where
 kind:scope.kind=.function
 Jx:∀y∈scope.names,scope.names.lookup y.1=some y.2
 ix:∀p∈own,N[p.2]? = some p.1
 free:∀y∈scope.names,y.2=.free->sc.names.lookup y.1=some .cell\/sc.names.lookup y.1=some .free
 own:∀y∈scope.names,y.2=.local\/y.2=.cell->y.1∈own.map (·.1)\/y.1 ∉ N
def wipe(σ:St):List Nat->St
 |[]=>σ
 |v::vs=>(wipe σ vs).set v none
theorem ug(σ:St):∀vs:List Nat,(wipe σ vs).length = σ.length
 |[]=>rfl
 |v::vs=>by unfold wipe;rw[cy,ug σ vs]
theorem yH{σ:St}{i:Nat}{x:V}:∀{vs:List Nat},(wipe σ vs)[i]? = some (some x)->σ[i]? = some (some x)/\i ∉ vs
 |[],h=>⟨h,by simp⟩
 |v::vs,h=>by
  unfold wipe at h
  by_cases hi:v=i
  ·subst hi
   by_cases hv:v<(wipe σ vs).length
   ·rw[fk hv] at h;cases h
   ·rw[cB (by simpa using hv)] at h;cases h
  ·rw[fT hi] at h;obtain⟨h1,h2⟩:=yH h;exact⟨h1,by simp only[aA,not_or];exact⟨λ e=>hi e.symm,h2⟩⟩
abbrev Cx.Co(X:Cx)(s:Shared)(H:Hp)(scope:Scope)(cenv:Env)(fp:List Addr):Cx:={ X with Ci:=s,Qu:=H,env:=cenv,outer:=X.stack,ex:=fp,fn:=λ x=>scope.names.lookup x==some .cell,pn:=[],xe:=λ _ _=>False }
section
variable{X:Cx}{pins:List (Addr×Obj)}{σ:St}{H:Hp}{s:Shared}
theorem EY{scope:Scope}{own:List (Str×Nat)}{fp:List Addr}(I:Inv X pins σ H s)(ok:EX X.N X.env.scope scope own)(hN:X.N.Nodup)(hfp:∀b∈fp,zH X pins H b/\b<s.heap.objs.size) :
  Inv (X.Co s H scope (compEnvC scope (cellsFrom (s.heap.objs.size+1) scope.names (jX X.env.cells scope.names [])) s.heap.objs.size X.env) fp) [] (wipe σ (own.map (·.2))) H { s with heap:=pushCells (s.heap.push { cls:=.type "dict",data:=.dict #[] }) scope.names }:=by
 have hfree:∀y∈scope.names,y.2=.free->∃c,X.env.cells.lookup y.1=some c:=λ y hy e=>by
  rcases ok.free y hy e with k | k
  ·exact I.ok.has _ (.inl k)
  ·exact I.ok.has _ (.inr k)
 generalize EZ:compEnvC scope (cellsFrom (s.heap.objs.size+1) scope.names (jX X.env.cells scope.names [])) s.heap.objs.size X.env=cenv
 have kp:∀b o,s.heap.get? b=some o->(pushCells (s.heap.push { cls:=.type "dict",data:=.dict #[] }) scope.names).get? b=some o:=λ b o e=>pushCells_keeps _ _ _ _ (Heap.get?_push_of_some _ e)
 have hL:cenv.locals=s.heap.objs.size:=by rw[<-EZ];rfl
 have hcl:cenv.cells=cellsFrom (s.heap.objs.size+1) scope.names (jX X.env.cells scope.names []):=by rw[<-EZ];rfl
 have hsc:cenv.scope=Wo scope X.env.scope:=by rw[<-EZ];rfl
 rw[<-Heap.size_push s.heap { cls:=.type "dict",data:=.dict #[] }] at hcl
 have cm:∀{y c},(y,c)∈jX X.env.cells scope.names []->X.env.cells.lookup y=some c/\c<s.heap.objs.size:=λ {y c} hm=>by
  rcases oQ hm with hm | ⟨h1,rfl⟩
  ·cases hm
  ·obtain⟨c,hc⟩:=hfree _ h1 rfl;rw[hc];obtain⟨w,z⟩:=I.cell _ _ hc;exact⟨rfl,z.lt⟩
 have mem:∀{y c},cenv.cells.lookup y=some c->(X.env.cells.lookup y=some c/\c<s.heap.objs.size)\/(s.heap.objs.size+1<=c/\LW (pushCells (s.heap.push { cls:=.type "dict",data:=.dict #[] }) scope.names) c none):=λ {y c} e=>by
  rw[hcl] at e
  rcases rD (aP e) with hm | ⟨_,h2,h3⟩
  ·exact .inl (cm hm)
  ·rw[Heap.size_push] at h2;exact .inr ⟨h2,h3⟩
 have look:∀{y},scope.names.lookup y=some .free->∃c,cenv.cells.lookup y=some c/\X.env.cells.lookup y=some c:=λ {y} hl=>by
  have hy:(y,NameKind.free)∈scope.names:=aP hl;obtain⟨c',e'⟩:=mem_lookup (vm (names:=scope.names) (n:=(s.heap.push { cls:=.type "dict",data:=.dict #[] }).objs.size) (oR (cells:=X.env.cells) (acc:=[]) hy));rw[<-hcl] at e';refine⟨c',e',?_⟩;rw[hcl] at e'
  rcases rD (aP e') with hm | ⟨h1,_,_⟩
  ·exact (cm hm).1
  ·have:=ok.Jx _ h1;rw[hl] at this;cases this
 have Zc:(X.Co s H scope cenv fp).Ok:=by
  refine⟨I.ok.mod,by show cenv.scope.kind=_;rw[hsc];exact ok.kind,by show cenv.globals=_;rw[<-EZ];exact I.ok.glob,by show cenv.builtins=_;rw[<-EZ];exact I.ok.blt,by show s.heap.objs.size<=cenv.locals;rw[hL];exact aq _,
   λ y z c e1 e2=>?_,λ y hy=>?_,λ y c z e=>?_,I.ok.hd,I.ok.frames,.inl rfl,λ b hb=>⟨?_,λ y c e z=>?_⟩,I.bs,bg I.ok.Oj I.sz,λ b o e hb=>?_,λ b hb z=>?_,I.stack,I.zR⟩
  ·have e1:cenv.cells.lookup y=some c:=e1;have e2:cenv.cells.lookup z=some c:=e2;rw[hcl] at e1 e2;refine yG (λ p hp=>?_) (λ y z c a b=>I.ok.inj y z c (cm a).1 (cm b).1) (aP e1) (aP e2);rw[Heap.size_push];exact bZ (cm (y:=p.1) (c:=p.2) hp).2
  ·show ∃c,cenv.cells.lookup y=some c;have key:∀k,cenv.kindOf y=some k->(k=.cell\/k=.free)->∃c,cenv.cells.lookup y=some c:=λ k hk hk'=>by
    unfold Env.kindOf at hk;rw[hsc] at hk;obtain⟨k',e,r⟩:=uf hk;have:k'=.cell\/k'=.free:=by
     rcases r with rfl | ⟨rfl,_⟩
     ·exact hk'
     ·exact .inr rfl
    rcases this with rfl | rfl
    ·obtain⟨c,hm⟩:=yF (n:=(s.heap.push { cls:=.type "dict",data:=.dict #[] }).objs.size) (acc:=jX X.env.cells scope.names []) (aP e);obtain⟨c',e'⟩:=mem_lookup hm;exact⟨c',by rw[hcl];exact e'⟩
    ·obtain⟨c,h1,_⟩:=look e;exact⟨c,h1⟩
   rcases hy with hy | hy
   ·exact key _ hy (.inl rfl)
   ·exact key _ hy (.inr rfl)
  ·have z:(scope.names.lookup y==some NameKind.cell)=true:=z;have z:scope.names.lookup y=some .cell:=by simpa using z
   have e:cenv.cells.lookup y=some c:=e;rw[hcl] at e
   rcases rD (aP e) with hm | ⟨_,h2,_⟩
   ·rcases oQ hm with hm | ⟨h1,_⟩
    ·cases hm
    ·have q:=ok.Jx _ h1;rw[z] at q;cases q
   ·rw[Heap.size_push] at h2;exact fy h2
  ·show b≠cenv.locals;rw[hL];exact aW (hfp b hb).2
  ·have e:cenv.cells.lookup y=some c:=e
   rcases mem e with ⟨h1,_⟩ | ⟨h1,_⟩
   ·exact (hfp b hb).1.2.2.2.2.1 y c h1 z
   ·have h2:s.heap.objs.size+1<=b:=by rw[<-z];exact h1
    exact absurd (aH (hfp b hb).2 (fy h2)) (bJ _)
  ·rcases (hfp b hb).1.2.2.2.1 with z | z
   ·exact I.ok.Ow b o e z
   ·exact absurd (aH (Heap.lt_size e) (bg I.ok.Oj z)) (bJ _)
  ·rcases aA.mp (I.Aa b z) with z | z
   ·exact (hfp b hb).1.2.1 z
   ·exact (hfp b hb).1.2.2.1 z
 refine⟨Zc,rfl,I.bare,Un.kept kp,⟨λ _=>none,?_,λ i y av e1 e2 e3=>?_⟩,λ y c e=>?_,?_,λ y c e=>?_,λ p hp=>?_,I.hok.kept kp,by rw[ug];exact I.len⟩
 ·show Heap.Ns _ cenv.locals _
  rw[hL];exact Heap.Ns.keeps (Heap.Ns.new ..) λ b o e=>pushCells_keeps _ _ _ _ e
 ·obtain⟨e2,hne⟩:=yH e2
  have hfr:scope.names.lookup y=some .free/\(cenv.kindOf y=some .cell\/cenv.kindOf y=some .free):=by
   have key:∀k,cenv.scope.names.lookup y=some k->k=.local\/k=.cell\/k=.free->scope.names.lookup y=some .free/\(cenv.kindOf y=some .cell\/cenv.kindOf y=some .free):=λ k hk hk'=>by
    have hk0:=hk;rw[hsc] at hk;obtain⟨k',e,r⟩:=uf hk;have no:¬(k'=.local\/k'=.cell):=λ hh=>by
     rcases ok.own _ (aP e) hh with e' | e'
     ·obtain⟨p,hp,Zd⟩:=az.mp e';have e3:=ok.ix p hp;have:p.1=y:=Zd;rw[this] at e3;exact hne (az.mpr ⟨p,hp,Ab hN e3 e1⟩)
     ·exact e' (au e1)
    rcases r with rfl | ⟨rfl,rfl⟩
    ·rcases hk' with rfl | rfl | rfl
     ·exact absurd (.inl rfl) no
     ·exact absurd (.inr rfl) no
     ·exact⟨e,.inr hk0⟩
    ·exact⟨e,.inl hk0⟩
   have e3:Ou cenv.scope y:=e3
   rcases e3 with e3 | e3 | e3
   ·exact key _ e3 (.inl rfl)
   ·exact key _ e3 (.inr (.inl rfl))
   ·exact key _ e3 (.inr (.inr rfl))
  obtain⟨m,hn,hl⟩:=I.loc;have Wq:Ou X.env.scope y:=(ok.free _ (aP hfr.1) rfl).elim (λ k=>.inr (.inl k)) (λ k=>.inr (.inr k));obtain⟨w,r,q⟩:=hl i y av e1 e2 Wq;refine⟨w,r,.inr ⟨hfr.2,?_⟩⟩;obtain⟨c,h1,h2⟩:=look hfr.1
  rcases q with ⟨k,_⟩ | ⟨_,c',e',z⟩
  ·have k:X.env.scope.names.lookup y=some .local:=k
   rcases ok.free _ (aP hfr.1) rfl with k' | k'<;>rw[show X.env.scope.names.lookup y=_ from k'] at k<;>cases k
  ·rw[h2] at e';cases e';exact⟨c,h1,z.keeps kp⟩
 ·have e:cenv.cells.lookup y=some c:=e
  rcases mem e with ⟨h1,_⟩ | ⟨_,z⟩
  ·obtain⟨w,z⟩:=I.cell y c h1;exact⟨w,z.keeps kp⟩
  ·exact⟨_,z⟩
 ·show H cenv.locals=none
  rw[hL];exact I.hok.fresh (aq _)
 ·have e:cenv.cells.lookup y=some c:=e
  rcases mem e with ⟨h1,_⟩ | ⟨h1,_⟩
  ·exact I.tM y c h1
  ·exact I.hok.fresh (fy h1)
 ·exact absurd (show p∈([]:List (Addr×Obj))++[] from hp) (by simp)
theorem RB{E:Value->Shared->Prop}{D:Addr}{xs:List V}{y:V}{v:Value}{Q:Value->Shared->Prop}(I:Inv X pins σ H s)(hD:H D=some (.lst xs))(hz:xs.length<sizeLine)(r:RelV y v)
  (h:∀s',Inv X pins σ (upd H D (.lst (xs++[y]))) s'->Q .none s'):wpAny (model X.prog X.w) X.A (call (.builtin "list.append") [.ref D,v]) Q E s:=by
 obtain⟨hz',its,n,ri,e⟩:=I.hok D _ hD
 have hl:=ri.length
 refine append_at (hsz:=by rw[aC];omega) e λ h' sb ho'=>?_
 refine h { s with heap:=h' } (I.write (t':=s.toks) (by rw[hD];trivial) (.inl rfl) (λ b u hb q=>(sb.2 b hb).trans q) ⟨_,ho'⟩ ⟨by rw[aE];exact hz,its++[v],n+1,ri.append (.cons r .nil),?_⟩)
 rw[ho']
 simp
def VB(X:Cx)(ifs:List Expr)(t:TT):Prop:=
 ∀(pins:List (Addr×Obj)) (s:Shared) (σ:St) (H:Hp) (Q:Bool->Hp->Prop),Inv X pins σ H s->t σ H Q ->
  wpAny (model X.prog X.w) X.A (forIn ifs true λ c r=>if r=true then do let ok <-isTrue c X.env (eval c X.env);pure (ForInStep.yield ok) else pure (ForInStep.yield r)) (TP X pins σ Q) X.xe s
def Wr:TT:=λ _ H Q=>Q true H
theorem kj:VB X [] Wr:=λ _ _ _ H _ I h=>wpAny_tests_nil ⟨H,I,h⟩
end
theorem Jy{α:Type}{t:Sem α}{Q Q':α->Shared->Prop}{M:Model}{A:Around}{E:Value->Shared->Prop}{s:Shared}(h:wpAny M A t Q (λ _ _=>False) s)(hQ:∀a s,Q a s->Q' a s):wpAny M A t Q' E s:=wpAny_mono h hQ λ _ _ z=>False.elim z
theorem DY{prog:Program}{w:World}{A:Around}{R:Result->Shared->Prop}{s:Shared}{elt target iter:Expr}{ifs:List Expr}{scope:Scope}{pos:Pos}{it acc:Value}{env:Env}(I:Nat->Shared->Prop)
  (turn:∀n s,I n s->wpAny (model prog w) A (pyNext it) (λ r s₁=>match r with
   |none=>R (.ok .next) s₁
   |some v=>wpAny (model prog w) A (letOwnedTupleGo target it v) (λ _ s₁'=>wpAny (model prog w) A (assign target env v) (λ _ s₂=>
     wpAny (model prog w) A (forIn ifs true λ c r=>if r=true then do let ok <-isTrue c env (eval c env);pure (ForInStep.yield ok) else pure (ForInStep.yield r)) (λ ok s₃=>
      if ok=true then wpAny (model prog w) A (eval elt env) (λ x s₄=>
       wpAny (model prog w) A (call (.builtin "list.append") [acc,x]) (λ _ s₅=>∃m,m<n/\I m s₅) (notedBy (model prog w) A env λ e s'=>R (.error e) s') s₄) (notedBy (model prog w) A env λ e s'=>R (.error e) s') s₃
      else ∃m,m<n/\I m s₃) (notedBy (model prog w) A env λ e s'=>R (.error e) s') s₂) (notedBy (model prog w) A env λ e s'=>R (.error e) s') s₁') (notedBy (model prog w) A env λ e s'=>R (.error e) s') s₁) (notedBy (model prog w) A env λ e s'=>R (.error e) s') s)
  (n:Nat) (h:I n s) :
  codeAny (model prog w) A (.compLoop (.ListComp elt [⟨target,iter,ifs,0⟩] scope pos) 0 it acc env) R s:=by
 refine codeAny_loop rfl I (λ n s hI=>?_) n h
 show wpAny _ A ((compTurn (.ListComp elt [⟨target,iter,ifs,0⟩] scope pos) 0 it acc env).onRaise (λ x=>do noteFrame x env;theTreesLotGoes x)) _ _ s
 refine wpAny_noted ?_
 rw[compTurn_list]
 refine wpAny_bind (wpAny_standAt (wpAny_bind (wpAny_mono (turn n s hI) (λ r s₁ h₁=>?_) λ _ _ h'=>h')))
 cases r with
 |none=>exact wpAny_pure h₁
 |some v=>
  refine wpAny_bind (wpAny_mono h₁ (λ _ s₁' h₁'=>?_) λ _ _ h'=>h');refine wpAny_bind (wpAny_mono h₁' (λ _ s₂ h₂=>wpAny_bind (wpAny_mono h₂ (λ ok s₃ h₃=>?_) λ _ _ h'=>h')) λ _ _ h'=>h')
  cases ok with
  |false=>exact wpAny_pure ⟨rfl,h₃⟩
  |true=>
   exact wpAny_bind (wpAny_bind (wpAny_mono h₃ (λ x s₄ h₄=>wpAny_bind (wpAny_mono h₄ (λ _ s₅ h₅=>wpAny_pure (wpAny_pure ⟨rfl,h₅⟩)) λ _ _ h'=>h')) λ _ _ h'=>h'))
section
variable{X:Cx}
def VC(wi:TI)(g:TG)(tt:TT)(te:TE)(vs:List Nat):TE:=λ σ H Q=>wi σ H λ J H1=>∀D,H1 D=none->∃W:Nat->Nat->Hp->Prop,(∃m,W 0 m (upd H1 D (.lst [])))/\∀i m H,W i m H ->
 (J.stop i H/\Q (.ref D) H)\/(J.go i H/\∃Nx:Hp->Prop,(∀H',Nx H'->∃m',m'<m/\W (i+1) m' H')/\∀x H',J.Ly i H x H'->g x (wipe σ vs) H' λ σ2 H2=>wipe σ2 vs=wipe σ vs/\tt σ2 H2 λ b H3=>
  if b=true then te σ2 H3 λ y H4=>∃acc,H4 D=some (.lst acc)/\acc.length<sizeLine/\Nx (upd H4 D (.lst (acc++[y]))) else Nx H3)
theorem HR{pins:List (Addr×Obj)}{s:Shared}{σ:St}{H:Hp}{Q:VK}{elt tg iter:Expr}{ifs:List Expr}{scope:Scope}{own:List (Str×Nat)}{pos pos':Pos}{wi:TI}{g:TG}{tt:TT}{te:TE}{use:Option (Value->Sem Unit)}{Qf:Value->Shared->Prop}
  (hc:X.calm=true) (hN:X.N.Nodup) (I:Inv X pins σ H s) (hi:PI X tg iter wi) (ok:EX X.N X.env.scope scope own)
  (hg:∀(s:Shared) (H:Hp) (C:Addr) (cl:List (Str×Addr)) (fp:List Addr),PG (X.Co s H scope (compEnvC scope cl C X.env) fp) tg g) (ht:∀(s:Shared) (H:Hp) (C:Addr) (cl:List (Str×Addr)) (fp:List Addr),VB (X.Co s H scope (compEnvC scope cl C X.env) fp) ifs tt)
  (he:∀(s:Shared) (H:Hp) (C:Addr) (cl:List (Str×Addr)) (fp:List Addr),PE (X.Co s H scope (compEnvC scope cl C X.env) fp) elt te) (hs:∀x,foldedSetIterable iter X.env x=pure x)
  (h:VC wi g tt te (own.map (·.2)) σ H Q)
  (hRR:∀D C s' m H',Inv X pins σ H' s'->Q (.ref D) H'->s'.heap.Ns C m->zH X pins H' C->compPost (model X.prog X.w) X.A X.xe use Qf (.ref D) C (.ok .next) s') :
  wpAny (model X.prog X.w) X.A (comprehension (.ListComp elt [⟨tg,iter,ifs,0⟩] scope pos) scope X.env pos' (newList []) false (eval iter X.env) use) Qf X.xe s:=by
 have hfree:∀y∈scope.names,y.2=.free->∃c,X.env.cells.lookup y.1=some c:=λ y hy e=>by
  rcases ok.free y hy e with k | k
  ·exact I.ok.has _ (.inl k)
  ·exact I.ok.has _ (.inr k)
 refine wpAny_comprehension_free (use:=use) rfl hs (Ao hfree) ok.kind (λ y hy e=>by rw[ok.Jx y hy,e])
  (lO (hi pins s σ H _ I h) λ xv s1 hx=>lO hx λ itv s2 h2=>?_)
 obtain⟨it,fp,tn,J,H2,e,I2,T,st2,f2,q⟩:=h2
 subst e
 refine wpAny_newObj_type (EW ?_) (by show 0<=sizeLine;decide)
 generalize hD:s2.heap.objs.size=D
 have Ze:H2 D=none:=I2.hok.fresh (gQ hD)
 obtain⟨W,⟨m0,w0⟩,turn⟩:=q D Ze
 generalize XR:({ s2 with heap:=s2.heap.push { cls:=.type "list",data:=.seq ([]:List Value).toArray } }:Shared)=s3
 have I3:Inv X pins σ (upd H2 D (.lst [])) s3:=by
  rw[<-XR];refine I2.laid (t':=s2.toks) (λ b o e=>Heap.get?_push_of_some _ e) (gQ hD) ⟨bf _,[],0,.nil,?_⟩;rw[<-hD];exact Heap.get?_push_size _ rfl
 have h3:s3.heap=s2.heap.push { cls:=.type "list",data:=.seq ([]:List Value).toArray }:=by rw[<-XR]
 have sz:∀b∈fp,b<s2.heap.objs.size:=λ b hb=>by
  obtain⟨o,e,_⟩:=T.obj _ _ st2 b hb;exact Heap.lt_size e
 have f3:∀b∈fp,zH X pins (upd H2 D (.lst [])) b/\b<s3.heap.objs.size:=λ b hb=>by
  have hlt:=sz b hb;refine⟨⟨?_,(f2 b hb).2⟩,by rw[h3,Heap.size_push];exact bZ hlt⟩;rw[jd (by rw[<-hD];exact aW hlt)];exact (f2 b hb).1
 have st3:tn 0 s3.heap:=T.keep _ _ _ st2 λ b _ o e=>by rw[h3];exact Heap.get?_push_of_some _ e
 have I4:=EY I3 ok hN f3
 have pg:=hg s3 (upd H2 D (.lst [])) s3.heap.objs.size (cellsFrom (s3.heap.objs.size+1) scope.names (jX X.env.cells scope.names [])) fp
 have pt:=ht s3 (upd H2 D (.lst [])) s3.heap.objs.size (cellsFrom (s3.heap.objs.size+1) scope.names (jX X.env.cells scope.names [])) fp
 have pe:=he s3 (upd H2 D (.lst [])) s3.heap.objs.size (cellsFrom (s3.heap.objs.size+1) scope.names (jX X.env.cells scope.names [])) fp
 show codeAny _ _ (.compStart (.ListComp elt [⟨tg,iter,ifs,0⟩] scope pos) 0 (.ref it) (.ref D) (compEnvC scope (cellsFrom (s3.heap.objs.size+1) scope.names (jX X.env.cells scope.names [])) s3.heap.objs.size X.env)) (compPost (model X.prog X.w) X.A X.xe use Qf (.ref D) s3.heap.objs.size) { s3 with heap:=pushCells (s3.heap.push { cls:=.type "dict",data:=.dict #[] }) scope.names }
 have XS:∀b∈fp,(upd H2 D (.lst [])) b=none:=λ b hb=>(f3 b hb).1.1
 generalize hce:compEnvC scope (cellsFrom (s3.heap.objs.size+1) scope.names (jX X.env.cells scope.names [])) s3.heap.objs.size X.env=ce at I4 pg pt pe ⊢
 have cL:ce.locals=s3.heap.objs.size:=by subst hce;rfl
 generalize hH3:upd H2 D (.lst [])=H3 at I3 I4 pg pt pe w0 XS f3
 generalize Zf:({ s3 with heap:=pushCells (s3.heap.push { cls:=.type "dict",data:=.dict #[] }) scope.names }:Shared)=s4 at I4 ⊢
 have XT:tn 0 s4.heap:=T.keep _ _ _ st3 λ b _ o e=>by rw[<-Zf];exact pushCells_keeps _ _ _ _ (Heap.get?_push_of_some _ e)
 have Gx:∀{σ':St} {H':Hp} {s':Shared},Inv (X.Co s3 H3 scope ce fp) [] σ' H' s'->(∀b∈fp,H' b=none)->∀b∈fp,zH (X.Co s3 H3 scope ce fp) [] H' b:=λ {σ' H' s'} I' hn b hb=>
  ⟨hn b hb,(I'.ok.VW b hb).1,I'.ok.Ox b hb,.inl hb,λ x c e=>(I'.ok.VW b hb).2 x c e,λ p hp=>absurd (show p∈([]:List (Addr×Obj))++[] from hp) (by simp)⟩
 have loop:codeAny (model X.prog X.w) X.A (.compLoop (.ListComp elt [⟨tg,iter,ifs,0⟩] scope pos) 0 (.ref it) (.ref D) ce) (compPost (model X.prog X.w) X.A X.xe use Qf (.ref D) s3.heap.objs.size) s4:=by
  refine DY (λ n s'=>∃i H',Inv (X.Co s3 H3 scope ce fp) [] (wipe σ (own.map (·.2))) H' s'/\tn i s'.heap/\(∀b∈fp,H' b=none)/\W i n H') ?_ m0 ⟨0,H3,I4,XT,XS,w0⟩;rintro n s5 ⟨i,H5,I5,S1,n5,w5⟩
  rcases turn i n H5 w5 with ⟨stop,qq⟩ | ⟨go,Nx,Zg,step⟩
  ·have td:=T.done (X.Co s3 H3 scope ce fp) rfl rfl rfl hc i [] s5 _ H5 (λ _ _=>False) I5 (Gx I5 n5) S1 stop;refine Jy td λ r s6 ⟨hr,I6⟩=>?_
   subst hr;have I7:Inv X pins σ H5 s6:=I3.Tn (ch:=fp) I6.os I6.base I6.hok I6.bare λ b hb=>⟨(f3 b hb).1.2.2.2.1,(f3 b hb).1.2.1,(f3 b hb).1.2.2.2.2.1,(f3 b hb).1.2.2.2.2.2⟩
   have nC:H5 s3.heap.objs.size=none:=by
    have z:H5 ce.locals=none:=I6.free;rw[cL] at z;exact z
   obtain⟨m,hn,_⟩:=I6.loc;have hn:s6.heap.Ns ce.locals m:=hn;rw[cL] at hn;exact hRR D s3.heap.objs.size s6 m H5 I7 qq hn (I3.Lz (aq _) nC)
  ·have ti:=T.item (X.Co s3 H3 scope ce fp) rfl rfl rfl hc i [] s5 _ H5 (λ _ _=>False) I5 (Gx I5 n5) S1 go;refine Jy ti λ r s6 ⟨u,hr,h6⟩=>?_
   subst hr;refine Jy h6 λ _ s7 ⟨x,H7,I7,r7,y7,Ws,n7⟩=>?_
   have Zh:=I7.pinned (Gx I7 n7) (T.obj _ _ Ws);refine Jy (pg _ s7 _ H7 x u _ Zh r7 (step x H7 y7)) λ _ s8 ⟨σ8,H8,I8,XU,q8⟩=>?_
   refine Jy (pt _ s8 σ8 H8 _ I8 q8) λ b s9 ⟨H9,I9,q9⟩=>?_
   have fin:∀{s':Shared} {H':Hp},Inv (X.Co s3 H3 scope ce fp) ([]++Ad fp s7.heap) σ8 H' s'->Nx H'->∃m,m<n/\∃i H',Inv (X.Co s3 H3 scope ce fp) [] (wipe σ (own.map (·.2))) H' s'/\tn i s'.heap/\(∀b∈fp,H' b=none)/\W i m H':=λ {s' H'} I' nx=>by
    obtain⟨m',hm,w'⟩:=Zg H' nx;have Ub:∀b∈fp,∀o,s7.heap.get? b=some o->s'.heap.get? b=some o/\H' b=none:=λ b hb o e=>
     let z:=I'.pin (b,o) (bG _ (bG _ (wC hb e)))
     ⟨z.1,z.2.1⟩
    have hl:(wipe σ (own.map (·.2))).length = σ8.length:=by rw[<-XU,ug]
    refine⟨m',hm,i+1,H',(I'.w9 (pins:=[])).weak hl (λ j v e=>?_),T.keep _ _ _ Ws λ b hb o e=>(Ub b hb o e).1,λ b hb=>?_,w'⟩
    ·rw[<-XU] at e;exact (yH e).1
    ·obtain⟨o,e,_⟩:=T.obj _ _ Ws b hb;exact (Ub b hb o e).2
   cases b with
   |false=>
    simp only[aI,if_false] at q9 ⊢
    exact fin I9 q9
   |true=>
    simp only[if_true] at q9 ⊢
    refine Jy (pe _ s9 σ8 H9 _ I9 q9) λ z s10 ⟨yv,OZ,Zi,Zj,acc,Wt,Wu,nx⟩=>?_
    exact RB (X:=X.Co s3 H3 scope ce fp) Zi Wt Wu Zj λ s11 Zk=>fin Zk nx
 exact codeAny_compStart_list loop (T.self X.A 0 _ _ _ XT loop)
theorem nI{elt tg iter:Expr}{ifs:List Expr}{scope:Scope}{own:List (Str×Nat)}{pos:Pos}{wi:TI}{g:TG}{tt:TT}{te:TE}(hc:X.calm=true)(hN:X.N.Nodup)(hi:PI X tg iter wi)(ok:EX X.N X.env.scope scope own)
  (hg:∀(s:Shared) (H:Hp) (C:Addr) (cl:List (Str×Addr)) (fp:List Addr),PG (X.Co s H scope (compEnvC scope cl C X.env) fp) tg g) (ht:∀(s:Shared) (H:Hp) (C:Addr) (cl:List (Str×Addr)) (fp:List Addr),VB (X.Co s H scope (compEnvC scope cl C X.env) fp) ifs tt)
  (he:∀(s:Shared) (H:Hp) (C:Addr) (cl:List (Str×Addr)) (fp:List Addr),PE (X.Co s H scope (compEnvC scope cl C X.env) fp) elt te) (hs:∀x,foldedSetIterable iter X.env x=pure x:=by intro _;rfl) :
  PE X (.ListComp elt [⟨tg,iter,ifs,0⟩] scope pos) (VC wi g tt te (own.map (·.2))):=by
 intro pins s σ H Q I h
 rw[eval_ListComp]
 refine HR hc hN I hi ok hg ht he hs h λ D C s' m H' I' q hn f=>⟨m,hn,λ h'' sb=>?_⟩
 obtain⟨f0,f1,f2,f3,f4,f5⟩:=f
 exact⟨.ref D,H',I'.turned (t':=s'.toks) (λ b o hb e=>(sb.2 b hb).trans e) f0 f1 f3 f4 f5,rfl,q⟩
theorem E1{i:Nat}{y:Str}{py:Pos}{elt tg iter:Expr}{ifs:List Expr}{scope:Scope}{own:List (Str×Nat)}{pos spos:Pos}{wi:TI}{g:TG}{tt:TT}{te:TE}(hc:X.calm=true)(hN:X.N.Nodup)(hy:X.N[i]? = some y)(hyl:X.env.scope.names.lookup y=some .local)
  (hsw:swapsWith (.ListComp elt [⟨tg,iter,ifs,0⟩] scope pos) (some (.Name y py)) spos.line X.env=pure true) (hi:PI X tg iter wi) (ok:EX X.N X.env.scope scope own)
  (hg:∀(s:Shared) (H:Hp) (C:Addr) (cl:List (Str×Addr)) (fp:List Addr),PG (X.Co s H scope (compEnvC scope cl C X.env) fp) tg g) (ht:∀(s:Shared) (H:Hp) (C:Addr) (cl:List (Str×Addr)) (fp:List Addr),VB (X.Co s H scope (compEnvC scope cl C X.env) fp) ifs tt)
  (he:∀(s:Shared) (H:Hp) (C:Addr) (cl:List (Str×Addr)) (fp:List Addr),PE (X.Co s H scope (compEnvC scope cl C X.env) fp) elt te) (hs:∀x,foldedSetIterable iter X.env x=pure x:=by intro _;rfl) :
  PS X (.Assign [.Name y py] (.ListComp elt [⟨tg,iter,ifs,0⟩] scope pos) spos) (Rj (VC wi g tt te (own.map (·.2))) (CO i)):=by
 intro pins s σ H D I h
 rw[exec_Assign_Name_used _ _ _ _ hsw]
 refine wpAny_bind (wpAny_standAt (wpAny_bind ?_))
 show wpAny _ X.A (do let _ <-comprehension (.ListComp elt [⟨tg,iter,ifs,0⟩] scope pos) scope X.env (firstIterPos [⟨tg,iter,ifs,0⟩] pos) (newList []) false (eval iter X.env) (some (assign (.Name y py) X.env))) _ _ s
 have h:VC wi g tt te (own.map (·.2)) σ H (λ x H1=>CO i x σ H1 D.nx):=h
 refine wpAny_bind (lO (HR (Qf:=λ _ s'=>SP X pins D .next s') hc hN I hi ok hg ht he hs h λ L C s' m H' I' q hn f=>?_) λ _ s' hq=>wpAny_pure (wpAny_pure hq))
 show wpAny _ _ (assign (.Name y py) X.env (.ref L)) _ _ _
 refine wpAny_assign_Name (CN (v:=V.ref L) I' hN hy (.inl hyl) rfl (λ s2 I2 ⟨a,sb,ha⟩=>?_) (.inr hyl))
 obtain⟨f0,f1,f2,f3,f4,f5⟩:=f
 have haC:C≠a:=by
  rcases ha with z | z
  ·rw[z];exact f1
  ·exact λ e=>f4 y a z e.symm
 refine⟨m,hn.sameBut sb haC,λ h3 Zl=>?_⟩
 exact⟨_,H',I2.turned (t':=s2.toks) (λ b o hb e=>(Zl.2 b hb).trans e) f0 f1 f3 f4 f5,q⟩
theorem HS{elt:Expr}{gs:List Comprehension}{scope:Scope}{pos py:Pos}{y:Str}{l:Nat}{env:Env}(hk:env.scope.kind=.function)(hy:env.scope.names.lookup y=some .local)(hl:(py.line==pos.line)=true)
  (ha:(scope.names.any λ(n,k)=>n==y&&(k == .local||k == .cell))=false):swapsWith (.ListComp elt gs scope pos) (some (.Name y py)) l env=pure true:=by
 have ky:env.kindOf y=some .local:=hy
 have hb:env.blockKind=.function:=by unfold Env.blockKind;rw[hk];rfl
 unfold swapsWith
 simp only[hb,ky,ha,Expr.pos,hl]
 rfl
end
theorem E2{lo:Int}{n:Nat}{g:TG}{tt:TT}{te:TE}{vs:List Nat}{σ:St}{H1:Hp}{D:Addr}{Qd:Hp->Prop}(Pv:Nat->Hp->Prop)(h0:Pv 0 (upd H1 D (.lst [])))
  (hs:∀i H,i<n->Pv i H->g (.int (lo+i)) (wipe σ vs) H λ σ2 H2=>wipe σ2 vs=wipe σ vs/\tt σ2 H2 λ b H3=>
   if b=true then te σ2 H3 λ y H4=>∃acc,H4 D=some (.lst acc)/\acc.length<sizeLine/\Pv (i+1) (upd H4 D (.lst (acc++[y]))) else Pv (i+1) H3) (hd:∀H,Pv n H->Qd H) :
  ∃W:Nat->Nat->Hp->Prop,(∃m,W 0 m (upd H1 D (.lst [])))/\∀i m H,W i m H ->
   ((OI lo n).stop i H/\Qd H)\/((OI lo n).go i H/\∃Nx:Hp->Prop,(∀H',Nx H'->∃m',m'<m/\W (i+1) m' H')/\∀x H',(OI lo n).Ly i H x H'->g x (wipe σ vs) H' λ σ2 H2=>wipe σ2 vs=wipe σ vs/\tt σ2 H2 λ b H3=>
    if b=true then te σ2 H3 λ y H4=>∃acc,H4 D=some (.lst acc)/\acc.length<sizeLine/\Nx (upd H4 D (.lst (acc++[y]))) else Nx H3):=by
 refine⟨λ i m H=>m=n-i/\i<=n/\Pv i H,⟨n,by simp,bf _,h0⟩,?_⟩
 rintro i m H ⟨rfl,hi,p⟩
 by_cases hlt:i<n
 ·refine .inr ⟨hlt,Pv (i+1),λ H' p'=>⟨n-(i+1),by omega,rfl,hlt,p'⟩,λ x H' y=>?_⟩
  obtain⟨e,y⟩:=y;subst e y;exact hs i _ hlt p
 ·have e:i=n:=by omega
  subst e;exact .inl ⟨aq _,hd H p⟩
theorem lU{K:aj}{a:Addr}{xs:List V}{g:TG}{tt:TT}{te:TE}{vs:List Nat}{σ:St}{H1:Hp}{D:Addr}{Qd:Hp->Prop}(Pv:Nat->Hp->Prop)(h0:Pv 0 (upd H1 D (.lst [])))(hl:∀i H,i<=xs.length->Pv i H->jz K H a xs)
  (hs:∀i x H,xs[i]? = some x->Pv i H->g x (wipe σ vs) H λ σ2 H2=>wipe σ2 vs=wipe σ vs/\tt σ2 H2 λ b H3=>
   if b=true then te σ2 H3 λ y H4=>∃acc,H4 D=some (.lst acc)/\acc.length<sizeLine/\Pv (i+1) (upd H4 D (.lst (acc++[y]))) else Pv (i+1) H3) (hd:∀H,Pv xs.length H->Qd H) :
  ∃W:Nat->Nat->Hp->Prop,(∃m,W 0 m (upd H1 D (.lst [])))/\∀i m H,W i m H ->
   ((Qy K a).stop i H/\Qd H)\/((Qy K a).go i H/\∃Nx:Hp->Prop,(∀H',Nx H'->∃m',m'<m/\W (i+1) m' H')/\∀x H',(Qy K a).Ly i H x H'->g x (wipe σ vs) H' λ σ2 H2=>wipe σ2 vs=wipe σ vs/\tt σ2 H2 λ b H3=>
    if b=true then te σ2 H3 λ y H4=>∃acc,H4 D=some (.lst acc)/\acc.length<sizeLine/\Nx (upd H4 D (.lst (acc++[y]))) else Nx H3):=by
 refine⟨λ i m H=>m=xs.length-i/\i<=xs.length/\Pv i H,⟨xs.length,by simp,bf _,h0⟩,?_⟩
 rintro i m H ⟨rfl,hi,p⟩
 have q:=hl i H hi p
 by_cases hlt:i<xs.length
 ·refine .inr ⟨⟨xs,xs[i],q,by simp[hlt]⟩,Pv (i+1),λ H' p'=>⟨xs.length-(i+1),by omega,rfl,hlt,p'⟩,λ x H' y=>?_⟩
  obtain⟨e,y⟩:=y;subst e;exact hs i x _ (y xs q) p
 ·have e:i=xs.length:=by omega
  subst e;exact .inl ⟨⟨xs,q,aq _⟩,hd H p⟩
def Uc(N:List Str)(sc scope:Scope)(own:List (Str×Nat)):Bool:=
 (match scope.kind with | .function=>true | _=>false)&&(scope.names.all λ y=>decide (scope.names.lookup y.1=some y.2))&&(own.all λ p=>decide (N[p.2]? = some p.1)) &&
  (scope.names.all λ y=>match y.2 with
   |.free=>(match sc.names.lookup y.1 with | some .cell=>true | some .free=>true | _=>false)
   |.local=>decide (y.1∈own.map (·.1))||decide (y.1 ∉ N)
   |.cell=>decide (y.1∈own.map (·.1))||decide (y.1 ∉ N)
   |_=>true)
theorem jO{N:List Str}{sc scope:Scope}{own:List (Str×Nat)}(h:Uc N sc scope own=true):EX N sc scope own:=by
 unfold Uc at h
 simp only[aQ,aY,decide_eq_true_eq] at h
 obtain⟨⟨⟨h1,h2⟩,h3⟩,h4⟩:=h
 refine⟨?_,h2,h3,λ y hy e=>?_,λ y hy e=>?_⟩
 ·split at h1
  ·assumption
  ·cases h1
 ·have q:=h4 y hy
  simp only[e] at q
  split at q<;>first | exact .inl (by assumption) | exact .inr (by assumption) | cases q
 ·have q:=h4 y hy
  rcases e with e | e<;>(simp only[e,Bool.or_eq_true,decide_eq_true_eq] at q;exact q)
end L2
namespace L2
open PySem PySem.Spec PyProof.Rows
section
variable{prog:Program}{w:World}{A:Around}{R:Result->Shared->Prop}{s:Shared}{elt t0 i0 t1 i1:Expr}{Zm Zn:List Expr}{scope:Scope}{pos:Pos}{it acc:Value}{env:Env}
end
section
variable{X:Cx}
end
end L2
namespace L2
open PySem PySem.Spec PyProof.Rows
section
variable{κ:Type}[DecidableEq κ]
end
theorem Ud{P:Program}{w:World}{k:Key}{u:Value}(r:RelV (kV k) u):(kT P w).is k u=true:=by
 cases k with
 |inl i=>obtain⟨t,e⟩:=(show ∃t,u=Value.int i t from r);subst e;exact EJ P w i t
 |inr x=>obtain⟨t,e⟩:=(show ∃t,u=Value.str x t from r);subst e;exact EK P w x t
theorem C0{P:Program}{w:World}:∀{ks:List Key}{us:List Value},Vals (ks.map kV) us->ItemsAre (kT P w) ks us
 |[],_,r=>by rw[bO] at r;cases r;exact .nil
 |k::ks,_,r=>by
  rw[aT] at r
  cases r with
  |cons h t=>exact .cons (Ud h) (C0 t)
section
variable{P:Program}{w:World}{H:Hp}{h:Heap}{a:Addr}
end
section
variable{X:Cx}{pins:List (Addr×Obj)}{σ:St}{H:Hp}{s:Shared}{a:Addr}{y v:V}{u r:Value}{o:Option V}{A:Around}{E:Value->Shared->Prop}
end
section
variable{X:Cx}{pins:List (Addr×Obj)}{σ:St}{H:Hp}{s:Shared}{a:Addr}{kvs:List (Key×V)}{k:Key}{u:Value}{A:Around}{E:Value->Shared->Prop}
end
section
variable{X:Cx}{o i e value:Expr}{pos pos' tpos:Pos}{td ty tv:TE}
end
section
variable{X:Cx}{pos:Pos}
end
section
variable{X:Cx}{pins:List (Addr×Obj)}{σ:St}{H:Hp}{s:Shared}{a:Addr}{y d:V}{u r:Value}{o:Option V}{A:Around}{E:Value->Shared->Prop}
end
section
variable{X:Cx}{o e f:Expr}{apos cpos:Pos}{td ty tx:TE}
end
section
variable{X:Cx}{pins:List (Addr×Obj)}{σ:St}{H:Hp}{s:Shared}{a:Addr}{kvs:List (Key×V)}{A:Around}{E:Value->Shared->Prop}
end
section
variable{X:Cx}{pins:List (Addr×Obj)}{σ:St}{H:Hp}{s:Shared}{a:Addr}{y:V}{u:Value}{A:Around}{E:Value->Shared->Prop}
end
end L2
namespace L2
open PySem PySem.Spec PyProof.Rows
section
variable{prog:Program}{w:World}{A:Around}{E:Value->Shared->Prop}
end
section
variable{X:Cx}
end
end L2
namespace L2
open PySem PySem.Spec PyProof.Rows
theorem Aq:bootBuiltins "reversed" = some (.type "reversed"):=by decide +kernel
section
variable{X:Cx}{pins:List (Addr×Obj)}{σ:St}{H:Hp}{s:Shared}{h':Heap}
theorem Inv.O0{t':Nat}{ch:List Addr}(I:Inv X pins σ H s)(k:∀b o,b ∉ ch->s.heap.get? b=some o->h'.get? b=some o)(hf:∀b∈ch,zH X pins H b):Inv X pins σ H { s with heap:=h',toks:=t' }:=by
 have Qv:∀b u,H b=some u->b ∉ ch:=λ b u e z=>by
  have q:=(hf b z).1;rw[q] at e;cases e
 refine I.step (g':=s.gens) (d':=s.drawn) (ch:=ch) (λ b hb=>⟨(hf b hb).2.2.2.1,(hf b hb).2.1,(hf b hb).2.2.2.2.1,(hf b hb).2.2.2.2.2⟩) (λ b o _ _ hc e _=>k b o hc e) (λ b o _ _ hc e _=>⟨o.slots,k b o hc e⟩)
  (λ _ _ _ _ n=>n) (λ b o hc e=>⟨o,k b o hc e⟩) (λ _ _ e=>e) (λ _ _ _ e=>e) (λ b ps e=>⟨#[],by rw[e];simp⟩) (λ m hm=>?_) (λ b u e=>?_) I.bare
 ·obtain⟨o,es,ep,ho,r⟩:=hm
  exact⟨o,es,ep,k _ o (λ z=>(hf _ z).2.1 rfl) ho,r⟩
 ·refine (I.hok b u e).stay (λ c v hc q=>k c v ?_ q) (λ _ q=>q) λ _ _ q=>q
  rcases hc with z | z
  ·rw[z];exact Qv b u e
  ·exact Qv c _ z
theorem Inv.C1{t':Nat}{ch:List Addr}{T:Addr}{ob:HO}(I:Inv X pins σ H s)(k:∀b o,b ∉ ch->s.heap.get? b=some o->h'.get? b=some o)(hf:∀b∈ch,zH X pins H b)(hT:s.heap.objs.size<=T)
  (new:nV X.prog X.w (upd H T ob) h' T ob):Inv X pins σ (upd H T ob) { s with heap:=h',toks:=t' }:=by
 have hn:H T=none:=I.hok.fresh hT
 have Qv:∀b u,H b=some u->b ∉ ch:=λ b u e z=>by
  have q:=(hf b z).1;rw[q] at e;cases e
 refine I.step (g':=s.gens) (d':=s.drawn) (ch:=ch) (λ b hb=>⟨(hf b hb).2.2.2.1,(hf b hb).2.1,(hf b hb).2.2.2.2.1,(hf b hb).2.2.2.2.2⟩) (λ b o _ _ hc e _=>k b o hc e) (λ b o _ _ hc e _=>⟨o.slots,k b o hc e⟩)
  (λ b o _ e n=>?_) (λ b o hc e=>⟨o,k b o hc e⟩) (λ b xs e=>?_) (λ b o u e=>?_) (λ b ps e=>⟨#[],?_⟩) (λ m hm=>?_) (λ b u e=>?_) I.bare
 ·rw[jd (aW (aH (Heap.lt_size e) hT))];exact n
 ·rw[jd (je e hn)];exact e
 ·rw[jd (je e hn)];exact e
 ·rw[jd (je e hn),e];simp
 ·obtain⟨o,es,ep,ho,r⟩:=hm
  exact⟨o,es,ep,k _ o (λ z=>(hf _ z).2.1 rfl) ho,r⟩
 ·by_cases hb:b=T
  ·subst hb;rw[iZ] at e
   cases e;exact new
  ·rw[jd hb] at e;refine (I.hok b u e).stay (λ c v hc q=>k c v ?_ q) (λ c q=>by rw[jd (je q hn)];exact q) λ c xs q=>by rw[jd (je q hn)];exact q
   rcases hc with z | z
   ·rw[z];exact Qv b u e
   ·exact Qv c _ z
end
section
variable{X:Cx}
end
section
variable{X:Cx}{tg:Expr}
end
section
variable{X:Cx}{tg:Expr}
end
section
variable{prog:Program}{w:World}{A:Around}{E:Value->Shared->Prop}{s:Shared}
end
section
variable{X:Cx}{pins:List (Addr×Obj)}{σ:St}{H:Hp}{s:Shared}{d:Addr}{o:Obj}
end
section
variable{P:Program}{w:World}{K:aj}{tg:Expr}{d:Addr}{o:Obj}{es:Array DictEntry}{ep:Nat}
end
section
variable{X:Cx}{tg e:Expr}{td:TE}{apos cpos:Pos}
end
def QC(K:aj)(a:Addr):It:=
 ⟨λ i H=>∃(xs:List V) (x:V),jz K H a xs/\xs[i]? = some x,λ i H v H'=>∃T x,v=.ref T/\H T=none/\H'=upd H T (.tup [.int (i:Nat),x])/\∀xs,jz K H a xs->xs[i]? = some x,λ i H=>∃xs:List V,jz K H a xs/\xs.length<=i⟩
theorem Jz{P:Program}{w:World}{K:aj}{elts:List Expr}{kk:Nat}{tpos:Pos}(a e it:Addr) :
  Turn P w K (.Tuple elts kk tpos) (QC K a) [e,it] e (λ i h=>(∃old,IsEnum h e it ((i:Nat):Int) old)/\h.IsListIter it a i/\e≠it) where
 mem:=by simp
 obj:=λ i h st b hb=>by
  obtain⟨⟨old,he⟩,⟨o,ho,hc,hd⟩,_⟩:=st;have e':b=e\/b=it:=by simpa using hb
  rcases e' with z | z
  ·rw[z];exact⟨_,he,λ v q=>nomatch q⟩
  ·rw[z];exact⟨o,ho,λ v q=>by rw[hd] at q;cases q⟩
 keep:=λ i h h' st k=>let ⟨⟨old,he⟩,hi,hne⟩:=st;⟨⟨old,k e (by simp) _ he⟩,hi.at λ o q=>k it (by simp) o q,hne⟩
 item:=by
  intro X hP hw hK hc i pins s σ H E I hf st hg;subst hP hw hK;obtain⟨⟨old,he⟩,hit,hne⟩:=st;obtain⟨xs,x,hq,hx⟩:=hg;obtain⟨its,rv,p,hz⟩:=I.list hq;obtain⟨u,hu,ru⟩:=rv.get hx;have hel:e<s.heap.objs.size:=Heap.lt_size he;have hil:it<s.heap.objs.size:=by obtain⟨_,q,_⟩:=hit;exact Heap.lt_size q
  refine wpAny_pyNext_enum_item he hit p.isList (x:=u) (by simpa using hu) hne λ h' ho Wv hT hsz hk=>?_
  refine⟨_,rfl,wpAny_letOwnedTupleGo_enum (s:={ s with heap:=h',toks:=s.toks+1 }) ho λ h'' he' sb=>?_⟩;have hT2:h''.get? s.heap.objs.size=some { cls:=.type "tuple",data:=.seq #[.int i s.toks,u] }:=(sb.2 _ (fm hel)).trans hT;have new:nV X.prog X.w (upd H s.heap.objs.size (.tup [.int (i:Nat),x])) h'' s.heap.objs.size (.tup [.int (i:Nat),x]):=
   ⟨by show 2<=sizeLine;decide,[.int i s.toks,u],.cons ⟨_,rfl⟩ (.cons ru .nil),⟨_,hT2,rfl,_,rfl⟩⟩
  have I1:Inv X pins σ (upd H s.heap.objs.size (.tup [.int (i:Nat),x])) { s with heap:=h'',toks:=s.toks+1 }:=
   I.C1 (ch:=[e,it]) (λ b ob hb q=>(sb.2 b (λ z=>hb (by simp[z]))).trans (hk b ob (λ z=>hb (by simp[z])) (λ z=>hb (by simp[z])) q)) hf (aq _) new
  refine⟨.ref s.heap.objs.size,_,I1,rfl,⟨_,x,rfl,I.hok.fresh (aq _),rfl,λ ys hy=>by rw[I.wZ hy hq];exact hx⟩,⟨⟨u,?_⟩,Wv.at λ o q=>(sb.2 it (Ne.symm hne)).trans q,hne⟩,λ b hb=>?_⟩
  ·have e1:((i+1:Nat):Int)=(i:Int)+1:=by omega
   rw[e1];exact he'
  ·have hb':b<s.heap.objs.size:=by
    have e':b=e\/b=it:=by simpa using hb
    rcases e' with z | z
    ·rw[z];exact hel
    ·rw[z];exact hil
   rw[jd (aW hb')];exact (hf b hb).1
 done:=by
  intro X hP hw hK hc i pins s σ H E I hf st hg;subst hP hw hK;obtain⟨⟨old,he⟩,hit,hne⟩:=st;obtain⟨xs,hq,hx⟩:=hg;obtain⟨its,rv,p,hz⟩:=I.list hq;obtain⟨f0,f1,f2,f3,f4,f5⟩:=hf it (by simp);have hl:=rv.length;exact wpAny_pyNext_enum_end (I.ok.hd hc) he hit p.isList (by simp;omega) λ h' eb=>⟨rfl,I.turned (t':=s.toks) (λ b o hb q=>eb b o hb q) f0 f1 f3 f4 f5⟩
 self:=λ A i s Q E st h=>let ⟨⟨_,he⟩,_⟩:=st;wpAny_pyIter_enum he h
def Ue(K:aj)(ta:TA):TI:=λ σ H R=>ta σ H λ vs H1=>∃a xs,vs=[.ref a]/\jz K H1 a xs/\R (QC K a) H1
theorem zT{X:Cx}{e:Expr}{ta:TA}{p pos tpos:Pos}{elts:List Expr}{kk:Nat}(hg:Gl X "enumerate")(hm:X.mg "enumerate" = none)(ha:PA X [e] ta)(hs:starEach [e] X.env=[(false,eval e X.env)]:=by rfl) :
  PI X (.Tuple elts kk tpos) (.Call (.Name "enumerate" p) [e] [] pos) (Ue X.K ta):=by
 intro pins s σ H R I h
 refine Call_ (wB I hg hm boot_enumerate (PyProof.Rows.callWith_type1 (lO (ha pos pins s σ H _ I h) λ us s1 ⟨vs,H1,I1,r1,q1⟩=>?_) hs rfl))
 obtain⟨a,xs,ex,hq,q⟩:=q1
 subst ex
 cases r1 with
 |cons r rr=>
  cases rr
  cases r;obtain⟨its,rv,p',hz⟩:=I1.list hq;refine call_enumerate_list p'.isList λ h' he hit hsz hk=>wpAny_pyIter_enum he ?_
  have I2:Inv X pins σ H1 { s1 with heap:=h' }:=I1.kept (t':=s1.toks) hk;refine⟨s1.heap.objs.size+1,[s1.heap.objs.size+1,s1.heap.objs.size],_,_,H1,rfl,I2,Jz a (s1.heap.objs.size+1) s1.heap.objs.size,⟨⟨.none,he⟩,hit,Nat.succ_ne_self _⟩,λ b hb=>?_,q⟩;have e':b=s1.heap.objs.size+1\/b=s1.heap.objs.size:=by simpa using hb
  have hle:s1.heap.objs.size<=b:=by
   rcases e' with z | z
   ·rw[z];exact eE _ _
   ·rw[z];exact aq _
  exact I1.Lz hle (I1.hok.fresh hle)
theorem JA:bootBuiltins "zip" = some (.type "zip"):=by decide +kernel
def QD(K:aj)(a b:Addr):It:=
 ⟨λ i H=>∃(xs ys:List V) (x y:V),jz K H a xs/\jz K H b ys/\xs[i]? = some x/\ys[i]? = some y,
  λ i H v H'=>∃T x y,v=.ref T/\H T=none/\H'=upd H T (.tup [x,y])/\(∀xs,jz K H a xs->xs[i]? = some x)/\∀ys,jz K H b ys->ys[i]? = some y,
  λ i H=>∃xs ys:List V,jz K H a xs/\jz K H b ys/\(xs.length<=i\/ys.length<=i)⟩
theorem LX{P:Program}{w:World}{K:aj}{elts:List Expr}{kk:Nat}{tpos:Pos}{a b z TI TO i1 i2:Addr}(D:ZipApart z TI TO i1 i2 a b) :
  Turn P w K (.Tuple elts kk tpos) (QD K a b) [z,TI,TO,i1,i2] z (λ i h=>IsZip h z TI TO .none/\IsPair h TI (.ref i1) (.ref i2)/\(∃x y,IsPair h TO x y)/\h.IsListIter i1 a i/\h.IsListIter i2 b i) where
 mem:=by simp
 obj:=λ i h st c hc=>by
  obtain⟨hz,hTI,⟨x,y,hTO⟩,⟨o1,e1,_,d1⟩,⟨o2,e2,_,d2⟩⟩:=st;have e':c=z\/c=TI\/c=TO\/c=i1\/c=i2:=by simpa using hc
  rcases e' with q | q | q | q | q
  ·rw[q];exact⟨_,hz,λ v q=>nomatch q⟩
  ·rw[q];exact⟨_,hTI,λ v q=>nomatch q⟩
  ·rw[q];exact⟨_,hTO,λ v q=>nomatch q⟩
  ·rw[q];exact⟨o1,e1,λ v q=>by rw[d1] at q;cases q⟩
  ·rw[q];exact⟨o2,e2,λ v q=>by rw[d2] at q;cases q⟩
 keep:=λ i h h' st k=>by
  obtain⟨hz,hTI,⟨x,y,hTO⟩,h1,h2⟩:=st;exact⟨k z (by simp) _ hz,k TI (by simp) _ hTI,⟨x,y,k TO (by simp) _ hTO⟩,h1.at λ o q=>k i1 (by simp) o q,h2.at λ o q=>k i2 (by simp) o q⟩
 item:=by
  intro X hP hw hK hc i pins s σ H E I hf st hg;subst hP hw hK;obtain⟨hz,hTI,⟨x0,y0,hTO⟩,h1,h2⟩:=st;obtain⟨xs,ys,x,y,S2,S3,hx,hy⟩:=hg;obtain⟨its,rv,p,_⟩:=I.list S2;obtain⟨its2,VD,p2,_⟩:=I.list S3;obtain⟨u,hu,ru⟩:=rv.get hx;obtain⟨u2,Zo,Zp⟩:=VD.get hy;have XW:z<s.heap.objs.size:=Heap.lt_size hz;refine wpAny_pyNext_zip_item D hz hTI hTO h1 h2 p.isList p2.isList (x:=u) (y:=u2) (by simpa using hu) (by simpa using Zo) λ h' z' Zq XX h2' hT hsz hk=>?_
  refine⟨_,rfl,wpAny_letOwnedTupleGo_zip (s:={ s with heap:=h' }) z' λ h'' Zr sb=>?_⟩;have hT2:h''.get? s.heap.objs.size=some { cls:=.type "tuple",data:=.seq #[u,u2] }:=(sb.2 _ (fm XW)).trans hT;have new:nV X.prog X.w (upd H s.heap.objs.size (.tup [x,y])) h'' s.heap.objs.size (.tup [x,y]):=
   ⟨by show 2<=sizeLine;decide,[u,u2],.cons ru (.cons Zp .nil),⟨_,hT2,rfl,_,rfl⟩⟩
  have I1:Inv X pins σ (upd H s.heap.objs.size (.tup [x,y])) { s with heap:=h'' }:=
   I.C1 (t':=s.toks) (ch:=[z,TI,TO,i1,i2]) (λ c o hb q=>(sb.2 c (λ q'=>hb (by simp[q']))).trans (hk c o (λ q'=>hb (by simp[q'])) (λ q'=>hb (by simp[q'])) (λ q'=>hb (by simp[q'])) (λ q'=>hb (by simp[q'])) q)) hf (aq _) new
  refine⟨.ref s.heap.objs.size,_,I1,rfl,⟨_,x,y,rfl,I.hok.fresh (aq _),rfl,λ l hl=>by rw[I.wZ hl S2];exact hx,λ l hl=>by rw[I.wZ hl S3];exact hy⟩,⟨Zr,?_,⟨u,u2,?_⟩,?_,?_⟩,λ c O1=>?_⟩
  ·exact (sb.2 _ D.TIz).trans (hk _ _ D.TIz D.TITO D.TIi1 D.TIi2 hTI)
  ·exact (sb.2 _ D.TOz).trans Zq
  ·exact XX.at λ o q=>(sb.2 _ D.i1z).trans q
  ·exact h2'.at λ o q=>(sb.2 _ D.i2z).trans q
  ·have hlt:c<s.heap.objs.size:=by
    have e':c=z\/c=TI\/c=TO\/c=i1\/c=i2:=by simpa using O1
    rcases e' with q | q | q | q | q
    ·rw[q];exact XW
    ·rw[q];exact Heap.lt_size hTI
    ·rw[q];exact Heap.lt_size hTO
    ·rw[q];obtain⟨_,e1,_⟩:=h1;exact Heap.lt_size e1
    ·rw[q];obtain⟨_,e2,_⟩:=h2;exact Heap.lt_size e2
   rw[jd (aW hlt)];exact (hf c O1).1
 done:=by
  intro X hP hw hK hc i pins s σ H E I hf st hg;subst hP hw hK;obtain⟨hz,hTI,⟨x0,y0,hTO⟩,h1,h2⟩:=st;obtain⟨xs,ys,S2,S3,hend⟩:=hg;obtain⟨its,rv,p,_⟩:=I.list S2;obtain⟨its2,VD,p2,_⟩:=I.list S3;have l1:=rv.length;have l2:=VD.length;have he:its.toArray[i]? = none\/its2.toArray[i]? = none:=by
   rcases hend with q | q
   ·exact .inl (by simp;omega)
   ·exact .inr (by simp;omega)
  exact wpAny_pyNext_zip_end (I.ok.hd hc) D hz hTI hTO h1 h2 p.isList p2.isList he λ h' hk=>⟨rfl,I.O0 (t':=s.toks) (ch:=[z,TI,TO,i1,i2]) (λ c o hb q=>
   hk c o (λ q'=>hb (by simp[q'])) (λ q'=>hb (by simp[q'])) (λ q'=>hb (by simp[q'])) (λ q'=>hb (by simp[q'])) q) hf⟩
 self:=λ A i s Q E st h=>wpAny_pyIter_zip st.1 h
def Ww(K:aj)(ta:TA):TI:=λ σ H R=>ta σ H λ vs H1=>∃a b xs ys,vs=[.ref a,.ref b]/\jz K H1 a xs/\jz K H1 b ys/\R (QD K a b) H1
theorem DZ{X:Cx}{e e2:Expr}{ta:TA}{p pos tpos:Pos}{elts:List Expr}{kk:Nat}(hg:Gl X "zip")(hm:X.mg "zip" = none)(ha:PA X [e,e2] ta)
  (hs:starEach [e,e2] X.env=(false,eval e X.env)::starEach [e2] X.env:=by rfl) (hpl:(backTo pos (starEach [e2] X.env)).any (·.1)=false:=by rfl) :
  PI X (.Tuple elts kk tpos) (.Call (.Name "zip" p) [e,e2] [] pos) (Ww X.K ta):=by
 intro pins s σ H R I h
 refine Call_ (wB I hg hm JA (PyProof.Rows.callWith_type1 (lO (ha pos pins s σ H _ I h) λ us s1 ⟨vs,H1,I1,r1,q1⟩=>?_) hs hpl))
 obtain⟨a,b,xs,ys,ex,S2,S3,q⟩:=q1
 subst ex
 cases r1 with
 |cons r rr=>
  cases rr with
  |cons r' rr=>
   cases rr
   cases r
   cases r';obtain⟨its,rv,p1,_⟩:=I1.list S2;obtain⟨its2,VD,p2,_⟩:=I1.list S3;have la:a<s1.heap.objs.size:=p1.lt;have lb:b<s1.heap.objs.size:=p2.lt;refine call_zip_2 p1.isList p2.isList λ h' hz hTI hTO h1 h2 hsz hk=>wpAny_pyIter_zip hz ?_
   have I2:Inv X pins σ H1 { s1 with heap:=h' }:=I1.kept (t':=s1.toks) hk;refine⟨s1.heap.objs.size+4,[s1.heap.objs.size+4,s1.heap.objs.size+2,s1.heap.objs.size+3,s1.heap.objs.size,s1.heap.objs.size+1],_,_,H1,rfl,I2,LX (PySem.W.ktu_apart s1.heap.objs.size a b la lb),⟨hz,hTI,⟨_,_,hTO⟩,h1,h2⟩,λ c O1=>?_,q⟩;have e':c=s1.heap.objs.size+4\/c=s1.heap.objs.size+2\/c=s1.heap.objs.size+3\/c=s1.heap.objs.size\/c=s1.heap.objs.size+1:=by simpa using O1
   have hle:s1.heap.objs.size<=c:=by
    rcases e' with z | z | z | z | z
    ·rw[z];exact eE _ _
    ·rw[z];exact eE _ _
    ·rw[z];exact eE _ _
    ·rw[z];exact aq _
    ·rw[z];exact eE _ _
   exact I1.Lz hle (I1.hok.fresh hle)
end L2
section 
namespace o6
open PySem PyProof.Rows
end o6
end 
section 
namespace TL
open PySem PySem.Builtin PySem.Builtin.Str PySem.StrLaws
end TL
end 
namespace L2
open PySem PySem.Spec PyProof.Rows
section
variable{X:Cx}{pins:List (Addr×Obj)}{σ:St}{H:Hp}{s:Shared}{Q:VK}
end
section
variable{X:Cx}
end
section
variable{X:Cx}{o e:Expr}{to te:TE}
end
end L2
namespace L2
open PySem PySem.Spec PyProof.Rows
section
variable{X:Cx}
end
end L2
namespace Att
open PySem PySem.W PySem.Calls PyProof.Rows
theorem zI{P:Params}{h:Heap}:∀(ns:List Int) (vs:List Value),WellAll P h vs (ns.map WData.int)->IntsAre vs ns:=by
 intro ns
 induction ns with
 |nil=>
  intro vs w;rw[bO] at w
  cases w;exact .nil
 |cons n ns ih=>
  intro vs w;rw[aT] at w
  cases w with
  |cons a b=>
   cases a;exact .cons _ _ (ih _ b)
section
variable{prog:Program}{w:World}{A:Around}{E:Value->Shared->Prop}{s:Shared}{K:Frag}
end
end Att
namespace L2
open PySem PySem.Spec PyProof.Rows
theorem C2:∀{vs:List Value}{ns:List Int},IntsAre vs ns->Vals (ns.map V.int) vs
 |_,_,.nil=>.nil
 |_,_,.cons n t h=>.cons ⟨t,rfl⟩ (C2 h)
end L2
namespace L2
open PySem PySem.Spec PyProof.Rows
end L2
namespace L2
open PySem PySem.Spec PyProof.Rows
def inClass(s:Stmt)(j:Nat):Stmt:=match s with
 |.ClassDef _ _ _ body _ _ _ _ _ _ _=>body.getD j (.Pass ⟨0,0,0,0⟩)
 |_=>.Pass ⟨0,0,0,0⟩
def sP(s:Stmt):Arguments:=match s with
 |.FunctionDef _ a _ _ _ _ _ _ _ _=>a
 |_=>{ posonlyargs:=[],args:=[],vararg:=none,kwonlyargs:=[],kw_defaults:=[],kwarg:=none,defaults:=[] }
def qx(s:Stmt):List Stmt:=match s with
 |.FunctionDef _ _ b _ _ _ _ _ _ _=>b
 |_=>[]
def ji(s:Stmt):Scope:=match s with
 |.FunctionDef _ _ _ _ _ _ sc _ _ _=>sc
 |_=>{ kind:=.function,names:=[],isGenerator:=false,isCoroutine:=false }
abbrev E0:XK:=λ _ _ _=>False
structure RC(K:aj)(x qual:Str)(st:Stmt)(f:Addr)(fd:FuncData):Prop where
 ex:∃(oc:Value) (od:Option Addr) (kV doc pm:Value) (an:Option Addr) (cdv ct:Value) (osl:Array (Option Value)),
  fd=dj x qual (sP st) (qx st) (ji st) .none kV doc pm an cdv ct/\K.lookup f=some ⟨oc,od,.func fd,osl⟩/\gi K cdv qual=true
 kp:dX K (.ref f)=true
section
variable{P:Program}{w:World}{K:aj}{mg:Str->Option Value}{base:Heap}
theorem RC.binds{x qual:Str}{st:Stmt}{f:Addr}{fd:FuncData}{ps:List Str}(F:RC K x qual st f fd)
  (h:∀(kV doc pm:Value) (an:Option Addr) (cdv ct:Value) (us:List Value),us.length=ps.length->bindArgs (dj x qual (sP st) (qx st) (ji st) .none kV doc pm an cdv ct) ⟨us,[]⟩=pure (ps.zip us)):Binds K fd ps []:=by
 obtain⟨oc,od,kV,doc,pm,an,cdv,ct,osl,rfl,lk,hcd⟩:=F.ex
 exact .all (h kV doc pm an cdv ct)
theorem LY{x qual:Str}{st:Stmt}{f:Addr}{oc:Value}{od an:Option Addr}{osl:Array (Option Value)}{kV doc pm cdv ct:Value}(l:K.lookup f=some ⟨oc,od,.func (dj x qual (sP st) (qx st) (ji st) .none kV doc pm an cdv ct),osl⟩)
  (c:gi K cdv qual=true) (k:dX K (.ref f)=true):RC K x qual st f (dj x qual (sP st) (qx st) (ji st) .none kV doc pm an cdv ct):=⟨⟨oc,od,kV,doc,pm,an,cdv,ct,osl,rfl,l,c⟩,k⟩
end
section
variable{X:Cx}
theorem pv(i:Nat){x:Str}{pos:Pos}(hN:X.N[i]? = some x:=by rfl)(hv:Ou X.env.scope x:=by first | exact Or.inl rfl | exact Or.inr (Or.inl rfl) | exact Or.inr (Or.inr rfl))(hd:(x==("__debug__":Str))=false:=by decide)
  (hcd:(x==("__classdict__":Str))=false:=by decide):PE X (.Name x pos) (wY i):=Rb hN hv hd hcd
end
theorem qO{A B:Prop}(h:B):if false=true then A else B:=by
 rw[if_neg aM]
 exact h
theorem uh{A B:Prop}(h:A):if true=true then A else B:=by
 rw[if_pos rfl]
 exact h
def jk(H H':Hp):Prop:=∀b o,H b=some o->H' b=some o
theorem jk.refl(H:Hp):jk H H:=λ _ _ h=>h
theorem jk.trans{H H1 H2:Hp}(a:jk H H1)(b:jk H1 H2):jk H H2:=λ c o h=>b c o (a c o h)
theorem jk.free{H H':Hp}(e:jk H H'){l:Addr}(h:H' l=Option.none):H l=Option.none:=by
 cases q:H l with
 |none=>rfl
 |some o=>
  rw[e l o q] at h
  cases h
theorem jk.seq{K:aj}{H H':Hp}{a:Addr}{xs:List V}(e:jk H H')(h:jz K H a xs):jz K H' a xs:=by
 rcases h with (h | ⟨o,h⟩) | h
 ·exact .inl (.inl (e _ _ h))
 ·exact .inl (.inr ⟨o,e _ _ h⟩)
 ·exact .inr h
section
variable{κ:Type}[DecidableEq κ]
end
end L2
end
noncomputable section
namespace St
open PySem
def zU(M:Nat):Nat->Nat->Nat
 |0,x=>x
 |m+1,x=>zU M m ((x*5+1)%M)
theorem LZ{M:Nat}(hM:0<M):∀(m x:Nat),x<M->zU M m x<M
 |0,_,h=>h
 |m+1,x,_=>LZ hM m _ (gj _ hM)
theorem xj(M:Nat):∀(a b x:Nat),zU M (a+b) x=zU M b (zU M a x)
 |0,b,x=>by rw[iR];rfl
 |a+1,b,x=>by
  rw[Nat.succ_add];exact xj M a b _
theorem O2{M:Nat}:∀(m x:Nat),(4*zU M m x+1)%M=(5^m*(4*x+1))%M
 |0,x=>by simp[zU]
 |m+1,x=>by
  show (4*zU M m ((x*5+1)%M)+1)%M=_;rw[O2 m];have:(4*((x*5+1)%M)+1)%M=(5*(4*x+1))%M:=by
   rw[ie,fU,Nat.mod_mod,<-fU,<-ie]
   congr 1;omega
  rw[fU,this,<-fU,b9,iH]
theorem E6:∀k:Nat,∃e,5^(2^k)=1+2^(k+2)*(2*e+1)
 |0=>⟨0,rfl⟩
 |k+1=>by
  obtain⟨e,h⟩:=E6 k;refine⟨e+2^k*(2*e+1)*(2*e+1),?_⟩;rw[b9 2 k,Nat.pow_mul,h,show k+1+2=(k+2)+1 from rfl,b9 2 (k+2)];have e2:2^(k+2)=4*2^k:=by rw[Nat.pow_add];omega
  rw[e2];generalize 2^k=y
  grind
def pH:Nat->Nat->Nat
 |0,x=>x
 |m+1,x=>pH m (x*5+1)
theorem C3{M:Nat}:∀(m x:Nat),zU M m (x%M)%M=pH m x%M
 |0,x=>by simp[zU,pH]
 |m+1,x=>by
  show zU M m ((x%M*5+1)%M)%M=pH m (x*5+1)%M;rw[<-C3 m (x*5+1)]
  congr 2
  rw[ie,fU,Nat.mod_mod,<-fU,<-ie]
theorem Fb:∀(m x:Nat),4*pH m x+1=5^m*(4*x+1)
 |0,x=>by simp[pH]
 |m+1,x=>by
  show 4*pH m (x*5+1)+1=_;rw[Fb m,b9,iH]
  congr 1;omega
theorem C4:∀(a b x:Nat),pH (a+b) x=pH b (pH a x)
 |0,b,x=>by rw[iR];rfl
 |a+1,b,x=>by rw[Nat.succ_add];exact C4 a b _
theorem GH(k x:Nat):pH (2^k) x%2^(k+1)=(x+2^k)%2^(k+1):=by
 obtain⟨e,h⟩:=E6 k
 have q:=Fb (2^k) x
 rw[h] at q
 have e2:2^(k+2)=4*2^k:=by rw[Nat.pow_add];omega
 have e1:2^(k+1)=2*2^k:=by rw[b9];omega
 rw[e2] at q
 rw[e1]
 have:pH (2^k) x=(x+2^k)+2*2^k*(e+2*x*(2*e+1)):=by
  generalize 2^k=y at q ⊢
  have:4*pH y x=4*((x+y)+2*y*(e+2*x*(2*e+1))):=by grind
  omega
 rw[this,Nat.add_mul_mod_self_left]
theorem meets:∀(k x t:Nat),t<2^k->∃m,m<2^k/\pH m x%2^k=t
 |0,x,t,h=>⟨0,by simp,by rw[Nat.pow_zero] at h ⊢;omega⟩
 |k+1,x,t,h=>by
  have hp:0<2^k:=Nat.pow_pos (by decide);have e1:2^(k+1)=2*2^k:=by rw[b9];omega
  obtain⟨m,hm,q⟩:=meets k x (t%2^k) (gj _ hp)
  by_cases hs:pH m x%2^(k+1)=t
  ·exact⟨m,by omega,hs⟩
  ·refine⟨m+2^k,by omega,?_⟩;rw[C4,GH];rw[e1] at hs h ⊢;generalize hy:pH m x=y at *
   generalize hz:2^k=z at *
   have a1:y%(2*z)=y%z\/y%(2*z)=y%z+z:=by
    have:=Nat.mod_mul_left_div_self y z 2;have h1:=Nat.div_add_mod (y%(2*z)) z;have h2:y%(2*z)%z=y%z:=Nat.mod_mul_left_mod y 2 z;have h3:y%(2*z)<2*z:=gj _ (by omega);have h4:y%(2*z)/z<2:=(g8 hp).mpr h3;rw[h2] at h1;have h5:y%(2*z)/z=0\/y%(2*z)/z=1:=by omega
    rcases h5 with h5 | h5<;>rw[h5] at h1<;>omega
   have a2:t=t%z\/t=t%z+z:=by
    have h1:=Nat.div_add_mod t z;have h4:t/z<2:=(g8 hp).mpr h;have h5:t/z=0\/t/z=1:=by generalize t/z=v at h4;omega
    rcases h5 with h5 | h5<;>rw[h5] at h1<;>omega
   have a3:(y+z)%(2*z)=(y%(2*z)+z)%(2*z):=by rw[Nat.mod_add_mod]
   have lt:=gj t hp;rw[a3]
   rcases a1 with a1 | a1
   ·rw[a1,q]
    rcases a2 with a2 | a2
    ·exfalso;apply hs;omega
    ·rw[c9 (by omega)];omega
   ·rw[a1,q]
    rcases a2 with a2 | a2
    ·rw[show t%z+z+z=t%z+2*z by omega,Nat.add_mod_right,c9 (by omega)];omega
    ·exfalso;apply hs;omega
theorem yI{k x t:Nat}(hx:x<2^k)(h:t<2^k):∃m,m<2^k/\zU (2^k) m x=t:=by
 obtain⟨m,hm,q⟩:=meets k x t h
 refine⟨m,hm,?_⟩
 have:=C3 (M:=2^k) m x
 rw[c9 hx,q,c9 (LZ (Nat.pow_pos (by decide)) m x hx)] at this
 exact this
end St
end
noncomputable section
namespace St
open PySem PySem.SetTable
def Up(xs:Array Nat):Prop:=∀(i j a b:Nat),xs[i]? = some a->xs[j]? = some b->i<j->a<b
theorem Up.inj{xs:Array Nat}(u:Up xs){i j a:Nat}(h1:xs[i]? = some a)(h2:xs[j]? = some a):i=j:=by
 rcases dQ i j with h | h | h
 ·exact absurd (u i j a a h1 h2 h) (bJ _)
 ·exact h
 ·exact absurd (u j i a a h2 h1 h) (bJ _)
theorem Ar{xs:Array Nat}(u:Up xs)(j:Nat):∀(fuel lo hi:Nat),lo<=hi->hi<=xs.size->hi-lo<=fuel ->
  (∀i a,xs[i]? = some a->i<lo->a<j)->(∀i a,xs[i]? = some a->hi<=i->j<=a) ->
  below.go xs j fuel lo hi<=xs.size/\∀i a,xs[i]? = some a->(i<below.go xs j fuel lo hi↔a<j)
 |0,lo,hi,h1,h2,h3,l,r=>by
  have e:lo=hi:=by omega
  subst e;refine⟨h2,λ i a e=>⟨λ q=>l i a e q,λ q=>?_⟩⟩;show i<lo
  by_cases z:i<lo
  ·exact z
  ·have:=r i a e (by omega);omega
 |fuel+1,lo,hi,h1,h2,h3,l,r=>by
  unfold below.go
  by_cases hlt:lo<hi
  ·rw[if_pos hlt];have hm:(lo+hi)/2<xs.size:=by omega
   have em:xs[(lo+hi)/2]? = some xs[(lo+hi)/2]:=bx hm;have ed:xs.getD ((lo+hi)/2) j=xs[(lo+hi)/2]:=by simp[Array.getD,hm]
   simp only[ed]
   by_cases hc:xs[(lo+hi)/2]<j
   ·rw[if_pos hc];refine Ar u j fuel _ _ (by omega) h2 (by omega) (λ i a e q=>?_) r
    rcases fz i ((lo+hi)/2) with z | z
    ·exact Nat.lt_trans (u i _ a _ e em z) hc
    ·have:i=(lo+hi)/2:=by omega
     subst this;rw[em] at e;cases e;exact hc
   ·rw[if_neg hc];refine Ar u j fuel _ _ (by omega) (by omega) (by omega) l (λ i a e q=>?_)
    rcases fz ((lo+hi)/2) i with z | z
    ·have:=u _ i _ a em e z;omega
    ·have:i=(lo+hi)/2:=by omega
     subst this;rw[em] at e;cases e;omega
  ·rw[if_neg hlt];have e:lo=hi:=by omega
   subst e;refine⟨h2,λ i a e=>⟨λ q=>l i a e q,λ q=>?_⟩⟩
   by_cases z:i<lo
   ·exact z
   ·have:=r i a e (by omega);omega
theorem sQ{xs:Array Nat}(u:Up xs)(j:Nat):below xs j<=xs.size/\∀i a,xs[i]? = some a->(i<below xs j↔a<j):=by
 unfold below
 refine Ar u j _ 0 _ (bf _) (aq _) (by omega) (λ i a _ q=>absurd q (by omega)) (λ i a e q=>?_)
 obtain⟨h,_⟩:=bz.mp e
 omega
theorem below_at{xs:Array Nat}(u:Up xs){i j:Nat}(h:xs[i]? = some j):below xs j=i:=by
 obtain⟨h1,h2⟩:=sQ u j
 have a1:=h2 i j h
 obtain⟨hi,_⟩:=bz.mp h
 rcases dQ (below xs j) i with z | z | z
 ·have eb:xs[below xs j]? = some xs[below xs j]:=bx (by omega)
  have:=(h2 _ _ eb)
  have lt:=u _ i _ j eb h z;omega
 ·exact z
 ·omega
theorem RD{xs:Array Nat}(u:Up xs){j:Nat}(h:∀i:Nat,xs[i]?≠some j):(xs[below xs j]? == some j)=false:=by
 cases e:xs[below xs j]? with
 |none=>rfl
 |some a=>
  have:a≠j:=λ z=>h _ (by rw[e,z])
  simpa using this
structure Cp(t:SetTable)(n:Nat):Prop where
 size:t.place.size=n
 up:Up t.place
 le:∀(i j:Nat),t.place[i]? = some j->j<=t.mask
 Ug:t.dummies = #[]
 pow:∃k,3<=k/\t.mask+1=2^k
theorem Cp.live{t:SetTable}{n:Nat}(o:Cp t n){i j:Nat}(h:t.place[i]? = some j):t.slot j=.live i:=by
 unfold SetTable.slot
 simp only[below_at o.up h,h,beq_self_eq_true,if_true]
theorem Cp.empty{t:SetTable}{n:Nat}(o:Cp t n){j:Nat}(h:∀i:Nat,t.place[i]?≠some j):t.slot j=.empty:=by
 unfold SetTable.slot
 simp only[RD o.up h,has,o.Ug]
 rfl
theorem Cp.GI{t:SetTable}{n:Nat}(o:Cp t n)(j:Nat):(∃i,t.place[i]? = some j/\t.slot j=.live i)\/((∀i:Nat,t.place[i]?≠some j)/\t.slot j=.empty):=by
 by_cases h:∃i:Nat,t.place[i]? = some j
 ·obtain⟨i,h⟩:=h
  exact .inl ⟨i,h,o.live h⟩
 ·have h':∀i:Nat,t.place[i]?≠some j:=λ i e=>h ⟨i,e⟩
  exact .inr ⟨h',o.empty h'⟩
theorem Cp.fits{t:SetTable}{n:Nat}(o:Cp t n):t.fill=n:=by
 unfold SetTable.fill;rw[o.size,o.Ug];rfl
theorem j0{α:Type}(xs:Array α)(p:Nat)(x:α)(hp:p<=xs.size)(i:Nat) :
  (insertAt xs p x)[i]? = if i<p then xs[i]? else if i=p then some x else xs[i-1]?:=by
 unfold insertAt
 have s1:((xs.extract 0 p).push x).size=p+1:=by simp;omega
 by_cases h1:i<p
 ·rw[if_pos h1,gk (by omega),Array.getElem?_push_lt (by simp;omega)]
  simp[bx (show i<xs.size by omega)]
 ·rw[if_neg h1]
  by_cases h2:i=p
  ·subst h2;rw[if_pos rfl,gk (by omega)];have:(xs.extract 0 i).size=i:=by simp;omega
   rw[Array.getElem?_push,if_pos this.symm]
  ·rw[if_neg h2,Array.getElem?_append_right (by omega),s1];rw[Array.getElem?_extract]
   by_cases h3:i-(p+1)<xs.size-p
   ·rw[if_pos (by simp;omega)]
    congr 1;omega
   ·rw[if_neg (by simp;omega)];exact (Array.getElem?_eq_none (by omega)).symm
theorem vJ{α:Type}(xs:Array α)(p:Nat)(x:α)(hp:p<=xs.size):(insertAt xs p x).size=xs.size+1:=by
 unfold insertAt;simp;omega
theorem JB{xs:Array Nat}(u:Up xs){j:Nat}(h:∀i:Nat,xs[i]?≠some j):Up (insertAt xs (below xs j) j):=by
 obtain⟨hp,hs⟩:=sQ u j
 intro a b x y ea eb hab
 rw[j0 _ _ _ hp] at ea eb
 have ge:∀i c,xs[i]? = some c->¬i<below xs j->j<c:=λ i c e q=>by
  have h1:¬c<j:=λ z=>q ((hs i c e).mpr z)
  have h2:c≠j:=λ z=>h i (by rw[e,z])
  omega
 split at ea
 ·split at eb
  ·exact u a b x y ea eb hab
  ·split at eb
   ·cases eb;exact (hs a x ea).mp (by assumption)
   ·have h1:=(hs a x ea).mp (by assumption);have h2:=ge (b-1) y eb (by omega);omega
 ·split at ea
  ·cases ea;rw[if_neg (by omega),if_neg (by omega)] at eb;exact ge (b-1) y eb (by omega)
  ·rw[if_neg (by omega),if_neg (by omega)] at eb;exact u (a-1) (b-1) x y ea eb (by omega)
theorem mem_insert{xs:Array Nat}{p j c:Nat}(hp:p<=xs.size):(∃i:Nat,(insertAt xs p j)[i]? = some c)↔c=j\/∃i:Nat,xs[i]? = some c:=by
 constructor
 ·rintro⟨i,e⟩
  rw[j0 _ _ _ hp] at e
  split at e
  ·exact .inr ⟨_,e⟩
  ·split at e
   ·cases e;exact .inl rfl
   ·exact .inr ⟨_,e⟩
 ·rintro (rfl | ⟨i,e⟩)
  ·exact⟨p,by rw[j0 _ _ _ hp,if_neg (by omega),if_pos rfl]⟩
  ·by_cases h:i<p
   ·exact⟨i,by rw[j0 _ _ _ hp,if_pos h];exact e⟩
   ·exact⟨i+1,by rw[j0 _ _ _ hp,if_neg (by omega),if_neg (by omega)];exact e⟩
theorem Cp.put{t:SetTable}{n j:Nat}(o:Cp t n)(h:∀i:Nat,t.place[i]?≠some j)(hj:j<=t.mask) :
  (t.put j).2=below t.place j/\Cp (t.put j).1 (n+1)/\(t.put j).1.place=insertAt t.place (below t.place j) j/\(t.put j).1.mask=t.mask/\(t.put j).1.plain=t.plain/\(t.put j).1.led=t.led/\(t.put j).1.moves=t.moves:=by
 obtain⟨hp,_⟩:=sQ o.up j
 have hd:has t.dummies j=false:=by rw[o.Ug];rfl
 have ep:t.put j=({ t with place:=insertAt t.place (below t.place j) j },below t.place j):=by
  unfold SetTable.put;rw[hd];rfl
 rw[ep]
 refine⟨rfl,⟨?_,JB o.up h,λ i c e=>?_,o.Ug,o.pow⟩,rfl,rfl,rfl,rfl,rfl⟩
 ·show (insertAt t.place (below t.place j) j).size=n+1
  rw[vJ _ _ _ hp,o.size]
 ·rcases (mem_insert hp).mp ⟨i,e⟩ with rfl | ⟨i',e'⟩
  ·exact hj
  ·exact o.le i' c e'
end St
end
noncomputable section
namespace St
open PySem PySem.SetTable
def pr(t:SetTable)(h:Int):Nat->Probe
 |0=>t.probeStart h
 |m+1=>t.advance (pr t h m)
def lp(mask:Nat)(h:Int):Nat->Nat×Nat
 |0=>(bits h%(mask+1),bits h)
 |l+1=>leap mask (lp mask h l).1 (lp mask h l).2
def lA(mask i:Nat):Nat:=runEnd mask i-i
theorem JC(mask i:Nat):lA mask i<=9:=by unfold lA runEnd;split<;>omega
theorem D0{mask i d:Nat}(hi:i<=mask)(hd:d<=lA mask i):i+d<=mask:=by unfold lA runEnd at hd;split at hd<;>omega
def idx(mask:Nat)(h:Int):Nat->Nat
 |0=>0
 |l+1=>idx mask h l+lA mask (lp mask h l).1+1
theorem GJ(mask:Nat)(h:Int):∀l,idx mask h l<=10*l
 |0=>aq _
 |l+1=>by
  have:=GJ mask h l;have:=JC mask (lp mask h l).1;unfold idx;omega
theorem D6(t:SetTable)(h:Int):∀l d,d<=lA t.mask (lp t.mask h l).1 ->
  pr t h (idx t.mask h l+d) = { j:=(lp t.mask h l).1+d,more:=lA t.mask (lp t.mask h l).1-d,i:=(lp t.mask h l).1,perturb:=(lp t.mask h l).2,dummy:=none }:=by
 intro l
 induction l with
 |zero=>
  intro d
  induction d with
  |zero=>intro _;rfl
  |succ d ih=>
   intro hd;have q:=ih (by omega);rw[<-Nat.add_assoc];show t.advance (pr t h (idx t.mask h 0+d))=_;rw[q];unfold SetTable.advance;simp only
   rw[if_pos (by omega)];simp only[Probe.mk.injEq,true_and,and_true]
   omega
 |succ l il=>
  intro d
  induction d with
  |zero=>
   intro _;have q:=il (lA t.mask (lp t.mask h l).1) (aq _);show pr t h (idx t.mask h l+lA t.mask (lp t.mask h l).1+1)=_;show t.advance (pr t h (idx t.mask h l+lA t.mask (lp t.mask h l).1))=_;rw[q];unfold SetTable.advance;simp only
   rw[if_neg (by omega)];rfl
  |succ d ih=>
   intro hd;have q:=ih (by omega);rw[<-Nat.add_assoc];show t.advance (pr t h (idx t.mask h (l+1)+d))=_;rw[q];unfold SetTable.advance;simp only
   rw[if_pos (by omega)];simp only[Probe.mk.injEq,true_and,and_true]
   omega
theorem L7(mask:Nat)(h:Int):∀m,∃l d,d<=lA mask (lp mask h l).1/\m=idx mask h l+d
 |0=>⟨0,0,bf _,rfl⟩
 |m+1=>by
  obtain⟨l,d,hd,e⟩:=L7 mask h m
  by_cases q:d<lA mask (lp mask h l).1
  ·exact⟨l,d+1,q,by omega⟩
  ·refine⟨l+1,0,bf _,?_⟩;show m+1=idx mask h l+lA mask (lp mask h l).1+1+0;omega
theorem Fc{mask:Nat}(h:Int):∀l,(lp mask h l).1<=mask
 |0=>dR (gj _ (Nat.succ_pos _))
 |l+1=>dR (gj _ (Nat.succ_pos _))
theorem HU(t:SetTable)(h:Int)(m:Nat):(pr t h m).j<=t.mask/\(pr t h m).dummy=none:=by
 obtain⟨l,d,hd,rfl⟩:=L7 t.mask h m
 rw[D6 t h l d hd]
 exact⟨D0 (Fc h l) hd,rfl⟩
theorem O3(h:Int):bits h<2^64:=by
 unfold bits
 have h1:(0:Int)<=h%2^64:=Int.emod_nonneg _ (by decide)
 have h2:h%2^64<2^64:=Int.emod_lt_of_pos _ (by decide)
 omega
theorem HV{mask:Nat}{h:Int}:∀l,(lp mask h l).2=bits h/32^l
 |0=>by show bits h=_;simp
 |l+1=>by
  show (lp mask h l).2/32=_;rw[HV l,gS,b9]
theorem D7(mask:Nat)(h:Int):∀m,(lp mask h (12+m)).1=zU (mask+1) m (lp mask h 12).1
 |0=>rfl
 |m+1=>by
  have z:(lp mask h (12+m)).2/32=0:=by
   rw[HV,gS,<-b9];refine Nat.div_eq_of_lt (aH (O3 h) ?_);exact bg (show 2^64<=32^13 by decide) (dY (by decide) (by omega))
  show ((lp mask h (12+m)).1*5+1+(lp mask h (12+m)).2/32)%(mask+1)=_;rw[z,gT,D7 mask h m,xj (mask+1) m 1,zU,zU]
theorem JD{t:SetTable}{n:Nat}(o:Cp t n)(hn:n<=t.mask):∃j,j<=t.mask/\∀i:Nat,t.place[i]?≠some j:=by
 refine aG λ z=>?_
 have all:∀j,j<=t.mask->∃i,t.place[i]? = some j:=λ j hj=>aG λ q=>z ⟨j,hj,λ i e=>q ⟨i,e⟩⟩
 have key:∀j,j<=t.mask->∀i,t.place[i]? = some j->j<=i:=by
  intro j
  induction j with
  |zero=>intro _ i _;exact bf _
  |succ j ih=>
   intro hj i e;obtain⟨i',e'⟩:=all j (by omega);have h1:=ih (by omega) i' e'
   rcases dQ i' i with q | q | q
   ·omega
   ·subst q;rw[e] at e';cases e'
   ·have:=o.up _ _ _ _ e e' q;omega
 obtain⟨i,e⟩:=all t.mask (aq _)
 have h1:=key _ (aq _) i e
 obtain⟨h2,_⟩:=bz.mp e
 have:=o.size
 omega
def o7(t:SetTable)(j:Nat):Prop:=∀i:Nat,t.place[i]?≠some j
theorem xm{p:Nat->Prop}:∀m,p m->∃f,f<=m/\p f/\∀i,i<f->¬p i:=by
 intro m
 induction m using g6 with
 |ind m ih=>
  intro h
  by_cases q:∃i,i<m/\p i
  ·obtain⟨i,hi,hp⟩:=q;obtain⟨f,h1,h2,h3⟩:=ih i hi hp;exact⟨f,by omega,h2,h3⟩
  ·exact⟨m,aq _,h,λ i hi hp=>q ⟨i,hi,hp⟩⟩
theorem GK{t:SetTable}{n:Nat}(o:Cp t n)(hn:n<=t.mask)(h:Int):∃T,T<=10*(12+t.mask)/\o7 t (pr t h T).j/\∀m,m<T->¬o7 t (pr t h m).j:=by
 obtain⟨j,hj,fj⟩:=JD o hn
 obtain⟨k,hk,ek⟩:=o.pow
 have hx:(lp t.mask h 12).1<2^k:=by rw[<-ek];exact dS (Fc h 12)
 obtain⟨m,hm,e⟩:=yI hx (show j<2^k by omega)
 rw[<-ek,<-D7] at e
 have Zs:=D6 t h (12+m) 0 (bf _)
 have hfree:o7 t (pr t h (idx t.mask h (12+m)+0)).j:=by
  rw[Zs];show o7 t ((lp t.mask h (12+m)).1+0);rw[e];exact fj
 obtain⟨T,h1,h2,h3⟩:=xm (p:=λ m=>o7 t (pr t h m).j) _ hfree
 have:=GJ t.mask h (12+m)
 exact⟨T,by omega,h2,h3⟩
theorem As{t:SetTable}{n:Nat}(o:Cp t n)(hashAt:Nat->Int)(h:Int){T:Nat}(hT:o7 t (pr t h T).j)(hl:∀m,m<T->¬o7 t (pr t h m).j):∀(fuel m:Nat),m<=T->T-m<fuel ->
  ((∀c,m<=c->c<T->∀i,t.place[i]? = some (pr t h c).j->hashAt i≠h)/\probe.go t hashAt h fuel (pr t h m)=some (.empty (pr t h T).j none)) \/
  (∃c i,m<=c/\c<T/\t.place[i]? = some (pr t h c).j/\hashAt i=h/\(∀c',m<=c'->c'<c->∀i,t.place[i]? = some (pr t h c').j->hashAt i≠h) /\
   probe.go t hashAt h fuel (pr t h m)=some (.candidate (pr t h c).j i (pr t h (c+1))))
 |0,m,_,h2=>by omega
 |fuel+1,m,h1,h2=>by
  rcases o.GI (pr t h m).j with ⟨i,e,es⟩ | ⟨e,es⟩
  ·have hm:m<T:=by
    rcases fz m T with q | q
    ·exact q
    ·have:m=T:=by omega
     subst this;exact absurd e (hT i)
   by_cases hh:hashAt i=h
   ·right
    refine⟨m,i,aq _,hm,e,hh,λ c' a b=>by omega,?_⟩;unfold probe.go;simp only[es,hh,beq_self_eq_true,if_true]
    rfl
   ·have hs:probe.go t hashAt h (fuel+1) (pr t h m)=probe.go t hashAt h fuel (pr t h (m+1)):=by
     conv=>lhs;unfold probe.go
     have:(hashAt i==h)=false:=by simpa using hh
     simp only[es,this,aI,if_false]
     rfl
    have Jx:∀i',t.place[i']? = some (pr t h m).j->hashAt i'≠h:=λ i' e'=>by rw[o.up.inj e' e];exact hh
    rw[hs]
    rcases As o hashAt h hT hl fuel (m+1) hm (by omega) with ⟨a,b⟩ | ⟨c,i2,a1,a2,a3,a4,a5,a6⟩
    ·left
     refine⟨λ c h3 h4 i' e'=>?_,b⟩
     rcases gn h3 with q | q
     ·subst q;exact Jx i' e'
     ·exact a c q h4 i' e'
    ·right
     refine⟨c,i2,by omega,a2,a3,a4,λ c' h3 h4 i' e'=>?_,a6⟩
     rcases gn h3 with q | q
     ·subst q;exact Jx i' e'
     ·exact a5 c' q h4 i' e'
  ·have hm:m=T:=by
    rcases fz m T with q | q
    ·exact absurd e (hl m q)
    ·omega
   subst hm
   left
   refine⟨λ c a b=>by omega,?_⟩;unfold probe.go;simp only[es,(HU t h m).2]
theorem L8{t:SetTable}{n:Nat}(o:Cp t n)(hashAt:Nat->Int)(h:Int){T:Nat}(hT:o7 t (pr t h T).j)(hl:∀m,m<T->¬o7 t (pr t h m).j)(hb:T<=10*(12+t.mask)){m:Nat}(hm:m<=T) :
  ((∀c,m<=c->c<T->∀i,t.place[i]? = some (pr t h c).j->hashAt i≠h)/\t.probe hashAt h (pr t h m)=some (.empty (pr t h T).j none)) \/
  (∃c i,m<=c/\c<T/\t.place[i]? = some (pr t h c).j/\hashAt i=h/\(∀c',m<=c'->c'<c->∀i,t.place[i]? = some (pr t h c').j->hashAt i≠h) /\
   t.probe hashAt h (pr t h m)=some (.candidate (pr t h c).j i (pr t h (c+1)))):=by
 unfold SetTable.probe
 exact As o hashAt h hT hl _ m hm (by unfold turns;omega)
end St
end
noncomputable section
namespace St
open PySem PySem.SetTable
def tb(mask:Nat):SetTable:={ mask,place:=#[],dummies:=#[],finger:=0,led:=false,moves:=0,plain:=false }
def pj(mask:Nat)(h:Int)(m:Nat):Nat:=(pr (tb mask) h m).j
theorem QF(t:SetTable)(h:Int):∀m,pr t h m=pr (tb t.mask) h m
 |0=>rfl
 |m+1=>by
  show t.advance (pr t h m)=(tb t.mask).advance (pr (tb t.mask) h m);rw[QF t h m];rfl
theorem Fd(t:SetTable)(h:Int)(m:Nat):(pr t h m).j=pj t.mask h m:=by rw[QF];rfl
theorem Au(mask:Nat)(h:Int)(l d:Nat)(hd:d<=lA mask (lp mask h l).1):pj mask h (idx mask h l+d)=(lp mask h l).1+d:=by
 exact congrArg Probe.j (D6 (tb mask) h l d hd)
theorem Uh(mask:Nat)(h:Int)(m:Nat):pj mask h m<=mask:=(HU (tb mask) h m).1
def RE(mask:Nat)(Gp:Nat->Prop)(h:Int)(j:Nat):Prop:=∃c,pj mask h c=j/\∀m,m<c->Gp (pj mask h m)
theorem RE.mono{mask:Nat}{Gp Ui:Nat->Prop}{h:Int}{j:Nat}(r:RE mask Gp h j)(i:∀x,Gp x->Ui x):RE mask Ui h j:=
 let ⟨c,e,a⟩:=r;⟨c,e,λ m hm=>i _ (a m hm)⟩
theorem Fe(mask:Nat)(h:Int):∀{a b:Nat},a<=b->idx mask h a<=idx mask h b:=by
 intro a b hab
 induction hab with
 |refl=>exact aq _
 |step _ ih=>exact bg ih (by show _<=idx mask h _+_+1;omega)
theorem RG(mask:Nat)(h:Int){a b:Nat}(hab:a<b):idx mask h a<idx mask h b:=
 aH (show idx mask h a<idx mask h (a+1) by show _<idx mask h a+_+1;omega) (Fe mask h hab)
theorem Ff{mask k:Nat}(hk:mask+1=2^k)(Gp:Nat->Prop)(hf:∃j,j<=mask/\¬Gp j)(h:Int):∃T,T<=idx mask h (12+mask)/\¬Gp (pj mask h T)/\∀m,m<T->Gp (pj mask h m):=by
 obtain⟨j,hj,fj⟩:=hf
 have hx:(lp mask h 12).1<2^k:=by rw[<-hk];exact dS (Fc h 12)
 obtain⟨m,hm,e⟩:=yI hx (show j<2^k by omega)
 rw[<-hk,<-D7] at e
 have hfree:¬Gp (pj mask h (idx mask h (12+m)+0)):=by
  rw[Au mask h _ 0 (bf _),gT,e];exact fj
 obtain⟨T,h1,h2,h3⟩:=xm (p:=λ m=>¬Gp (pj mask h m)) _ hfree
 have:=Fe mask h (show 12+m<=12+mask by omega)
 exact⟨T,by omega,h2,λ m hm=>aG (h3 m hm)⟩
def oc(owner:Array (Option Nat))(j:Nat):Prop:=∃k,owner[j]? = some (some k)
theorem C5{mask:Nat}{owner:Array (Option Nat)}(hs:owner.size=mask+1)(h:Int){T:Nat}(hT:¬oc owner (pj mask h T)):∀(fuel l:Nat),idx mask h l<=T->T<idx mask h (l+fuel) ->
  (∀m,idx mask h l<=m->m<T->oc owner (pj mask h m))->layClean.free mask owner fuel (lp mask h l).1 (lp mask h l).2=some (pj mask h T)
 |0,l,h1,h2,_=>by rw[gT] at h2;omega
 |fuel+1,l,h1,h2,h3=>by
  have Av:∀j,j<=mask->((owner.getD j (some 0)).isNone=true↔¬oc owner j):=λ j hj=>by
   have hj':j<owner.size:=by omega
   have e1:owner.getD j (some 0)=owner[j]:=by simp[Array.getD,hj']
   have e2:owner[j]? = some owner[j]:=bx hj';rw[e1];unfold oc;rw[e2];generalize owner[j]=q
   cases q<;>simp
  have hle:=Fc (mask:=mask) h l;unfold layClean.free;have er:runEnd mask (lp mask h l).1+1-(lp mask h l).1=lA mask (lp mask h l).1+1:=by
   unfold lA runEnd;split<;>omega
  simp only[er]
  by_cases q:T<=idx mask h l+lA mask (lp mask h l).1
  ·obtain⟨d,hd⟩:∃d,T=idx mask h l+d:=⟨T-idx mask h l,by omega⟩
   have hdl:d<=lA mask (lp mask h l).1:=by omega
   have e:(aB (lA mask (lp mask h l).1+1)).find? (λ k=>(owner.getD ((lp mask h l).1+k) (some 0)).isNone)=some d:=by
    rw[gF];refine⟨(Av _ (D0 hle hdl)).mpr ?_,aX.mpr (by omega),λ k hk=>?_⟩
    ·rw[<-Au mask h l d hdl,<-hd];exact hT
    ·have:=h3 (idx mask h l+k) (by omega) (by omega);rw[Au mask h l k (by omega)] at this;have nn:¬(owner.getD ((lp mask h l).1+k) (some 0)).isNone=true:=λ z=>(Av _ (D0 hle (by omega))).mp z this
     rw[gJ] at nn;rw[nn];rfl
   rw[e];show some ((lp mask h l).1+d)=_;rw[<-Au mask h l d hdl,<-hd]
  ·have e:(aB (lA mask (lp mask h l).1+1)).find? (λ k=>(owner.getD ((lp mask h l).1+k) (some 0)).isNone)=none:=by
    rw[List.find?_eq_none];intro k hk z;have hk:=aX.mp hk;have:=h3 (idx mask h l+k) (by omega) (by omega);rw[Au mask h l k (by omega)] at this;exact (Av _ (D0 hle (by omega))).mp z this
   rw[e];show layClean.free mask owner fuel (lp mask h (l+1)).1 (lp mask h (l+1)).2=_;have ei:idx mask h (l+1)=idx mask h l+lA mask (lp mask h l).1+1:=rfl;refine C5 hs h hT fuel (l+1) (by omega) (by rw[show l+1+fuel=l+(fuel+1) by omega];exact h2) λ m a b=>h3 m (by omega) b
structure Own(mask:Nat)(hs:Array Int)(owner:Array (Option Nat))(k:Nat):Prop where
 size:owner.size=mask+1
 lt:∀(j i:Nat),owner[j]? = some (some i)->i<k
 has:∀i,i<k->∃j:Nat,owner[j]? = some (some i)
 inj:∀(j j' i:Nat),owner[j]? = some (some i)->owner[j']? = some (some i)->j=j'
 Lg:∀(j i:Nat) (h:Int),owner[j]? = some (some i)->hs[i]? = some h->RE mask (oc owner) h j
theorem uo:∀(l m:List Nat),l.Nodup->(∀x,x∈l->x∈m)->l.length<=m.length
 |[],_,_,_=>bf _
 |x::l,m,hn,hs=>by
  have hx:=hs x aO;have h1:=uo l (m.erase x) (cR.mp hn).2 λ y hy=>by
   have ne:y≠x:=λ e=>(cR.mp hn).1 (e ▸ hy)
   exact (ig ne).mpr (hs y (aL _ hy))
  rw[gG hx] at h1;have:=gW hx;simp only[aJ];omega
theorem Own.free{mask k:Nat}{hs:Array Int}{owner:Array (Option Nat)}(o:Own mask hs owner k)(hk:k<=mask):∃j,j<=mask/\¬oc owner j:=by
 refine aG λ z=>?_
 have all:∀j,j<=mask->oc owner j:=λ j hj=>aG λ q=>z ⟨j,hj,q⟩
 have:=uo ((aB (mask+1)).map λ j=>((owner[j]?).bind id).getD 0) (aB k) (by
  rw[List.Nodup,cS];refine eU (λ {a b} ha hb (hab:a≠b) e=>?_) gK;obtain⟨i,ei⟩:=all a (dR (aX.mp ha));obtain⟨i',XY⟩:=all b (dR (aX.mp hb));rw[ei,XY] at e;have e:i=i':=e;subst e;exact hab (o.inj a b i ei XY)) (λ x hx=>by
  obtain⟨j,hj,rfl⟩:=az.mp hx;obtain⟨i,ei⟩:=all j (dR (aX.mp hj));rw[ei];exact aX.mpr (o.lt j i ei))
 simp at this
 omega
theorem Own.step{mask k:Nat}{hs:Array Int}{owner:Array (Option Nat)}{h:Int}(hp:∃r,mask+1=2^r)(o:Own mask hs owner k)(hk:k<=mask)(hh:hs[k]? = some h) :
  ∃j,layClean.free mask owner (turns mask) (bits h%(mask+1)) (bits h)=some j/\Own mask hs (owner.setIfInBounds j (some k)) (k+1):=by
 obtain⟨r,er⟩:=hp
 obtain⟨T,h1,h2,h3⟩:=Ff er (oc owner) (o.free hk) h
 have hjm:=Uh mask h T
 have Zt:pj mask h T<owner.size:=by rw[o.size];omega
 have get:∀j':Nat,(owner.setIfInBounds (pj mask h T) (some k))[j']? = if pj mask h T=j' then some (some k) else owner[j']?:=λ j'=>by
  rw[Array.getElem?_setIfInBounds]
  split
  ·rename_i e;subst e;first | rfl | rw[if_pos Zt]
  ·rfl
 have Ma:∀x,oc owner x->oc (owner.setIfInBounds (pj mask h T) (some k)) x:=λ x ⟨i,e⟩=>by
  by_cases q:pj mask h T=x
  ·exact⟨k,by rw[get,if_pos q]⟩
  ·exact⟨i,by rw[get,if_neg q];exact e⟩
 refine⟨pj mask h T,C5 o.size h h2 (turns mask) 0 (bf _) ?_ λ m _ hm=>h3 m hm,?_⟩
 ·rw[iR]
  exact bF h1 (RG mask h (by unfold turns;omega))
 ·refine⟨by rw[Array.size_setIfInBounds];exact o.size,λ j i e=>?_,λ i hi=>?_,λ j j' i e e'=>?_,λ j i h' e eh=>?_⟩
  ·rw[get] at e
   split at e
   ·cases e;omega
   ·have:=o.lt j i e;omega
  ·by_cases q:i=k
   ·exact⟨pj mask h T,by rw[get,if_pos rfl,q]⟩
   ·obtain⟨j,e⟩:=o.has i (by omega);refine⟨j,?_⟩;rw[get,if_neg]
    ·exact e
    ·rintro rfl;exact h2 ⟨i,e⟩
  ·rw[get] at e e'
   split at e
   ·cases e
    split at e'
    ·omega
    ·have:=o.lt j' _ e';omega
   ·split at e'
    ·cases e';have:=o.lt j _ e;omega
    ·exact o.inj j j' i e e'
  ·rw[get] at e
   split at e
   ·rename_i ej
    cases e;rw[hh] at eh;cases eh;exact⟨T,ej,λ m hm=>Ma _ (h3 m hm)⟩
   ·exact (o.Lg j i h' e eh).mono Ma
end St
end
noncomputable section
namespace St
open PySem PySem.SetTable
theorem Fg{mask:Nat}(hp:∃r,mask+1=2^r)(hs:Array Int)(hn:hs.size<=mask)(F:Option (Array (Option Nat)×Nat)->Int->Option (Array (Option Nat)×Nat))
  (hF:∀(owner:Array (Option Nat)) (k:Nat) (h:Int),F (some (owner,k)) h=(layClean.free mask owner (turns mask) (bits h%(mask+1)) (bits h)).bind λ j=>some (owner.setIfInBounds j (some k),k+1)) :
  ∀(l:List Int) (k:Nat) (owner:Array (Option Nat)),Own mask hs owner k->k+l.length=hs.size->hs.toList.drop k=l->∃owner',l.foldl F (some (owner,k))=some (owner',hs.size)/\Own mask hs owner' hs.size
 |[],k,owner,o,hl,e=>by
  have:k=hs.size:=by simpa using hl
  subst this;exact⟨owner,rfl,o⟩
 |h::l,k,owner,o,hl,e=>by
  have hk:k<hs.size:=by simp at hl;omega
  have hh:hs[k]? = some h:=by
   have:hs.toList[k]? = some h:=by
    have q:=congrArg (λ m=>m[0]?) e
    simpa using q
   simpa using this
  obtain⟨j,e1,o'⟩:=o.step hp (by omega) hh;obtain⟨ow,e2,o2⟩:=Fg hp hs hn F hF l (k+1) _ o' (by simp at hl;omega) (by
   have q:=congrArg List.tail e;rw[List.tail_drop] at q;exact q)
  refine⟨ow,?_,o2⟩;rw[dG,hF,e1];exact e2
theorem JE{mask:Nat}(hp:∃r,mask+1=2^r)(hs:Array Int)(hn:hs.size<=mask):∃owner,layClean mask hs=some owner/\Own mask hs owner hs.size:=by
 have o0:Own mask hs (Array.replicate (mask+1) none) 0:=by
  have no:∀(j i:Nat),(Array.replicate (mask+1) (none:Option Nat))[j]?≠some (some i):=λ j i e=>by
   rw[Array.getElem?_replicate] at e
   split at e<;>cases e
  exact⟨by simp,λ j i e=>absurd e (no j i),λ i h=>by omega,λ j _ i e=>absurd e (no j i),λ j i _ e=>absurd e (no j i)⟩
 unfold layClean
 rw[<-Array.foldl_toList]
 obtain⟨ow,e,o⟩:=Fg hp hs hn (λ acc h=>do
  let (owner,k) <-acc
  let j <-layClean.free mask owner (turns mask) (bits h%(mask+1)) (bits h)
  pure (owner.setIfInBounds j (some k),k+1)) (λ owner k h=>rfl) hs.toList 0 _ o0 (by simp) rfl
 exact⟨ow,congrArg (Option.map (·.1)) e,o⟩
def kU(mask:Nat)(owner:Array (Option Nat)):List (Nat×Nat):=(aB (mask+1)).filterMap λ j=>(owner.getD j none).map (j,·)
theorem pX{mask:Nat}{owner:Array (Option Nat)}(hs:owner.size=mask+1){j i:Nat}:(j,i)∈kU mask owner↔owner[j]? = some (some i):=by
 have gd:∀j,owner.getD j none=(owner[j]?).getD none:=λ j=>by
  rw[Array.getD_eq_getD_getElem?]
 unfold kU
 rw[eZ]
 constructor
 ·rintro⟨j',h1,h2⟩
  rw[gd] at h2
  cases e:owner[j']? with
  |none=>rw[e] at h2;cases h2
  |some v=>
   rw[e] at h2
   cases v with
   |none=>cases h2
   |some i'=>
    have h2:some (j',i')=some (j,i):=h2
    cases h2;exact e
 ·intro e
  obtain⟨h,_⟩:=bz.mp e;exact⟨j,aX.mpr (by omega),by rw[gd,e];rfl⟩
theorem C6(mask:Nat)(owner:Array (Option Nat)):(kU mask owner).Pairwise λ a b=>a.1<b.1:=by
 unfold kU
 rw[List.pairwise_filterMap]
 refine cT (λ {a b} hab=>?_) gX
 intro x hx y hy
 cases e:owner.getD a none with
 |none=>rw[e] at hx;cases hx
 |some v=>
  cases e':owner.getD b none with
  |none=>rw[e'] at hy;cases hy
  |some v'=>
   rw[e] at hx;rw[e'] at hy
   cases hx;cases hy;exact hab
theorem Mb{mask n:Nat}{hs:Array Int}{owner:Array (Option Nat)}(o:Own mask hs owner n):(kU mask owner).length=n:=by
 have nd:((kU mask owner).map (·.2)).Nodup:=by
  rw[List.Nodup,cS];refine eU (λ {a b} ha hb hab e=>?_) (C6 mask owner);obtain⟨a1,a2⟩:=a;obtain⟨b1,b2⟩:=b;have e:a2=b2:=e;subst e;have:=o.inj a1 b1 a2 ((pX o.size).mp ha) ((pX o.size).mp hb);have hab:a1<b1:=hab;omega
 have h1:=uo _ (aB n) nd (λ x hx=>by
  obtain⟨⟨j,i⟩,hm,rfl⟩:=az.mp hx;exact aX.mpr (o.lt j i ((pX o.size).mp hm)))
 have h2:=uo (aB n) ((kU mask owner).map (·.2)) gK (λ x hx=>by
  obtain⟨j,e⟩:=o.has x (aX.mp hx);exact az.mpr ⟨(j,x),(pX o.size).mpr e,rfl⟩)
 simp only[ah,cH] at h1 h2
 omega
theorem O4{mask:Nat}(hp:∃r,3<=r/\mask+1=2^r)(finger moves:Nat)(led plain:Bool)(hs:Array Int)(hn:hs.size<=mask) :
  ∃t order,laid mask finger moves led plain hs=some (t,order)/\Cp t hs.size/\t.mask=mask/\t.led=led/\t.plain=plain/\t.moves=moves/\order.size=hs.size /\
   (∀(r o:Nat),order[r]? = some o->o<hs.size)/\(∀(r r' o:Nat),order[r]? = some o->order[r']? = some o->r=r')/\(∀o,o<hs.size->∃r:Nat,order[r]? = some o) /\
   (∀(r o j:Nat) (h:Int),order[r]? = some o->t.place[r]? = some j->hs[o]? = some h->RE mask (λ x=>∃i:Nat,t.place[i]? = some x) h j):=by
 obtain⟨r,hr,er⟩:=hp
 obtain⟨owner,e,o⟩:=JE ⟨r,er⟩ hs hn
 have len:=Mb o
 have pl:∀i:Nat,(((kU mask owner).map (·.1)).toArray)[i]? = ((kU mask owner)[i]?).map (·.1):=λ i=>by simp
 have od:∀i:Nat,(((kU mask owner).map (·.2)).toArray)[i]? = ((kU mask owner)[i]?).map (·.2):=λ i=>by simp
 have rise:∀(i i':Nat) (a b:Nat×Nat),(kU mask owner)[i]? = some a->(kU mask owner)[i']? = some b->i<i'->a.1<b.1:=λ i i' a b ea eb hlt=>by
  obtain⟨h1,e1⟩:=ao.mp ea;obtain⟨h2,e2⟩:=ao.mp eb;have:=List.pairwise_iff_getElem.mp (C6 mask owner) i i' h1 h2 hlt;rw[e1,e2] at this;exact this
 have Gp:∀x,oc owner x->∃i:Nat,(((kU mask owner).map (·.1)).toArray)[i]? = some x:=λ x ⟨k,ek⟩=>by
  obtain⟨i,hi,ei⟩:=bR ((pX o.size).mpr ek);exact⟨i,by rw[pl,af hi,ei];rfl⟩
 have at_:∀(i:Nat) (a:Nat×Nat),(kU mask owner)[i]? = some a->owner[a.1]? = some (some a.2):=λ i a ea=>(pX o.size).mp (au ea)
 refine⟨{ mask,place:=((kU mask owner).map (·.1)).toArray,dummies:=#[],finger,led,moves,plain },((kU mask owner).map (·.2)).toArray,?_,⟨by simpa using len,λ i i' a b ea eb hlt=>?_,λ i j ej=>?_,rfl,⟨r,hr,er⟩⟩,rfl,rfl,rfl,rfl,by simpa using len,λ i v ev=>?_,λ i i' v ev ev'=>?_,λ v hv=>?_,λ i v j h ev ej eh=>?_⟩
 ·unfold laid
  rw[e];rfl
 ·simp only[pl] at ea eb
  cases q:(kU mask owner)[i]? with
  |none=>rw[q] at ea;cases ea
  |some x=>
   cases q':(kU mask owner)[i']? with
   |none=>rw[q'] at eb;cases eb
   |some y=>
    rw[q] at ea;rw[q'] at eb
    cases ea;cases eb;exact rise i i' x y q q' hlt
 ·simp only[pl] at ej
  cases q:(kU mask owner)[i]? with
  |none=>rw[q] at ej;cases ej
  |some x=>
   rw[q] at ej;cases ej;obtain⟨h,_⟩:=bz.mp (at_ i x q);have:=o.size;show x.1<=mask;omega
 ·rw[od] at ev
  cases q:(kU mask owner)[i]? with
  |none=>rw[q] at ev;cases ev
  |some x=>
   rw[q] at ev;cases ev;exact o.lt _ _ (at_ i x q)
 ·rw[od] at ev ev'
  cases q:(kU mask owner)[i]? with
  |none=>rw[q] at ev;cases ev
  |some x=>
   cases q':(kU mask owner)[i']? with
   |none=>rw[q'] at ev';cases ev'
   |some y=>
    rw[q] at ev;rw[q'] at ev';have ev:some x.2=some v:=ev;have ev':some y.2=some v:=ev'
    cases ev;have e2:y.2=x.2:=aR ev';have h1:=at_ i x q;have h2:=at_ i' y q';rw[e2] at h2;have:=o.inj _ _ _ h1 h2
    rcases dQ i i' with z | z | z
    ·have:=rise i i' x y q q' z;omega
    ·exact z
    ·have:=rise i' i y x q' q z;omega
 ·obtain⟨j,ej⟩:=o.has v hv
  obtain⟨i,hi,ei⟩:=bR ((pX o.size).mpr ej);exact⟨i,by rw[od,af hi,ei];rfl⟩
 ·rw[od] at ev
  simp only[pl] at ej
  cases q:(kU mask owner)[i]? with
  |none=>rw[q] at ev;cases ev
  |some x=>
   rw[q] at ev ej
   cases ev;cases ej;exact (o.Lg _ _ h (at_ i x q) eh).mono Gp
end St
end
noncomputable section
namespace St
open PySem PySem.SetTable
def O5(x:Nat):Nat:=x/2^0%2+x/2^1%2+x/2^2%2+x/2^3%2+x/2^4%2+x/2^5%2+x/2^6%2+x/2^7%2+x/2^8%2+x/2^9%2
def walk(M:Nat):Nat->Nat->Nat->Nat->Nat×Nat
 |0,c,_,n=>(c,n)
 |s+1,c,W,n=>if c+10<=M then walk M s ((c*5+1)%M) (W ||| (1023 <<< c)) (n+(10-O5 ((W >>> c)%1024))) else walk M s ((c*5+1)%M) W n
def D8(M bound:Nat):Nat->Nat->Bool
 |0,_=>true
 |t+1,c=>Nat.blt bound (walk M 4096 c 0 0).2&&D8 M bound t (walk M 4096 c 0 0).1
theorem Fi(M:Nat):∀s c W n,(walk M s c W n).1=zU M s c
 |0,_,_,_=>rfl
 |s+1,c,W,n=>by
  unfold walk
  split<;>rw[Fi M s]<;>rfl
theorem vK(W c d:Nat)(hd:d<10):(W >>> c)%1024/2^d%2=(W.testBit (c+d)).toNat:=by
 rw[<-Nat.toNat_testBit,show 1024=2^10 from rfl,Nat.testBit_mod_two_pow,Nat.testBit_shiftRight,decide_eq_true hd,bY]
theorem Uj(f:Nat->Bool):∀l:List Nat,(l.filter λ d=>!f d).length+(l.map λ d=>(f d).toNat).sum=l.length
 |[]=>rfl
 |d::l=>by
  have:=Uj f l
  cases e:f d<;>simp[e]<;>omega
theorem O6(W c:Nat):((aB 10).filter λ d=>!W.testBit (c+d)).length=10-O5 ((W >>> c)%1024):=by
 have h:=Uj (λ d=>W.testBit (c+d)) (aB 10)
 have e:aB 10=[0,1,2,3,4,5,6,7,8,9]:=by decide
 have e2:((aB 10).map λ d=>(W.testBit (c+d)).toNat).sum=O5 ((W >>> c)%1024):=by
  unfold O5;rw[vK W c 0 (by decide),vK W c 1 (by decide),vK W c 2 (by decide),vK W c 3 (by decide),vK W c 4 (by decide),vK W c 5 (by decide),vK W c 6 (by decide),vK W c 7 (by decide),vK W c 8 (by decide),vK W c 9 (by decide),e];simp only[aT,bO,cV,List.sum_nil]
  omega
 rw[e2] at h
 simp only[cH] at h
 omega
theorem RH(W c j:Nat):(W ||| (1023 <<< c)).testBit j=(W.testBit j||(decide (c<=j)&&decide (j<c+10))):=by
 rw[Nat.testBit_or,Nat.testBit_shiftLeft,show 1023=2^10-1 from rfl,Nat.testBit_two_pow_sub_one]
 congr 1
 by_cases h:c<=j
 ·simp only[ge_iff_le,h,decide_true,bY]
  congr 1
  exact propext ⟨λ _=>by omega,λ _=>by omega⟩
 ·simp[h]
theorem D9{M:Nat}(L:Nat->Prop):∀(s c W n:Nat) (l:List Nat),l.Nodup->(∀j,j∈l->L j)->n<=l.length->(∀j,W.testBit j=true↔j∈l) ->
  (∀r,r<s->zU M r c+10<=M->∀d,d<10->L (zU M r c+d))->∃l':List Nat,l'.Nodup/\(∀j,j∈l'->L j)/\(walk M s c W n).2<=l'.length
 |0,_,_,_,l,h1,h2,h3,_,_=>⟨l,h1,h2,h3⟩
 |s+1,c,W,n,l,h1,h2,h3,h4,h5=>by
  have XZ:∀r,r<s->zU M r ((c*5+1)%M)+10<=M->∀d,d<10->L (zU M r ((c*5+1)%M)+d):=λ r hr=>h5 (r+1) (by omega)
  unfold walk
  split
  ·rename_i hc
   have hw:=h5 0 (by omega) hc;refine D9 L s _ _ _ (l++((aB 10).filter λ d=>!W.testBit (c+d)).map (c + ·)) ?_ (λ j hj=>?_) ?_ (λ j=>?_) XZ
   ·rw[cU];refine⟨h1,?_,λ a ha b hb e=>?_⟩
    ·rw[List.Nodup,cS];exact cT (λ {a b} (hab:a≠b)=>by omega) (List.Pairwise.filter _ gK)
    ·subst e;obtain⟨d,hd,rfl⟩:=az.mp hb;have hd:=(bN.mp hd).2;have:=(h4 (c+d)).mpr ha;rw[this] at hd;cases hd
   ·rcases bu.mp hj with hj | hj
    ·exact h2 j hj
    ·obtain⟨d,hd,rfl⟩:=az.mp hj;exact hw d (aX.mp (bN.mp hd).1)
   ·rw[aE,ah,O6];omega
   ·rw[RH,Bool.or_eq_true,h4,bu,aQ,decide_eq_true_eq,decide_eq_true_eq]
    constructor
    ·rintro (h | ⟨a,b⟩)
     ·exact .inl h
     ·by_cases q:j∈l
      ·exact .inl q
      ·refine .inr (az.mpr ⟨j-c,bN.mpr ⟨aX.mpr (by omega),?_⟩,by omega⟩);have e:c+(j-c)=j:=by omega
       rw[e];have:W.testBit j=false:=by
        cases z:W.testBit j with
        |false=>rfl
        |true=>exact absurd ((h4 j).mp z) q
       rw[this];rfl
    ·rintro (h | h)
     ·exact .inl h
     ·obtain⟨d,hd,rfl⟩:=az.mp h;have:=aX.mp (bN.mp hd).1;exact .inr ⟨by omega,by omega⟩
  ·exact D9 L s _ _ _ l h1 h2 h3 h4 XZ
theorem HW{M bound:Nat}:∀{n c:Nat},D8 M bound n c=true->∀t,t<n->bound<(walk M 4096 (zU M (4096*t) c) 0 0).2
 |0,_,_,t,ht=>by omega
 |n+1,c,h,t,ht=>by
  unfold D8 at h;rw[aQ] at h
  cases t with
  |zero=>exact Nat.blt_eq.mp h.1
  |succ t=>
   have:=HW h.2 t (by omega);rw[Fi,<-xj,show 4096+4096*t=4096*(t+1) by omega] at this;exact this
theorem O7{t:SetTable}{n:Nat}(o:Cp t n)(l:List Nat)(h1:l.Nodup)(h2:∀j,j∈l->¬o7 t j):l.length<=n:=by
 have:=uo l t.place.toList h1 λ j hj=>by
  have:=h2 j hj;obtain⟨i,e⟩:∃i:Nat,t.place[i]? = some j:=aG λ z=>this λ i e=>z ⟨i,e⟩
  exact au (i:=i) (by simpa using e)
 have hs:=o.size
 simp only[cZ] at this
 omega
theorem early{t:SetTable}{n N K k:Nat}(o:Cp t n)(hn:n<=N)(hK:t.mask+1=4096*K)(hk:t.mask+1=2^k)(hs:D8 (t.mask+1) N (K+1) 0=true)(h:Int){T:Nat}(hl:∀m,m<T->¬o7 t (pr t h m).j):T<=10*8204:=by
 refine Nat.le_of_not_lt λ big=>?_
 have hM:0<2^k:=by omega
 obtain⟨m0,hm0,e0⟩:=yI (k:=k) (x:=0) (t:=(lp t.mask h 12).1) hM (by rw[<-hk];exact dS (Fc h 12))
 rw[<-hk] at e0 hm0
 have ht:(m0+4095)/4096<K+1:=by omega
 have hr:m0<=4096*((m0+4095)/4096)/\4096*((m0+4095)/4096)<m0+4096:=by omega
 generalize (m0+4095)/4096=q at ht hr
 have Zu:=HW hs q ht
 obtain⟨l',n1,n2,n3⟩:=D9 (M:=t.mask+1) (λ j=>¬o7 t j) 4096 (zU (t.mask+1) (4096*q) 0) 0 0 [] iu (λ _ h=>absurd h (by simp)) (aq _) (λ j=>by simp) (λ r hr' hc d hd=>by
  have e:zU (t.mask+1) r (zU (t.mask+1) (4096*q) 0)=(lp t.mask h (12+(4096*q-m0+r))).1:=by
   rw[D7,<-e0,<-xj,<-xj]
   congr 1;omega
  rw[e] at hc ⊢;have hrl:lA t.mask (lp t.mask h (12+(4096*q-m0+r))).1=9:=by
   unfold lA runEnd;rw[if_pos (by omega)];omega
  have hp:=D6 t h (12+(4096*q-m0+r)) d (by omega);have hi:=GJ t.mask h (12+(4096*q-m0+r));have:=hl (idx t.mask h (12+(4096*q-m0+r))+d) (by omega);rw[hp] at this;exact this)
 have:=O7 o l' n1 n2
 omega
def Sz(mask n:Nat):Prop:=(mask=7/\n<=4)\/(mask=31/\n<=18)\/(mask=127/\n<=76)\/(mask=511/\n<=306)\/(mask=2047/\n<=1228)\/(mask=8191/\n<=4914)\/(mask=32767/\n<=19660)\/(mask=131071/\n<=32768)
set_option maxRecDepth 1000000
theorem jl{M b t c c' n:Nat}(h:walk M 4096 c 0 0=(c',n))(hb:Nat.blt b n=true)(hr:D8 M b t c'=true):D8 M b (t+1) c=true:=by
 unfold D8
 rw[h,hb,hr];rfl
theorem Mc:walk 32768 4096 0 0 0=(28672,24292):=by decide +kernel
theorem Me:walk 32768 4096 28672 0 0=(24576,23986):=by decide +kernel
theorem Mg:walk 32768 4096 24576 0 0=(20480,24282):=by decide +kernel
theorem Mh:walk 32768 4096 20480 0 0=(16384,23984):=by decide +kernel
theorem Mi:walk 32768 4096 16384 0 0=(12288,24281):=by decide +kernel
theorem Mj:walk 32768 4096 12288 0 0=(8192,23984):=by decide +kernel
theorem Ml:walk 32768 4096 8192 0 0=(4096,24292):=by decide +kernel
theorem Mm:walk 32768 4096 4096 0 0=(0,23986):=by decide +kernel
theorem Mn:walk 32768 4096 0 0 0=(28672,24292):=by decide +kernel
theorem RI:D8 32768 19660 9 0=true:=jl Mc rfl (jl Me rfl (jl Mg rfl (jl Mh rfl (jl Mi rfl (jl Mj rfl (jl Ml rfl (jl Mm rfl (jl Mn rfl (rfl)))))))))
theorem Mp:walk 131072 4096 0 0 0=(126976,35837):=by decide +kernel
theorem Mq:walk 131072 4096 126976 0 0=(122880,35608):=by decide +kernel
theorem Mr:walk 131072 4096 122880 0 0=(118784,35717):=by decide +kernel
theorem Ms:walk 131072 4096 118784 0 0=(114688,35557):=by decide +kernel
theorem Mt:walk 131072 4096 114688 0 0=(110592,35807):=by decide +kernel
theorem Mu:walk 131072 4096 110592 0 0=(106496,35532):=by decide +kernel
theorem Mv:walk 131072 4096 106496 0 0=(102400,35655):=by decide +kernel
theorem Mw:walk 131072 4096 102400 0 0=(98304,35622):=by decide +kernel
theorem Mx:walk 131072 4096 98304 0 0=(94208,35827):=by decide +kernel
theorem My:walk 131072 4096 94208 0 0=(90112,35598):=by decide +kernel
theorem JF:walk 131072 4096 90112 0 0=(86016,35707):=by decide +kernel
theorem JG:walk 131072 4096 86016 0 0=(81920,35557):=by decide +kernel
theorem JH:walk 131072 4096 81920 0 0=(77824,35807):=by decide +kernel
theorem JI:walk 131072 4096 77824 0 0=(73728,35542):=by decide +kernel
theorem JJ:walk 131072 4096 73728 0 0=(69632,35655):=by decide +kernel
theorem JK:walk 131072 4096 69632 0 0=(65536,35622):=by decide +kernel
theorem JL:walk 131072 4096 65536 0 0=(61440,35837):=by decide +kernel
theorem JM:walk 131072 4096 61440 0 0=(57344,35608):=by decide +kernel
theorem JN:walk 131072 4096 57344 0 0=(53248,35717):=by decide +kernel
theorem JO:walk 131072 4096 53248 0 0=(49152,35557):=by decide +kernel
theorem JP:walk 131072 4096 49152 0 0=(45056,35807):=by decide +kernel
theorem JQ:walk 131072 4096 45056 0 0=(40960,35542):=by decide +kernel
theorem JR:walk 131072 4096 40960 0 0=(36864,35655):=by decide +kernel
theorem JS:walk 131072 4096 36864 0 0=(32768,35622):=by decide +kernel
theorem JT:walk 131072 4096 32768 0 0=(28672,35837):=by decide +kernel
theorem JU:walk 131072 4096 28672 0 0=(24576,35608):=by decide +kernel
theorem JV:walk 131072 4096 24576 0 0=(20480,35717):=by decide +kernel
theorem JW:walk 131072 4096 20480 0 0=(16384,35547):=by decide +kernel
theorem JX:walk 131072 4096 16384 0 0=(12288,35790):=by decide +kernel
theorem JY:walk 131072 4096 12288 0 0=(8192,35542):=by decide +kernel
theorem JZ:walk 131072 4096 8192 0 0=(4096,35655):=by decide +kernel
theorem J0:walk 131072 4096 4096 0 0=(0,35614):=by decide +kernel
theorem J1:walk 131072 4096 0 0 0=(126976,35837):=by decide +kernel
theorem RJ:D8 131072 32768 33 0=true:=jl Mp rfl (jl Mq rfl (jl Mr rfl (jl Ms rfl (jl Mt rfl (jl Mu rfl (jl Mv rfl (jl Mw rfl (jl Mx rfl (jl My rfl (jl JF rfl (jl JG rfl (jl JH rfl (jl JI rfl (jl JJ rfl (jl JK rfl (jl JL rfl (jl JM rfl (jl JN rfl (jl JO rfl (jl JP rfl (jl JQ rfl (jl JR rfl (jl JS rfl (jl JT rfl (jl JU rfl (jl JV rfl (jl JW rfl (jl JX rfl (jl JY rfl (jl JZ rfl (jl J0 rfl (jl J1 rfl (rfl)))))))))))))))))))))))))))))))))
theorem GL{t:SetTable}{n:Nat}(o:Cp t n)(z:Sz t.mask n)(h:Int) :
  ∃T,T<99999/\T<=10*(12+t.mask)/\o7 t (pr t h T).j/\∀m,m<T->¬o7 t (pr t h m).j:=by
 have hnm:n<=t.mask:=by rcases z with ⟨e,h⟩ | ⟨e,h⟩ | ⟨e,h⟩ | ⟨e,h⟩ | ⟨e,h⟩ | ⟨e,h⟩ | ⟨e,h⟩ | ⟨e,h⟩<;>omega
 have hc:t.mask<=8191\/(t.mask=32767/\n<=19660)\/(t.mask=131071/\n<=32768):=by
  rcases z with ⟨e,h⟩ | ⟨e,h⟩ | ⟨e,h⟩ | ⟨e,h⟩ | ⟨e,h⟩ | ⟨e,h⟩ | ⟨e,h⟩ | ⟨e,h⟩
  ·left;omega
  ·left;omega
  ·left;omega
  ·left;omega
  ·left;omega
  ·left;omega
  ·exact .inr (.inl ⟨e,h⟩)
  ·exact .inr (.inr ⟨e,h⟩)
 obtain⟨T,h1,h2,h3⟩:=GK o hnm h
 refine⟨T,?_,h1,h2,h3⟩
 rcases hc with q | ⟨e,hn⟩ | ⟨e,hn⟩
 ·omega
 ·have:=early (N:=19660) (K:=8) (k:=15) o hn (by omega) (by omega) (by rw[e];exact RI) h h3
  omega
 ·have:=early (N:=32768) (K:=32) (k:=17) o hn (by omega) (by omega) (by rw[e];exact RJ) h h3
  omega
theorem Sz.pow{mask n:Nat}(z:Sz mask n):∃k,3<=k/\mask+1=2^k:=by
 rcases z with ⟨rfl,_⟩ | ⟨rfl,_⟩ | ⟨rfl,_⟩ | ⟨rfl,_⟩ | ⟨rfl,_⟩ | ⟨rfl,_⟩ | ⟨rfl,_⟩ | ⟨rfl,_⟩
 ·exact⟨3,by decide,rfl⟩
 ·exact⟨5,by decide,rfl⟩
 ·exact⟨7,by decide,rfl⟩
 ·exact⟨9,by decide,rfl⟩
 ·exact⟨11,by decide,rfl⟩
 ·exact⟨13,by decide,rfl⟩
 ·exact⟨15,by decide,rfl⟩
 ·exact⟨17,by decide,rfl⟩
theorem Sz.more{mask n:Nat}(z:Sz mask n)(hn:n+1<=32768):(¬(n+1)*5>=mask*3/\Sz mask (n+1)) \/
  ((n+1)*5>=mask*3/\sizeAbove (grown (n+1))<=131072/\Sz (sizeAbove (grown (n+1))-1) (n+1)):=by
 rcases z with ⟨rfl,h⟩ | ⟨rfl,h⟩ | ⟨rfl,h⟩ | ⟨rfl,h⟩ | ⟨rfl,h⟩ | ⟨rfl,h⟩ | ⟨rfl,h⟩ | ⟨rfl,h⟩
 ·by_cases q:(n+1)*5>=7*3
  ·obtain rfl:n=4:=by omega
   exact .inr ⟨q,by decide +kernel,.inr (.inl ⟨by decide +kernel,by decide⟩)⟩
  ·exact .inl ⟨q,.inl ⟨rfl,by omega⟩⟩
 ·by_cases q:(n+1)*5>=31*3
  ·obtain rfl:n=18:=by omega
   exact .inr ⟨q,by decide +kernel,.inr (.inr (.inl ⟨by decide +kernel,by decide⟩))⟩
  ·exact .inl ⟨q,.inr (.inl ⟨rfl,by omega⟩)⟩
 ·by_cases q:(n+1)*5>=127*3
  ·obtain rfl:n=76:=by omega
   exact .inr ⟨q,by decide +kernel,.inr (.inr (.inr (.inl ⟨by decide +kernel,by decide⟩)))⟩
  ·exact .inl ⟨q,.inr (.inr (.inl ⟨rfl,by omega⟩))⟩
 ·by_cases q:(n+1)*5>=511*3
  ·obtain rfl:n=306:=by omega
   exact .inr ⟨q,by decide +kernel,.inr (.inr (.inr (.inr (.inl ⟨by decide +kernel,by decide⟩))))⟩
  ·exact .inl ⟨q,.inr (.inr (.inr (.inl ⟨rfl,by omega⟩)))⟩
 ·by_cases q:(n+1)*5>=2047*3
  ·obtain rfl:n=1228:=by omega
   exact .inr ⟨q,by decide +kernel,.inr (.inr (.inr (.inr (.inr (.inl ⟨by decide +kernel,by decide⟩)))))⟩
  ·exact .inl ⟨q,.inr (.inr (.inr (.inr (.inl ⟨rfl,by omega⟩))))⟩
 ·by_cases q:(n+1)*5>=8191*3
  ·obtain rfl:n=4914:=by omega
   exact .inr ⟨q,by decide +kernel,.inr (.inr (.inr (.inr (.inr (.inr (.inl ⟨by decide +kernel,by decide⟩))))))⟩
  ·exact .inl ⟨q,.inr (.inr (.inr (.inr (.inr (.inl ⟨rfl,by omega⟩)))))⟩
 ·by_cases q:(n+1)*5>=32767*3
  ·obtain rfl:n=19660:=by omega
   exact .inr ⟨q,by decide +kernel,.inr (.inr (.inr (.inr (.inr (.inr (.inr (⟨by decide +kernel,by decide⟩)))))))⟩
  ·exact .inl ⟨q,.inr (.inr (.inr (.inr (.inr (.inr (.inl ⟨rfl,by omega⟩))))))⟩
 ·by_cases q:(n+1)*5>=131071*3
  ·omega
  ·exact .inl ⟨q,.inr (.inr (.inr (.inr (.inr (.inr (.inr (⟨rfl,by omega⟩)))))))⟩
end St
end
noncomputable section
namespace St
open PySem PySem.SetTable
section
variable{prog:Program}{w:World}{K:Type}[DecidableEq K](knd:KeyKind prog w K)
structure Body(h:Heap)(es:Array (Int×Value))(t:SetTable)(ks:List (List K)):Prop where
 tok:Cp t es.size
 sz:Sz t.mask es.size
 ent:∀(i:Nat) (e:Int×Value),es[i]? = some e->∃k b,k∈ks/\e.2=.ref b/\IsTupleKey knd h k b/\e.1=tupleKeyHash knd k
 has:∀k,k∈ks->∃(i:Nat) (b:Addr),es[i]? = some (tupleKeyHash knd k,.ref b)/\IsTupleKey knd h k b
 len:ks.length=es.size
 Lg:∀(i:Nat) (e:Int×Value) (j:Nat),es[i]? = some e->t.place[i]? = some j->RE t.mask (λ x=>¬o7 t x) e.1 j
def pY(h:Heap)(a:Addr)(ks:List (List K)):Prop:=
 ∃o es ep t,h.get? a=some o/\o.ExactSet/\o.data=.set es ep t/\Body knd h es t ks
variable{knd}
theorem Body.fits{h:Heap}{es:Array (Int×Value)}{t:SetTable}{ks:List (List K)}(b:Body knd h es t ks):t.fits es.size=true:=by
 have h1:=b.tok.fits
 have h2:es.size<=t.mask:=by rcases b.sz with ⟨e,z⟩ | ⟨e,z⟩ | ⟨e,z⟩ | ⟨e,z⟩ | ⟨e,z⟩ | ⟨e,z⟩ | ⟨e,z⟩ | ⟨e,z⟩<;>omega
 simp only[SetTable.fits,aQ,beq_iff_eq,decide_eq_true_eq]
 exact⟨b.tok.size,by omega⟩
theorem Body.odd{h:Heap}{es:Array (Int×Value)}{t:SetTable}{ks:List (List K)}(b:Body knd h es t ks):t.gaveWay=false:=by
 unfold SetTable.gaveWay
 rcases b.sz with ⟨e,z⟩ | ⟨e,z⟩ | ⟨e,z⟩ | ⟨e,z⟩ | ⟨e,z⟩ | ⟨e,z⟩ | ⟨e,z⟩ | ⟨e,z⟩<;>rw[e]<;>rfl
variable{A:Around}{E:Value->Shared->Prop}{s:Shared}
theorem Cq(d:Nat){v:Value}(h:carriedByValue v=true):ofAClassStatement d v=pure false:=by
 cases v with
 |ref a=>simp[carriedByValue] at h
 |_=>first | rfl | (unfold ofAClassStatement;rfl)
theorem vL{ks:List K}{a:Addr}{Q:Bool->Shared->Prop}(hk:IsTupleKey knd s.heap ks a)(h:Q false s):wpAny (model prog w) A (ofAClassStatement 8 (.ref a)) Q E s:=by
 have hT:=hk.typeIs
 obtain⟨o,items,n,ho,hc,hd,hi⟩:=hk
 unfold ofAClassStatement
 refine wpAny_bind (wpAny_typeOf_ref ho ?_)
 rw[hc]
 show wpAny _ _ ((if ("tuple" == "tuple")=true then pure true else isSubtype (.type "tuple") (.type "tuple")) >>= _) _ _ s
 rw[if_pos (by decide)]
 refine wpAny_bind (wpAny_pure ?_)
 simp only[fR,aI,if_false]
 refine wpAny_bind (wpAny_seqItems ho hd ?_)
 show wpAny _ _ (forIn items _ _ >>= _) _ _ s
 refine wpAny_bind ?_
 rw[<-iN]
 refine wpAny_forIn_list _ (λ rest r s'=>r.1=none/\s'=s/\∀v∈rest,carriedByValue v=true) _ ?_ ?_ _ _ ⟨rfl,rfl,hi.byValue⟩
 ·rintro v rest r s' ⟨hr,rfl,hall⟩
  rw[Cq _ (hall v aO)];refine wpAny_bind (wpAny_pure ?_);simp only[aI,if_false]
  exact wpAny_pure ⟨rfl,rfl,λ u RK=>hall u (aL _ RK)⟩
 ·rintro⟨r1,r2⟩ s' ⟨hr,rfl,_⟩
  simp only at hr
  subst hr;exact wpAny_pure h
theorem RL{ks:List K}{a:Addr}{ys:List Value}{Q:Bool->Shared->Prop}(hk:IsTupleKey knd s.heap ks a)(hy:∀y,y∈ys->∃k b,y=.ref b/\IsTupleKey knd s.heap k b)(h:Q false s) :
  wpAny (model prog w) A (searchCouldBeSeen (.ref a) ys) Q E s:=by
 unfold searchCouldBeSeen
 refine wpAny_bind ?_
 refine wpAny_forIn_list _ (λ rest r s'=>r.1=none/\s'=s/\∀v∈rest,v∈ys) _ ?_ ?_ _ _ ⟨rfl,rfl,λ _ h=>h⟩
 ·rintro v rest r s' ⟨hr,rfl,hall⟩
  obtain⟨k,b,rfl,hb⟩:=hy v (hall v aO);have hrest:∀u∈rest,u∈ys:=λ u hu=>hall u (aL _ hu)
  show wpAny _ _ (if ((a==b)||(carriedByValue (.ref a)&&carriedByValue (.ref b)))=true then _ else _) _ _ s'
  by_cases hab:(a==b)=true
  ·rw[if_pos (by rw[hab];rfl)];exact wpAny_pure ⟨rfl,rfl,hrest⟩
  ·rw[if_neg (by rw[gJ] at hab;rw[hab];simp[carriedByValue])];refine wpAny_bind (wpAny_eqIsQuiet_tuple hk ?_);simp only[fR,aI,if_false]
   refine wpAny_bind (wpAny_eqIsQuiet_tuple hb ?_);simp only[fR,aI,if_false]
   refine wpAny_bind (vL hk ?_);simp only[aI,if_false]
   refine wpAny_bind (vL hb ?_);simp only[aI,if_false]
   exact wpAny_pure ⟨rfl,rfl,hrest⟩
 ·rintro⟨r1,r2⟩ s' ⟨hr,rfl,_⟩
  simp only at hr
  subst hr;exact wpAny_pure h
theorem Mz(t:SetTable)(h:Int)(m:Nat):(if m=0 then none else some (pr t h m):Option Probe).getD (t.probeStart h)=pr t h m:=by
 by_cases q:m=0
 ·subst q;rfl
 ·rw[if_neg q];rfl
theorem O8{t:SetTable}{i j:Nat}(h:t.place[i]? = some j):¬o7 t j:=λ f=>f i h
theorem C7{a b:Addr}{o:Obj}{es:Array (Int×Value)}{ep:Nat}{t:SetTable}{ks:List (List K)}{k:List K}{T:Nat}{Q:SetFound->Shared->Prop}(hu:A.units<cLine)
  (ho:s.heap.get? a=some o) (hd:o.data=.set es ep t) (B:Body knd s.heap es t ks) (hb:IsTupleKey knd s.heap k b)
  (hT:o7 t (pr t (tupleKeyHash knd k) T).j) (hl:∀m,m<T->¬o7 t (pr t (tupleKeyHash knd k) m).j) (hB:T<=10*(12+t.mask))
  (h1:k∈ks->Q (.there none) s) (h2:k ∉ ks->Q (.free (pr t (tupleKeyHash knd k) T).j false) s) :
  ∀(fuel m:Nat),m<=T->T-m<fuel->(k∈ks->∃(i c:Nat) (d:Addr),es[i]? = some (tupleKeyHash knd k,.ref d)/\IsTupleKey knd s.heap k d/\m<=c/\c<T/\t.place[i]? = some (pr t (tupleKeyHash knd k) c).j) ->
   wpAny (model prog w) A (setSearchFrom a (.ref b) (tupleKeyHash knd k) true fuel (if m=0 then none else some (pr t (tupleKeyHash knd k) m))) Q E s
 |0,m,_,hf,_=>by omega
 |fuel+1,m,hm,hf,hin=>by
  unfold setSearchFrom;refine wpAny_bind (wpAny_setState_of ho hd B.fits ?_);simp only[B.odd,aI,if_false]
  rw[Mz]
  rcases L8 B.tok (λ i=>(es[i]?.map (·.1)).getD 0) (tupleKeyHash knd k) hT hl hB hm with ⟨q1,q2⟩ | ⟨c,i,c1,c2,c3,c4,c5,c6⟩
  ·have Zv:k ∉ ks:=λ hk=>by
    obtain⟨i,c,d,e1,_,e3,e4,e5⟩:=hin hk;exact q1 c e3 e4 i e5 (by rw[e1];rfl)
   have Zw:t.probe _ (tupleKeyHash knd k) (pr t (tupleKeyHash knd k) m)=some (.empty (pr t (tupleKeyHash knd k) T).j none):=q2
   erw [Zw]
   exact wpAny_pure (h2 Zv)
  ·have Zx:t.probe _ (tupleKeyHash knd k) (pr t (tupleKeyHash knd k) m)=some (.candidate (pr t (tupleKeyHash knd k) c).j i (pr t (tupleKeyHash knd k) (c+1))):=c6
   erw [Zx]
   obtain⟨hi,_⟩:=bz.mp c3;have Zy:i<es.size:=by rw[<-B.tok.size];exact hi
   have ee:es[i]? = some es[i]:=bx Zy;obtain⟨k',b',hk',e2,hb',e1⟩:=B.ent i _ ee;have rest:wpAny (model prog w) A (do
     let some (_,y):=es[i]? | unsupported "internal:set-entry"
     let equal <-holding [y] (eqBool y (.ref b))
     let (es',_,t') <-setState a
     if (true&&equal)=true then return .there none
     let some same:=t'.sameMemory t.moves t.mask | unsupported "set.changed-during-lookup:is-the-new-block-at-the-old-address"
     let Uk <-match (if same=true then t'.slot (pr t (tupleKeyHash knd k) c).j else .empty) with
      |.live i'=>match es'[i']? with
       |some (_,y')=>do pure (if <-isSame y' y then some i' else none)
       |none=>pure none
      |_=>pure none
     match Uk with
     |none=>rule "set.search.anew";setSearchFrom a (.ref b) (tupleKeyHash knd k) true fuel none
     |some i'=>if equal=true then return .there (some i') else setSearchFrom a (.ref b) (tupleKeyHash knd k) true fuel (some (pr t (tupleKeyHash knd k) (c+1)))) Q E s:=by
    rw[ee];generalize es[i]=ent at e1 e2 ee
    obtain⟨eh,ev⟩:=ent;simp only at e1 e2
    subst e1 e2;refine wpAny_bind (wpAny_holding (wpAny_eqBool_tuple hu hb' hb ?_));refine wpAny_bind (wpAny_setState_of ho hd B.fits ?_)
    by_cases hkk:k'=k
    ·subst hkk;simp only[decide_true,gH,if_true]
     exact wpAny_pure (h1 hk')
    ·simp only[hkk,decide_false,ic,aI,if_false]
     have hsm:t.sameMemory t.moves t.mask=some true:=by unfold SetTable.sameMemory;rw[beq_self_eq_true,if_pos rfl]
     rw[hsm];simp only[if_true,B.tok.live c3,ee]
     refine wpAny_bind ?_;have hs:isSame (.ref b') (.ref b')=pure true:=by unfold isSame;simp only[beq_self_eq_true,if_true]
     rw[hs];refine wpAny_pure ?_;simp only[if_true]
     refine wpAny_bind (wpAny_pure ?_);have ih:=C7 hu ho hd B hb hT hl hB h1 h2 fuel (c+1) c2 (by omega) (λ hk=>by
      obtain⟨i2,cc,d,f1,f2,f3,f4,f5⟩:=hin hk;refine⟨i2,cc,d,f1,f2,?_,f4,f5⟩
      rcases dQ cc c with z | z | z
      ·exact absurd (by rw[f1];rfl) (c5 cc f3 z i2 f5)
      ·subst z;have:i2=i:=B.tok.up.inj f5 c3;subst this;rw[ee] at f1;have f1:=aR f1;have:b'=d:=by injection f1 with _ z2;injection z2
       subst this;exact absurd (hb'.inj f2) hkk
      ·omega)
     rw[if_neg (by omega)] at ih;exact ih
   by_cases O9:t.led=true
   ·simp only[O9,fR,aI,if_false]
    exact rest
   ·have O9:t.led=false:=by simpa using O9
    simp only[O9,gr,if_true]
    refine wpAny_bind (RL hb (λ y hy=>?_) ?_)
    ·obtain⟨e,he,rfl⟩:=az.mp hy;have he:e∈es:=by
      have q:=he;simp at q
      exact q.1
     obtain⟨j,hj,ej⟩:=Array.getElem_of_mem he;obtain⟨k2,b2,_,e3,e4,_⟩:=B.ent j e (by rw[bx hj,ej]);exact⟨k2,b2,e3,e4⟩
    ·simp only[aI,if_false]
     exact rest
end
end St
end
noncomputable section
namespace St
open PySem PySem.SetTable
theorem HX{α:Type}(es:Array α):∀(l:List Nat),(∀o,o∈l->o<es.size)->(l.filterMap λ i=>es[i]?).length=l.length/\∀r:Nat,(l.filterMap λ i=>es[i]?)[r]? = (l[r]?).bind λ i=>es[i]?
 |[],_=>⟨rfl,λ r=>by simp⟩
 |o::l,h=>by
  have ho:=h o aO;obtain⟨h1,h2⟩:=HX es l λ x hx=>h x (aL _ hx)
  have e:(es[o]?:Option α)=some es[o]:=bx ho;rw[eO,e];refine⟨by simp[h1],λ r=>?_⟩
  cases r with
  |zero=>simp[e]
  |succ r=>simpa using h2 r
section
variable{prog:Program}{w:World}{K:Type}[DecidableEq K]{knd:KeyKind prog w K}
structure Pre(knd:KeyKind prog w K)(h:Heap)(es:Array (Int×Value))(t:SetTable)(ks:List (List K)):Prop where
 tok:Cp t es.size
 ent:∀(i:Nat) (e:Int×Value),es[i]? = some e->∃k b,k∈ks/\e.2=.ref b/\IsTupleKey knd h k b/\e.1=tupleKeyHash knd k
 has:∀k,k∈ks->∃(i:Nat) (b:Addr),es[i]? = some (tupleKeyHash knd k,.ref b)/\IsTupleKey knd h k b
 len:ks.length=es.size
 Lg:∀(i:Nat) (e:Int×Value) (j:Nat),es[i]? = some e->t.place[i]? = some j->RE t.mask (λ x=>¬o7 t x) e.1 j
theorem Pre.body{h:Heap}{es:Array (Int×Value)}{t:SetTable}{ks:List (List K)}(p:Pre knd h es t ks)(z:Sz t.mask es.size):Body knd h es t ks:=⟨p.tok,z,p.ent,p.has,p.len,p.Lg⟩
theorem Pre.plain{h:Heap}{es:Array (Int×Value)}{t:SetTable}{ks:List (List K)}(p:Pre knd h es t ks)(c:Bool):Pre knd h es { t with plain:=c } ks:=
 ⟨⟨p.tok.size,p.tok.up,p.tok.le,p.tok.Ug,p.tok.pow⟩,p.ent,p.has,p.len,p.Lg⟩
theorem C8{h h':Heap}{a b:Addr}{o:Obj}{es:Array (Int×Value)}{ep:Nat}{t:SetTable}{k:List K}(ho:h.get? a=some o)(hd:o.data=.set es ep t)(hs:Heap.SameBut a h h')(x:IsTupleKey knd h k b):IsTupleKey knd h' k b:=by
 obtain⟨o',items,n,ho',hc,hd',hi⟩:=x
 have hne:b≠a:=by
  rintro rfl;rw[ho] at ho';cases ho';rw[hd] at hd';cases hd'
 exact⟨o',items,n,(hs.2 b hne).trans ho',hc,hd',hi⟩
theorem Pre.keeps{h h':Heap}{a:Addr}{o:Obj}{Zz:Array (Int×Value)}{ep:Nat}{t0:SetTable}{es:Array (Int×Value)}{t:SetTable}{ks:List (List K)}(p:Pre knd h es t ks)
  (ho:h.get? a=some o) (hd:o.data=.set Zz ep t0) (hs:Heap.SameBut a h h'):Pre knd h' es t ks:=
 ⟨p.tok,λ i e q=>let ⟨k,b,a1,a2,a3,a4⟩:=p.ent i e q;⟨k,b,a1,a2,C8 ho hd hs a3,a4⟩,λ k hk=>let ⟨i,b,a1,a2⟩:=p.has k hk;⟨i,b,a1,C8 ho hd hs a2⟩,p.len,p.Lg⟩
theorem Body.insert{h:Heap}{es:Array (Int×Value)}{t:SetTable}{ks:List (List K)}{k:List K}{b:Addr}{T:Nat}(B:Body knd h es t ks)(hb:IsTupleKey knd h k b)
  (hT:o7 t (pr t (tupleKeyHash knd k) T).j) (hl:∀m,m<T->¬o7 t (pr t (tupleKeyHash knd k) m).j) :
  Pre knd h (insertAt es (t.put (pr t (tupleKeyHash knd k) T).j).2 (tupleKeyHash knd k,.ref b)) (t.put (pr t (tupleKeyHash knd k) T).j).1 (ks++[k]):=by
 have hj:=(HU t (tupleKeyHash knd k) T).1
 obtain⟨e2,tok,Ul,em,_⟩:=B.tok.put hT hj
 obtain⟨hp,_⟩:=sQ B.tok.up (pr t (tupleKeyHash knd k) T).j
 have GN:below t.place (pr t (tupleKeyHash knd k) T).j<=es.size:=by rw[<-B.tok.size];exact hp
 rw[e2]
 have Gp:∀x,¬o7 t x->¬o7 (t.put (pr t (tupleKeyHash knd k) T).j).1 x:=λ x hx f=>hx λ i e=>by
  obtain⟨i',e'⟩:=(mem_insert (c:=x) (j:=(pr t (tupleKeyHash knd k) T).j) hp).mpr (.inr ⟨i,e⟩);rw[<-Ul] at e';exact f i' e'
 have sz:(insertAt es (below t.place (pr t (tupleKeyHash knd k) T).j) (tupleKeyHash knd k,Value.ref b)).size=es.size+1:=vJ _ _ _ GN
 refine⟨by rw[sz];exact tok,λ i e q=>?_,λ k' hk'=>?_,by rw[sz,aE,B.len];rfl,λ i e j q qj=>?_⟩
 ·rw[j0 _ _ _ GN] at q
  have old:∀i',es[i']? = some e->∃k1 b1,k1∈ks++[k]/\e.2=.ref b1/\IsTupleKey knd h k1 b1/\e.1=tupleKeyHash knd k1:=λ i' q'=>
   let ⟨k1,b1,a1,a2,a3,a4⟩:=B.ent i' e q';⟨k1,b1,fS _ a1,a2,a3,a4⟩
  split at q
  ·exact old _ q
  ·split at q
   ·cases q;exact⟨k,b,bG _ aO,rfl,hb,rfl⟩
   ·exact old _ q
 ·rcases bu.mp hk' with hk' | hk'
  ·obtain⟨i,b',a1,a2⟩:=B.has k' hk'
   by_cases hi:i<below t.place (pr t (tupleKeyHash knd k) T).j
   ·exact⟨i,b',by rw[j0 _ _ _ GN,if_pos hi];exact a1,a2⟩
   ·exact⟨i+1,b',by rw[j0 _ _ _ GN,if_neg (by omega),if_neg (by omega)];exact a1,a2⟩
  ·have:k'=k:=by simpa using hk'
   subst this;exact⟨below t.place (pr t (tupleKeyHash knd k') T).j,b,by rw[j0 _ _ _ GN,if_neg (by omega),if_pos rfl],hb⟩
 ·rw[Ul,j0 _ _ _ hp] at qj
  rw[j0 _ _ _ GN] at q;rw[em]
  by_cases h1:i<below t.place (pr t (tupleKeyHash knd k) T).j
  ·rw[if_pos h1] at q qj;exact (B.Lg i e j q qj).mono Gp
  ·rw[if_neg h1] at q qj
   by_cases h2:i=below t.place (pr t (tupleKeyHash knd k) T).j
   ·rw[if_pos h2] at q qj
    cases q;cases qj;exact⟨T,(Fd t _ T).symm,λ m hm=>Gp _ (by rw[<-Fd];exact hl m hm)⟩
   ·rw[if_neg h2] at q qj;exact (B.Lg (i-1) e j q qj).mono Gp
theorem Pre.Um{h:Heap}{es:Array (Int×Value)}{t:SetTable}{ks:List (List K)}(p:Pre knd h es t ks){wanted:Nat}(z:Sz (sizeAbove wanted-1) es.size) :
  ∃t' order,t.relaid (es.map (·.1)) wanted=some (t',order)/\(order.filterMap λ i=>es[i]?).size=es.size/\Body knd h (order.filterMap λ i=>es[i]?) t' ks:=by
 have hn:(es.map (·.1)).size<=sizeAbove wanted-1:=by
  rw[Array.size_map]
  rcases z with ⟨e,z⟩ | ⟨e,z⟩ | ⟨e,z⟩ | ⟨e,z⟩ | ⟨e,z⟩ | ⟨e,z⟩ | ⟨e,z⟩ | ⟨e,z⟩<;>omega
 obtain⟨t',order,e,tok,em,_,_,_,os,o1,o2,o3,o4⟩:=O4 z.pow t.finger (t.movedTo (sizeAbove wanted-1)) t.led t.plain (es.map (·.1)) hn
 rw[Array.size_map] at os tok
 have lt:∀o,o∈order.toList->o<es.size:=λ o ho=>by
  obtain⟨r,hr⟩:=cF ho;have:=o1 r o (by simpa using hr)
  simpa using this
 obtain⟨f1,f2⟩:=HX es order.toList lt
 have gt:∀r:Nat,(order.filterMap λ i=>es[i]?)[r]? = (order[r]?).bind λ i=>es[i]?:=λ r=>by
  have:=f2 r;rw[<-g9,gY,this,g9]
 have sz:(order.filterMap λ i=>es[i]?).size=es.size:=by
  rw[<-cZ,gY,f1,cZ,os]
 refine⟨t',order,e,sz,⟨by rw[sz];exact tok,by rw[em,sz];exact z,λ i x q=>?_,λ k hk=>?_,by rw[sz];exact p.len,λ i x j q qj=>?_⟩⟩
 ·rw[gt] at q
  cases eo:order[i]? with
  |none=>rw[eo] at q;cases q
  |some o=>rw[eo] at q;exact p.ent o x q
 ·obtain⟨i,b,a1,a2⟩:=p.has k hk
  obtain⟨hi,_⟩:=bz.mp a1;obtain⟨r,hr⟩:=o3 i (by simpa using hi);exact⟨r,b,by rw[gt,hr];exact a1,a2⟩
 ·rw[gt] at q
  cases eo:order[i]? with
  |none=>rw[eo] at q;cases q
  |some o=>
   rw[eo] at q;have:=o4 i o j x.1 eo qj (by
    have q':es[o]? = some x:=q;rw[Array.getElem?_map,q'];rfl)
   rw[em];exact this.mono λ y ⟨i',e'⟩=>O8 e'
variable{A:Around}{E:Value->Shared->Prop}{s:Shared}
theorem hbv{ks:List K}{a:Addr}{Q:Bool->Shared->Prop}(hk:IsTupleKey knd s.heap ks a)(h:∀c,Q c s):wpAny (model prog w) A (hashByValue 8 (.ref a)) Q E s:=by
 have hT:=hk.typeIs
 obtain⟨o,items,n,ho,hc,hd,hi⟩:=hk
 unfold hashByValue
 refine wpAny_bind (wpAny_specialOf hT F.slot_tuple_hash.lookup ?_)
 show wpAny _ _ (seqItems? (.ref a) >>= _) _ _ s
 refine wpAny_bind (wpAny_seqItems ho hd ?_)
 show wpAny _ _ (forIn items _ _ >>= _) _ _ s
 refine wpAny_bind ?_
 rw[<-iN]
 refine wpAny_forIn_list _ (λ rest r s'=>(r.1=none\/r.1=some false)/\s'=s/\∀v∈rest,carriedByValue v=true) _ ?_ ?_ _ _ ⟨.inl rfl,rfl,hi.byValue⟩
 ·rintro v rest r s' ⟨hr,rfl,hall⟩
  have hv:∃c,hashByValue 7 v=pure c:=by
   have:=hall v aO
   cases v with
   |ref a=>simp[carriedByValue] at this
   |_=>exact⟨_,rfl⟩
  obtain⟨c,hc⟩:=hv;rw[hc];refine wpAny_bind (wpAny_pure ?_)
  cases c with
  |true=>
   simp only[fR,aI,if_false]
   exact wpAny_pure ⟨.inl rfl,rfl,λ u hu=>hall u (aL _ hu)⟩
  |false=>
   simp only[gr,if_true]
   exact wpAny_pure (wpAny_pure (h false))
 ·rintro⟨r1,r2⟩ s' ⟨hr,rfl,_⟩
  rcases hr with hr | hr
  ·simp only at hr
   subst hr;exact wpAny_pure (h true)
  ·simp only at hr
   subst hr;exact wpAny_pure (h false)
theorem C9{h:Heap}{a:Addr}{o:Obj}{es:Array (Int×Value)}{ep:Nat}{t:SetTable}(es':Array (Int×Value))(t':SetTable)(ho:h.get? a=some o)(hx:o.ExactSet)(hd:o.data=.set es ep t) :
  ∃o',(h.update a (Obj.putSet es' t')).get? a=some o'/\o'.ExactSet/\o'.data=.set es' (ep+1) t'/\Heap.SameBut a h (h.update a (Obj.putSet es' t')):=by
 refine⟨{ o with data:=.set es' (ep+1) t' },?_,hx,rfl,?_⟩
 ·have q:=Heap.get?_update_self (Obj.putSet es' t') ho (by rw[putSet_of es' t' hd];rfl)
  rw[putSet_of es' t' hd] at q;exact q
 ·exact Heap.SameBut.update _ _ _
theorem Fj{n:Nat}(h:n<=32769):n<=sizeLine:=by rw[sizeLine_eq];omega
theorem GO{a b:Addr}{o:Obj}{es:Array (Int×Value)}{ep:Nat}{t:SetTable}{ks:List (List K)}{k:List K}{T fuel:Nat}{Q:SetFound->Shared->Prop}(hu:A.units<cLine)
  (ho:s.heap.get? a=some o) (hd:o.data=.set es ep t) (B:Body knd s.heap es t ks) (hb:IsTupleKey knd s.heap k b)
  (hT:o7 t (pr t (tupleKeyHash knd k) T).j) (hl:∀m,m<T->¬o7 t (pr t (tupleKeyHash knd k) m).j) (hB:T<=10*(12+t.mask))
  (h1:k∈ks->Q (.there none) s) (h2:k ∉ ks->Q (.free (pr t (tupleKeyHash knd k) T).j false) s) (hf:T<fuel)
  (hin:k∈ks->∃(i c:Nat) (d:Addr),es[i]? = some (tupleKeyHash knd k,.ref d)/\IsTupleKey knd s.heap k d/\0<=c/\c<T/\t.place[i]? = some (pr t (tupleKeyHash knd k) c).j) :
  wpAny (model prog w) A (setSearchFrom a (.ref b) (tupleKeyHash knd k) true fuel none) Q E s:=by
 have q:=C7 (A:=A) (E:=E) hu ho hd B hb hT hl hB h1 h2 fuel 0 (bf _) (by omega) hin
 rw[if_pos rfl] at q
 exact q
set_option maxHeartbeats 1000000 in
theorem RM{a b:Addr}{ks:List (List K)}{k:List K}{Q:Bool->Shared->Prop}(hu:A.units<cLine)(hS:pY knd s.heap a ks)(hb:IsTupleKey knd s.heap k b)(hn:ks.length<32768)
  (h:∀(c:Bool) (h':Heap) (tk:Nat),Heap.SameBut a s.heap h'->pY knd h' a (if k∈ks then ks else ks++[k])->Q c { s with heap:=h',toks:=tk }) :
  wpAny (model prog w) A (setAdd a (.ref b)) Q E s:=by
 unfold setAdd
 refine wpAny_holding (wpAny_bind (wpAny_pyHash_tuple hu hb ?_))
 unfold setAddHashed
 refine wpAny_holding ?_
 obtain⟨o,es,ep,t,ho,hx,hd,B⟩:=hS
 unfold setAddHashedIn
 refine wpAny_bind (wpAny_setState_of (s:={ s with toks:=s.toks+(k.length+1) }) ho hd B.fits ?_)
 have ZA:byScan (.ref b) es=false:=by unfold byScan;rfl
 simp only[ZA,aI,if_false]
 obtain⟨T,t1,t2,t3,t4⟩:=GL B.tok B.sz (tupleKeyHash knd k)
 unfold setSearch
 have hin:k∈ks->∃(i c:Nat) (d:Addr),es[i]? = some (tupleKeyHash knd k,.ref d)/\IsTupleKey knd s.heap k d/\0<=c/\c<T/\t.place[i]? = some (pr t (tupleKeyHash knd k) c).j:=λ hk=>by
  obtain⟨i,d,e1,e2⟩:=B.has k hk;obtain⟨hi,_⟩:=bz.mp e1;have ZC:i<t.place.size:=by rw[B.tok.size];exact hi
  have Ra:t.place[i]? = some t.place[i]:=bx ZC;obtain⟨c,c1,c2⟩:=B.Lg i _ _ e1 Ra;refine⟨i,c,d,e1,e2,bf _,?_,by rw[Ra,Fd,c1]⟩
  rcases fz c T with z | z
  ·exact z
  ·exfalso
   rcases gn z with z | z
   ·subst z;rw[Fd,c1] at t3;exact t3 i Ra
   ·have:=c2 T z;rw[<-Fd] at this;exact this t3
 refine wpAny_bind (GO (s:={ s with toks:=s.toks+(k.length+1) }) hu ho hd B hb t3 t4 t2 (λ hk=>?_) (λ hk=>?_) (by omega) hin)
 ·refine wpAny_pure ?_
  have hz:=h false s.heap (s.toks+(k.length+1)) (Heap.SameBut.refl _ _);rw[if_pos hk] at hz;exact hz ⟨o,es,ep,t,ho,hx,hd,B⟩
 ·show wpAny _ _ (setState a >>= _) _ _ _
  refine wpAny_bind (wpAny_setState_of (s:={ s with toks:=s.toks+(k.length+1) }) ho hd B.fits ?_);have pre:=B.insert hb t3 t4;obtain⟨e2,tok,Ul,em,X3,_⟩:=B.tok.put t3 (HU t (tupleKeyHash knd k) T).1;have hsz:(insertAt es (t.put (pr t (tupleKeyHash knd k) T).j).2 (tupleKeyHash knd k,Value.ref b)).size=es.size+1:=by rw[<-pre.len,aE,B.len];rfl
  have hle:es.size+1<=32768:=by rw[<-B.len];omega
  generalize ZD:t.put (pr t (tupleKeyHash knd k) T).j=tp at pre e2 tok Ul em X3 hsz
  obtain⟨t',p⟩:=tp;simp only at pre e2 tok Ul em X3 hsz
  have goal:∀c:Bool,wpAny (model prog w) A (do
    storeSet a (insertAt es p (tupleKeyHash knd k,Value.ref b)) (if c=true then t' else { t' with plain:=false })
    if (!false&&(if c=true then t' else { t' with plain:=false }).tooFull)=true then setRelay a (SetTable.grown (es.size+1))
    return true) Q E { s with toks:=s.toks+(k.length+1) }:=λ c=>by
   have Pa:Pre knd s.heap (insertAt es p (tupleKeyHash knd k,Value.ref b)) (if c=true then t' else { t' with plain:=false }) (ks++[k]):=by
    cases c
    ·exact pre.plain false
    ·exact pre
   have VE:(if c=true then t' else { t' with plain:=false }:SetTable).mask=t.mask:=by cases c<;>exact em
   generalize (if c=true then t' else { t' with plain:=false }:SetTable)=t2 at Pa VE
   obtain⟨o2,g1,g2,g3,g4⟩:=C9 (insertAt es p (tupleKeyHash knd k,Value.ref b)) t2 ho hx hd;refine wpAny_bind (wpAny_storeSet_of (s:={ s with toks:=s.toks+(k.length+1) }) ho hd ?_ (by rw[hsz];exact Fj (by omega)));have Uo:=Pa.keeps ho hd g4;have fill:t2.fill=es.size+1:=by rw[Pa.tok.fits,hsz]
   have full:t2.tooFull=decide ((es.size+1)*5>=t.mask*3):=by unfold SetTable.tooFull;rw[fill,VE]
   rw[full]
   rcases B.sz.more hle with ⟨q1,q2⟩ | ⟨q1,q2,q3⟩
   ·rw[decide_eq_false q1];simp only[gr,ic,aI,if_false]
    refine wpAny_bind (wpAny_pure (wpAny_pure ?_));have hz:=h true _ (s.toks+(k.length+1)) g4;rw[if_neg hk] at hz;exact hz ⟨o2,_,_,t2,g1,g2,g3,Uo.body (by rw[VE,hsz];exact q2)⟩
   ·rw[decide_eq_true q1];simp only[gr,gH,if_true]
    refine wpAny_bind ?_;unfold setRelay;have fit:t2.fits (insertAt es p (tupleKeyHash knd k,Value.ref b)).size=true:=by
     simp only[SetTable.fits,aQ,beq_iff_eq,decide_eq_true_eq]
     refine⟨Pa.tok.size,?_⟩;rw[fill,VE]
     rcases B.sz with ⟨e,z⟩ | ⟨e,z⟩ | ⟨e,z⟩ | ⟨e,z⟩ | ⟨e,z⟩ | ⟨e,z⟩ | ⟨e,z⟩ | ⟨e,z⟩<;>omega
    refine wpAny_bind (wpAny_setState_of (s:={ s with heap:=s.heap.update a (Obj.putSet (insertAt es p (tupleKeyHash knd k,Value.ref b)) t2),toks:=s.toks+(k.length+1) }) g1 g3 fit ?_);dsimp only;rw[if_neg (show ¬sizeAbove (grown (es.size+1))>sizeLine by rw[sizeLine_eq];omega)];obtain⟨t3',order,r1,r2,r3⟩:=Uo.Um (wanted:=SetTable.grown (es.size+1)) (by rw[hsz];exact q3);rw[r1];show wpAny _ _ ((do
     let es':=order.filterMap ((insertAt es p (tupleKeyHash knd k,Value.ref b))[·]?)
     if (es'.size != (insertAt es p (tupleKeyHash knd k,Value.ref b)).size)=true then unsupported "internal:set-table-lost-an-element"
     pure (es',t3')) >>= _) _ _ _
    dsimp only;rw[if_neg (by rw[r2];simp)];refine wpAny_bind (wpAny_bind (wpAny_pure (wpAny_pure ?_)));obtain⟨o4,k1,k2,k3,k4⟩:=C9 (order.filterMap ((insertAt es p (tupleKeyHash knd k,Value.ref b))[·]?)) t3' g1 g2 g3;refine wpAny_storeSet_of (s:={ s with heap:=s.heap.update a (Obj.putSet (insertAt es p (tupleKeyHash knd k,Value.ref b)) t2),toks:=s.toks+(k.length+1) }) g1 g3 ?_ (by rw[r2,hsz];exact Fj (by omega));refine wpAny_pure ?_;have hz:=h true _ (s.toks+(k.length+1)) (g4.trans k4);rw[if_neg hk] at hz;have Wx:Pre knd _ _ t3' (ks++[k]):=(Pre.keeps ⟨r3.tok,r3.ent,r3.has,r3.len,r3.Lg⟩ g1 g3 k4)
    exact hz ⟨o4,_,_,t3',k1,k2,k3,Wx.body r3.sz⟩
  by_cases hpl:t'.plain=true
  ·simp only[hpl,if_true]
   refine wpAny_bind (hbv (s:={ s with toks:=s.toks+(k.length+1) }) hb λ c=>?_);exact goal c
  ·have hpl:t'.plain=false:=by simpa using hpl
   simp only[hpl,aI,if_false]
   refine wpAny_bind (wpAny_pure ?_);exact goal true
end
end St
end
noncomputable section
namespace St
open PySem PySem.SetTable
section
variable{prog:Program}{w:World}{K:Type}[DecidableEq K]{knd:KeyKind prog w K}
def GP(acc:List (List K))(k:List K):List (List K):=if k∈acc then acc else acc++[k]
def dd(l:List (List K)):List (List K):=l.foldl GP []
theorem Pb(l:List (List K))(k:List K):dd (l++[k])=GP (dd l) k:=by unfold dd;rw[dU];rfl
theorem GQ:∀(l acc:List (List K)),acc.Nodup->(l.foldl GP acc).Nodup/\(l.foldl GP acc).length<=acc.length+l.length/\((l.foldl GP acc).length=acc.length+l.length↔(acc++l).Nodup)
 |[],acc,h=>⟨h,aq _,by simp[h]⟩
 |k::l,acc,h=>by
  rw[dG]
  by_cases hk:k∈acc
  ·have e:GP acc k=acc:=if_pos hk;rw[e];obtain⟨h1,h2,h3⟩:=GQ l acc h;refine⟨h1,by simp;omega,⟨λ z=>by simp at z;omega,λ z=>?_⟩⟩;rw[cU] at z;exact absurd rfl (z.2.2 k hk k aO)
  ·have e:GP acc k=acc++[k]:=if_neg hk;have hn:(acc++[k]).Nodup:=by
    rw[cU];exact⟨h,by simp,λ a ha b hb e2=>hk (by simp at hb;rw[<-hb,<-e2];exact ha)⟩
   rw[e];obtain⟨h1,h2,h3⟩:=GQ l (acc++[k]) hn;refine⟨h1,by simp at h2 ⊢;omega,?_⟩;rw[cG] at h3;simp only[aE,aJ,List.length_nil] at h3 ⊢
   rw[<-show (acc++([k]++l)).Nodup↔(acc++k::l).Nodup from Iff.rfl,<-h3];omega
theorem GR(l:List (List K)):(dd l).length<=l.length/\((dd l).length=l.length↔l.Nodup):=by
 obtain⟨_,h2,h3⟩:=GQ l [] iu
 unfold dd
 simpa using And.intro h2 h3
theorem pY.fresh{h:Heap}{a:Addr}(led:Bool)(e:h.get? a=some { cls:=.type "set",dict:=none,data:=.set #[] 0 (.fresh 0 0 led) }):pY knd h a []:=
 ⟨_,#[],0,.fresh 0 0 led,e,⟨rfl,rfl,rfl⟩,rfl,
  ⟨⟨rfl,λ i j a b e1=>by simp[SetTable.fresh] at e1,λ i j e1=>by simp[SetTable.fresh] at e1,rfl,⟨3,by decide,rfl⟩⟩,.inl ⟨rfl,by decide⟩,
   λ i e q=>by simp at q,λ k hk=>absurd hk (by simp),rfl,λ i e j q=>by simp at q⟩⟩
theorem pY.keep{h h':Heap}{a:Addr}{ks:List (List K)}(S:pY knd h a ks)(k1:∀o,h.get? a=some o->h'.get? a=some o)(k2:∀k b,IsTupleKey knd h k b->IsTupleKey knd h' k b):pY knd h' a ks:=by
 obtain⟨o,es,ep,t,ho,hx,hd,B⟩:=S
 exact⟨o,es,ep,t,k1 o ho,hx,hd,⟨B.tok,B.sz,λ i e q=>let ⟨k,b,a1,a2,a3,a4⟩:=B.ent i e q;⟨k,b,a1,a2,k2 k b a3,a4⟩,λ k hk=>let ⟨i,b,a1,a2⟩:=B.has k hk;⟨i,b,a1,k2 k b a2⟩,B.len,B.Lg⟩⟩
theorem tup_ne{h:Heap}{k:List K}{b c:Addr}{o:Obj}{vs:Array Value}(x:IsTupleKey knd h k b)(e:h.get? c=some o)(d:o.data=.fields vs):b≠c:=by
 rintro rfl
 obtain⟨o',items,n,ho,_,hd,_⟩:=x
 rw[e] at ho;cases ho
 rw[d] at hd;cases hd
theorem RN{h:Heap}{k:List K}{b a:Addr}{ks:List (List K)}(x:IsTupleKey knd h k b)(S:pY knd h a ks):b≠a:=by
 rintro rfl
 obtain⟨o',items,n,ho,_,hd,_⟩:=x
 obtain⟨o,es,ep,t,e,_,d,_⟩:=S
 rw[e] at ho;cases ho
 rw[d] at hd;cases hd
theorem Aw{h h':Heap}{k:List K}{b:Addr}(x:IsTupleKey knd h k b)(e:∀o,h.get? b=some o->h'.get? b=some o):IsTupleKey knd h' k b:=
 let ⟨o,items,n,ho,r⟩:=x;⟨o,items,n,e o ho,r⟩
variable{A:Around}{s:Shared}{I S:Addr}{fp:List Addr}{n:Nat}{P:Nat->Value->Prop}{St:Nat->Heap->Prop}
theorem Dc{R:Result->Shared->Prop}(W:Walks prog w A.in1 I fp [I] n P St)(hSf:S ∉ fp)(hu:A.in1.units<cLine)(kl:List (List K))(hlen:kl.length=n)(hn:n<=32768)
  (hit:∀i h,St i h->∃o vs,h.get? I=some o/\o.data=.fields vs) :
  ∀(k i:Nat) (s:Shared),n-i=k->i<=n->St i s.heap->pY knd s.heap S (dd (kl.take i)) ->
   (∀j v,i<=j->P j v->∃b q,v=.ref b/\kl[j]? = some q/\IsTupleKey knd s.heap q b) ->
   (∀(h':Heap) (tk:Nat),(∀b o,b≠S->b≠I->s.heap.get? b=some o->h'.get? b=some o)->pY knd h' S (dd kl)->R (.ok (.ret .none)) { s with heap:=h',toks:=tk }) ->
   codeAny (model prog w) A (.builtin "set.update.loop" ⟨[.ref S,.ref I],[]⟩) R s
 |k,i,s,hk,hi,st,hS,hP,hR=>by
  refine codeAny_builtin PyProof.Rows.F.entry_set_update_loop ?_;rw[Around.under_plainId PyProof.Rows.F.plain_set_update_loop _];show wpAny _ A.in1 (pyNext (.ref I) >>= _) _ _ s;obtain⟨oI,vsI,eI,dI⟩:=hit i s.heap st
  rcases fz i n with hlt | hge
  ·obtain⟨k,rfl⟩:∃k',k=k'+1:=⟨k-1,by omega⟩
   refine wpAny_bind (W.item i s _ _ hlt st λ v h' tk hv st' hm=>?_);obtain⟨b,q,rfl,eq,hb⟩:=hP i v (aq _) hv;have tk':∀k b,IsTupleKey knd s.heap k b->IsTupleKey knd h' k b:=λ k b x=>Aw x λ o e=>hm b o (λ z=>tup_ne x eI dI (by simpa using z)) e
   have hSI:S≠I:=λ z=>hSf (by rw[z];exact W.sub I (by simp))
   have hS':=hS.keep (h':=h') (λ o e=>hm S o (by simpa using hSI) e) tk';show wpAny _ A.in1 (holding [Value.ref b] (setAdd S (.ref b)) >>= _) _ _ _;refine wpAny_bind (wpAny_holding (RM (s:={ s with heap:=h',toks:=tk }) hu hS' (tk' q b hb) ?_ λ c h2 Wy sb Wz=>?_))
   ·have:=(GR (kl.take i)).1;rw[aU] at this;omega
   ·have et:kl.take (i+1)=kl.take i++[q]:=by
     rw[gB,eq];rfl
    have WA:pY knd h2 S (dd (kl.take (i+1))):=by rw[et,Pb];exact Wz
    refine wpAny_pure ⟨plainId_quiet PyProof.Rows.F.plain_set_update_loop _,?_⟩;refine Dc W hSf hu kl hlen hn hit k (i+1) _ (by omega) hlt (W.frame (i+1) h' h2 st' λ b hb o e=>?_) WA (λ j v hj hv=>?_) λ h3 WB ZE ZF=>?_
    ·rw[sb.2 b (λ z=>hSf (by rw[<-z];exact hb))];exact e
    ·obtain⟨b2,q2,f1,f2,f3⟩:=hP j v (by omega) hv;refine⟨b2,q2,f1,f2,?_⟩;have f4:=tk' q2 b2 f3;exact Aw f4 λ o e=>by rw[sb.2 b2 (RN f4 hS')];exact e
    ·refine hR h3 WB (λ b o h1 h2' e=>ZE b o h1 h2' ?_) ZF;show h2.get? b=some o;rw[sb.2 b h1];exact hm b o (by simpa using h2') e
  ·have hin:i=n:=by omega
   subst hin;refine wpAny_bind (W.done s _ _ st λ h' tk hm=>?_);show wpAny _ A.in1 (ret Value.none) _ _ _;refine wpAny_pure (hR h' tk (λ b o _ h2 e=>hm b o (by simpa using h2) e) ?_);have hSI:S≠I:=λ z=>hSf (by rw[z];exact W.sub I (by simp))
   have:=hS.keep (h':=h') (λ o e=>hm S o (by simpa using hSI) e) λ k b x=>Aw x λ o e=>hm b o (λ z=>tup_ne x eI dI (by simpa using z)) e
   rw[ay (by omega)] at this;exact this
 termination_by k=>k
theorem J2{l o:Addr}{items:Array Value}{led:Bool}{E:Value->Shared->Prop}{Q:Value->Shared->Prop}{kl:List (List K)}(hh:A.handled=none)(hu:A.units+8<cLine)
  (hl:s.heap.IsList l items) (ho:s.heap.get? o=some { cls:=.type "set",dict:=none,data:=.set #[] 0 (.fresh 0 0 led) }) (hlen:kl.length=items.size) (hn:items.size<=32768)
  (hk:∀(i:Nat) (v:Value),items[i]? = some v->∃b q,v=.ref b/\kl[i]? = some q/\IsTupleKey knd s.heap q b)
  (h:∀(h':Heap) (tk:Nat),pY knd h' o (dd kl)->(∀b u,b≠o->s.heap.get? b=some u->h'.get? b=some u)->Q .none { s with heap:=h',toks:=tk }) :
  codeAny (model prog w) A (.call (.builtin "set.__init__") ⟨[.ref o,.ref l],[]⟩) (wants Q E) s:=by
 have hT:s.TypeIs (.ref o) "set":=⟨_,ho,rfl⟩
 refine codeAny_call_builtin F.called_set.init.plain F.entry_set_init (check_set_init_1 hT ?_)
 obtain⟨ol,e1,e2,nl,e3⟩:=id hl
 cases ol with
 |mk ZG X4 X5 WC=>
 simp only at e2 e3
 subst e2 e3
 have h1:=F.sub_list_set
 have h2:=F.sub_list_frozenset
 have h3:(Value.type "list" == Value.type "dict")=false:=by decide
 have ZH:l≠o:=by
  rintro rfl;rw[e1] at ho;have z:=congrArg Obj.cls (aR ho);simp at z
 have lo:o<s.heap.objs.size:=Heap.lt_size ho
 have ll:l<s.heap.objs.size:=Heap.lt_size e1
 unfold Builtin.«set.__init__» noKeywords Builtin.Frozenset.updateFrom
 generalize hq:pyIter=it
 wp_walk
 subst hq
 refine wpAny_pyIter_list hl (wpAny_bind (wpAny_runValue ?_))
 have W:=Walks.list (prog:=prog) (w:=w) (A:=A.in1.in1) (by simp[hh]) s.heap.objs.size l (aW ll) items
 refine Dc (knd:=knd) W (S:=o) (λ z=>?_) ?_ kl hlen hn (λ i h3 st=>?_) items.size 0 _ (by omega) (bf _) ?_ ?_ ?_ ?_
 ·simp only[aA,dg,or_false] at z
  rcases z with z | z
  ·exact absurd z (aW lo)
  ·exact ZH z.symm
 ·show A.units+1+1<cLine
  omega
 ·obtain⟨⟨oi,f1,_,f3⟩,_⟩:=st
  exact⟨oi,_,f1,f3⟩
 ·exact⟨⟨_,Heap.get?_push_size _ rfl,rfl,rfl⟩,hl.push _⟩
 ·exact pY.fresh led (Heap.get?_push_of_some _ ho)
 ·intro j v _ hv
  obtain⟨b,q,g1,g2,g3⟩:=hk j v hv;exact⟨b,q,g1,g2,Aw g3 λ u e=>Heap.get?_push_of_some _ e⟩
 ·intro h' tk k1 k2
  refine wpAny_pure (wpAny_pure ?_);exact h h' tk k2 λ b u hb e=>k1 b u hb (aW (Heap.lt_size e)) (Heap.get?_push_of_some _ e)
theorem MA{l:Addr}{items:Array Value}{E:Value->Shared->Prop}{Q:Value->Shared->Prop}{kl:List (List K)}(hh:A.handled=none)(hu:A.units+16<cLine)
  (hl:s.heap.IsList l items) (hlen:kl.length=items.size) (hn:items.size<=32768)
  (hk:∀(i:Nat) (v:Value),items[i]? = some v->∃b q,v=.ref b/\kl[i]? = some q/\IsTupleKey knd s.heap q b)
  (h:∀(h':Heap) (tk:Nat),pY knd h' s.heap.objs.size (dd kl)->(∀b u,s.heap.get? b=some u->h'.get? b=some u)->Q (.ref s.heap.objs.size) { s with heap:=h',toks:=tk }) :
  wpAny (model prog w) A (call (.type "set") [.ref l]) Q E s:=by
 have F0:=F.called_set
 obtain⟨c,tl,hm⟩:=F0.mro
 have f1:=F0.made
 have f2:=F0.sub
 have f3:=F0.notType
 have f4:=F0.canCreate
 have f5:=F.typeCall_set_1 (.ref l)
 refine wpAny_call (codeAny_of_tree ?_)
 show wpAny _ _ (callAny (.type "set") ⟨[.ref l],[]⟩) _ _ _
 refine wpAny_pure ⟨Code.quiet_builtin _ (by decide +kernel),codeAny_builtin F.entry_type_call ?_⟩
 rw[Around.under_plain (weight_type_call_type "set" [.ref l] []) rfl]
 (repeat (any_goals (first | assumption | wp_step)));skip
 refine codeAny_mono (code_set_new_1 (.ref l) (E:=E) (Q₁:=λ v s1=>∃led:Bool,v=.ref s.heap.objs.size /\
  s1 = { s with heap:=s.heap.push { cls:=.type "set",dict:=none,data:=.set #[] 0 (.fresh 0 0 led) } }) λ led=>⟨led,rfl,rfl⟩) λ r s1 hr=>?_
 cases r with
 |error e=>exact hr
 |ok fl=>
  cases fl with
  |ret v=>
   obtain⟨led,rfl,rfl⟩:=hr;have g0:=Heap.get?_push_size s.heap (o:={ cls:=.type "set",dict:=none,data:=.set #[] 0 (.fresh 0 0 led) }) rfl;have g1:Shared.TypeIs { s with heap:=s.heap.push { cls:=.type "set",dict:=none,data:=.set #[] 0 (.fresh 0 0 led) } } (.ref s.heap.objs.size) "set":=⟨_,g0,rfl⟩
   have g2:=F0.init.lookup;have g3:=F0.init.bind (.ref s.heap.objs.size)
   (repeat (any_goals (first | assumption | wp_step)));skip
   refine codeAny_mono (J2 (knd:=knd) (Q:=λ v s2=>v=.none/\∃h' tk,s2 = { s with heap:=h',toks:=tk }/\pY knd h' s.heap.objs.size (dd kl)/\∀b u,s.heap.get? b=some u->h'.get? b=some u)
    (E:=E) (by simpa using hh) (by simp only[Around.in1];omega) (hl.push _) g0 hlen hn (λ i v hv=>?_) λ h' tk a1 a2=>?_) λ r2 s2 hr2=>?_
   ·obtain⟨b,q,q1,q2,q3⟩:=hk i v hv;exact⟨b,q,q1,q2,Aw q3 λ u e=>Heap.get?_push_of_some _ e⟩
   ·exact⟨rfl,h',tk,rfl,a1,λ b u e=>a2 b u (aW (Heap.lt_size e)) (Heap.get?_push_of_some _ e)⟩
   ·cases r2 with
    |error e=>exact hr2
    |ok WD=>
     cases WD with
     |ret r=>
      obtain⟨rfl,h',tk,rfl,a1,a2⟩:=hr2
      (repeat (any_goals (first | assumption | wp_step)));skip
      exact h h' tk a1 a2
     |_=>exact hr2.elim
  |_=>exact hr.elim
end
end St
end
noncomputable section
namespace L2
open PySem PySem.Spec PyProof.Rows
def wG(P:Program)(w:World):OP:=λ outer H s E e s'=>
 ∃(a C:Addr) (a0:Value) (B h1:Heap) (H1:Hp),e=.ref a/\s'.os=s.os/\AllBare s'.gens/\Heap.FlyingW B outer a (.ref C) a0 s'.heap /\
  Un (frs outer) [] H H1 s.heap h1/\yu P w H1 h1/\h1.UpToSlots s'.heap /\
  (∀b o,h1.get? b=some o->(b<s.heap.objs.size\/H1 b≠none)->b ∉ frs outer->B.get? b=some o)/\E (.ref C) none H1
theorem jA{P:Program}{w:World}{X:Cx}:o5 (wG P w) X E0:=λ _ _ _ _ _ _ _ h=>by
 obtain⟨_,_,_,_,_,_,_,_,_,_,_,_,_,_,z⟩:=h
 exact z.elim
structure XL(X:Cx)(E:XK):Prop where
 Ov:X.stack=X.env::X.outer
 fr:X.env.frame=some X.env.locals
 ex:X.ex=[]
 calm:X.calm=true
 to:∀e s',wpAny (model X.prog X.w) X.A (leaving X.env e) (λ _ s''=>wG X.prog X.w X.outer X.Qu X.Ci E e s'') (λ e' s''=>wG X.prog X.w X.outer X.Qu X.Ci E e' s'') s'->X.xe e s'
theorem jw{X:Cx}{E:XK}(L:XL X E):o5 (wG X.prog X.w) X E:=by
 intro pins σ H s e s' I h
 obtain⟨a,C,a0,B,h1,H1,rfl,os,bare,fl,un,hok,sl,cond,hE⟩:=h
 have J:=I.call (h':=h1) (g':=s.gens) (t':=s.toks) (d':=s.drawn) (ch:=[]) un hok I.bare (λ b z=>absurd z (by simp))
 refine L.to _ _ ?_
 rw[L.Ov] at fl
 refine wpAny_leaves_onW (I.ok.frames.trans (congrArg some L.Ov)) L.fr fl λ h' ZI Vt=>?_
 refine⟨a,C,a0,B,h1,H1,rfl,os.trans I.os,bare,ZI,?_,hok,sl.trans Vt,λ b o e hb hn=>cond b o e ?_ λ hm=>?_,hE⟩
 ·have u:=J.base
  rw[L.ex] at u;exact u
 ·rcases hb with hb | hb
  ·exact .inl (aH hb I.sz)
  ·exact .inr hb
 ·rcases aA.mp (I.Aa b hm) with z | z
  ·rcases hb with hb | hb
   ·exact absurd (aH hb I.ok.above) (by rw[z];exact bJ _)
   ·rw[z] at hb;exact hb J.free
  ·exact hn z
theorem rE{K:aj}{h:Heap}{mg:Str->Option Value}{x:Str}{C:Addr}{bmB:List Value}{newId:String}(KX:K.In h)(hm:mg x=some (.ref C))
  (q:iI K C bmB newId=true):OwnCls x C bmB newId mg h:=by
 constructor
 ·exact hm
 ·revert q
  rw[iI]
  split
  ·rename_i dd cd sl ho
   split
   ·rename_i C' bm k0 k1 k2 k3 n k5 e1 e2
    intro q;simp only[beq_iff_eq,aQ,Bool.not_eq_true'] at q
    obtain⟨⟨⟨⟨⟨q1,q2⟩,q3⟩,q4⟩,q5⟩,q6⟩:=q;subst q1 q2;obtain⟨nm,bs,mro,ns,qn,hd,sn,sub,ab,col,del⟩:=cd;dsimp only at e1 q3 q5 q6;subst e1 q3;obtain rfl:sl = #[k0,k1,k2,k3,some (.builtin n),k5]:=by
     cases sl;exact congrArg Array.mk e2
    exact⟨bm,ns,nm,qn,bs,hd,sn,sub,ab,col,dd,k0,k1,k2,k3,k5,_,KX _ _ ho,.of_isNs (PySem.W.isNs_of_in KX q5),
     PySem.W.nsMap_none_of_in KX q5 q6,PySem.W.tail_of_in KX q4⟩
   ·intro z;cases z
  ·intro z;cases z
theorem xo{X:Cx}{x:Str}{C:Addr}{B newId initId:String}{bm:List Value}{np cpos pos:Pos}{E:XK}(L:XL X E)(hg:Gl X x)(O:OwnCls x C bm newId X.mg X.base)
  (FB:ExcBaseFacts B newId initId bm) (hd:(x==("__debug__":Str))=false:=by decide) :
  PS X (.Raise (some (.Call (.Name x np) [] [] cpos)) none pos) (λ _ _ H=>E (.ref C) none H):=by
 intro pins s σ H D I hE
 obtain⟨tl,N,nm,q,bs,hdct,sn,sub,ab,col,dd,k0,k1,k2,k3,k5,mN,hC,hN,hni,T⟩:=O.obj
 refine wpAny_Raise_call_subT (nm:=nm) (q:=q) (C:=C) (N:=N) (bs:=bs) (bm:=tl) (hdct:=hdct) (sn:=sn) (sub:=sub) (ab:=ab) (col:=col) (dd:=dd) (k0:=k0)
  (k1:=k1) (k2:=k2) (k3:=k3) (k5:=k5) FB (mN:=mN) (T.hasType FB.hasBase) (I.ok.hd L.calm) rfl hni (sN I hg O.bound ⟨rfl,?_⟩ hd)
 refine evalArgs_empty ⟨rfl,bf _,I.bk _ _ hC,hN.keeps I.bk,T.keeps I.bk,λ h' e hm=>?_⟩
 refine L.to _ _ ?_
 have hin:∀env∈X.stack,∀a,env.frame=some a->a∈frs X.stack:=λ env he a ha=>eZ.mpr ⟨env,he,ha⟩
 have ff:=PySem.W.funFrames_hide I.stack hin
 rw[L.Ov] at ff
 refine wpAny_leaves_madeW (I.ok.frames.trans (congrArg some L.Ov)) L.fr (λ b o z=>iK _ z) ff hm λ h'' t fl _ _ sl=>?_
 refine⟨e,C,.ref t,_,s.heap,H,rfl,I.os,I.bare,fl,?_,I.hok,(Heap.UpToSlots.of_keeps hm.keeps).trans sl,λ b o eb hb hn=>iE _ eb λ z=>?_,hE⟩
 ·have u:=I.base
  rw[L.ex] at u;exact u
 ·rw[<-L.Ov] at z
  rcases aA.mp (I.Aa b z) with y | y
  ·rcases hb with hb | hb
   ·exact absurd (aH hb I.ok.above) (by rw[y];exact bJ _)
   ·rw[y] at hb;exact hb I.free
  ·exact hn y
end L2
end
noncomputable section
namespace L2
open PySem PySem.Spec PyProof.Rows
def MB(a:Addr)(n:Nat)(h:Heap):Prop:=∃o es ep t,h.get? a=some o/\o.ExactSet/\o.data=.set es ep t/\t.fits es.size=true/\es.size=n/\n<=32768
structure pM(K:aj)(H:Hp)(as:List Addr)(kl:List (List Int)):Prop where
 len:as.length=kl.length
 at_:∀(i:Nat) (a:Addr) (k:List Int),as[i]? = some a->kl[i]? = some k->rq K H a (k.map V.int)
def ky(k:List Int):List Key:=k.map Sum.inl
theorem Eb:∀{a b:List Int},ky a=ky b->a=b
 |[],[],_=>rfl
 |[],_::_,h=>by cases h
 |_::_,[],h=>by cases h
 |x::a,y::b,h=>by
  have h':Sum.inl x::ky a=(Sum.inl y::ky b:List Key):=h
  injection h' with h1 h2
  injection h1 with h1
  rw[h1,Eb h2]
section
variable{X:Cx}{pins:List (Addr×Obj)}{σ:St}{H:Hp}{s:Shared}
theorem xq{a:Addr}{k:List Int}(I:Inv X pins σ H s)(h:rq X.K H a (k.map V.int)):IsTupleKey (kT X.prog X.w) s.heap (ky k) a:=by
 obtain⟨its,r,⟨o,ho,hc,n,hd⟩,_⟩:=I.tuple h
 refine⟨o,_,n,ho,hc,hd,?_⟩
 have q:Vals ((ky k).map kV) its:=by
  unfold ky;rw[dw];exact r
 simpa using C0 q
theorem J3(hc:X.calm=true)(hu:X.A.units+64<cLine):uc X (.type "set") (λ vs H Q=>∃(l:Addr) (as:List Addr) (kl:List (List Int)),vs=[.ref l]/\jz X.K H l (as.map V.ref)/\pM X.K H as kl/\kl.length<=32768 /\
  ∀p,H p=none->Q (.ref p) (upd H p (.ext (MB p (St.dd (kl.map ky)).length)))):=by
 intro pins s σ H xs us Q I r h
 obtain⟨l,as,kl,rfl,hq,T,hn,q⟩:=h
 obtain rfl:=Vals.Jw r
 obtain⟨its,r',pl,hz⟩:=I.list hq
 have hlen:=r'.length
 rw[ah] at hlen
 refine St.MA (knd:=kT X.prog X.w) (kl:=kl.map ky) (items:=its.toArray) (I.ok.hd hc) (by omega) pl.isList (by simp;rw[<-T.len,hlen]) (by simp;rw[<-hlen,T.len];exact hn) (λ i v hv=>?_) λ h' tk S kp=>?_
 ·have hv:its[i]? = some v:=by simpa using hv
  have hi:i<its.length:=(ao.mp hv).1;have ea:as[i]? = some as[i]:=af (by omega);obtain⟨u,e1,e2⟩:=r'.get (x:=V.ref as[i]) (by rw[ai,ea];rfl);rw[hv] at e1
  cases e1;have hik:i<kl.length:=by rw[<-T.len];omega
  have ek:kl[i]? = some kl[i]:=af hik;exact⟨as[i],ky kl[i],e2,by rw[ai,ek];rfl,xq I (T.at_ i _ _ ea ek)⟩
 ·have hf:H s.heap.objs.size=none:=I.fresh
  have ob:MB s.heap.objs.size (St.dd (kl.map ky)).length h':=by
   obtain⟨o,es,ep,t,ho,hx,hd,B⟩:=S;refine⟨o,es,ep,t,ho,hx,hd,B.fits,B.len.symm,?_⟩;have:=(St.GR (kl.map ky)).1;simp at this;omega
  refine⟨.ref s.heap.objs.size,_,I.laid (t':=tk) kp (aq _) (o:=.ext (MB s.heap.objs.size (St.dd (kl.map ky)).length)) ?_,rfl,q _ hf⟩;refine⟨ob,?_,λ h1 h2 a b=>?_⟩
  ·obtain⟨o,_,_,_,ho,_⟩:=ob;exact⟨o,ho⟩
  ·obtain⟨o,es,ep,t,ho,rest⟩:=a;exact⟨o,es,ep,t,b o ho,rest⟩
theorem Fl:uc X (.builtin "len") (λ vs H Q=>∃p n,vs=[.ref p]/\H p=some (.ext (MB p n))/\Q (.int n) H):=by
 intro pins s σ H xs us Q I r h
 obtain⟨p,n,rfl,e,q⟩:=h
 obtain rfl:=Vals.Jw r
 obtain⟨⟨o,es,ep,t,ho,hx,hd,hf,en,hn⟩,_⟩:=I.hok p _ e
 subst en
 refine call_len_set ho hx hd hf (by omega) ⟨.int es.size,H,I.tok _,⟨_,rfl⟩,q⟩
end
end L2
end
noncomputable section
namespace L2
open PySem PySem.Spec PyProof.Rows
theorem Dd{P P':Program}{w w':World}:∀{ks:List Key}{vs:List Value},ItemsAre (kT P w) ks vs->ItemsAre (kT P' w') ks vs
 |_,_,.nil=>.nil
 |_,_,.cons h t=>.cons h (Dd t)
theorem HY{P P':Program}{w w':World}{h:Heap}{k:List Key}{a:Addr}(x:IsTupleKey (kT P w) h k a):IsTupleKey (kT P' w') h k a:=
 let ⟨o,items,n,a1,a2,a3,a4⟩:=x;⟨o,items,n,a1,a2,a3,Dd a4⟩
open Classical in
def S4(P:Program)(w:World)(h:Heap)(k:List Key)(u:Value):Bool:=decide (∃b,u=.ref b/\IsTupleKey (kT P w) h k b)
theorem Ax{P:Program}{w:World}{h:Heap}{k k':List Key}{b:Addr}(x:IsTupleKey (kT P w) h k' b):S4 P w h k (.ref b)=decide (k'=k):=by
 rw[aS]
 simp only[S4,decide_eq_true_eq]
 constructor
 ·rintro⟨b',q,y⟩
  cases q;exact x.inj y
 ·rintro rfl
  exact⟨b,rfl,x⟩
theorem Fo{P:Program}{w:World}{A:Around}{s:Shared}{a b:Addr}{k k':List Key}(hu:A.units<cLine)(x:IsTupleKey (kT P w) s.heap k' b)(y:IsTupleKey (kT P w) s.heap k a) :
  SeqAt.EqAt A s (.ref b) (.ref a) (S4 P w s.heap k (.ref b)):=by
 intro prog w' E Q q
 rw[Ax x] at q
 exact wpAny_eqBool_tuple (knd:=kT prog w') hu (HY x) (HY y) q
section
variable{X:Cx}{pins:List (Addr×Obj)}{σ:St}{H:Hp}{s:Shared}
theorem rF{as:List Addr}{kl:List (List Int)}{its:List Value}(I:Inv X pins σ H s)(T:pM X.K H as kl)(r:Vals (as.map V.ref) its){i:Nat}{u:Value}(h:its[i]? = some u) :
  ∃b k,u=.ref b/\as[i]? = some b/\kl[i]? = some k/\IsTupleKey (kT X.prog X.w) s.heap (ky k) b:=by
 have hlen:=r.length
 rw[ah] at hlen
 have hi:i<its.length:=(ao.mp h).1
 have ha:i<as.length:=by omega
 have hk:i<kl.length:=by rw[<-T.len];exact ha
 have ea:as[i]? = some as[i]:=af ha
 have ek:kl[i]? = some kl[i]:=af hk
 obtain⟨u',e1,e2⟩:=r.get (x:=V.ref as[i]) (by rw[ai,ea];rfl)
 rw[h] at e1
 cases e1
 exact⟨as[i],kl[i],e2,ea,ek,xq I (T.at_ i _ _ ea ek)⟩
theorem RO(hu:X.A.units+64<cLine):vg X (compareOp .In) (λ x y H Q=>∃(a l:Addr) (k:List Int) (as:List Addr) (kl:List (List Int)),x=.ref a/\rq X.K H a (k.map V.int)/\y=.ref l/\jz X.K H l (as.map V.ref)/\pM X.K H as kl /\
  Q (.bl (decide (k∈kl))) H):=by
 intro pins s σ H x y v u Q I rx ry h
 obtain⟨a,l,k,as,kl,rfl,ha,rfl,hl,T,q⟩:=h
 cases rx
 cases ry
 have hk:=xq I ha
 obtain⟨its,r,pl,hz⟩:=I.list hl
 have hlen:=r.length
 rw[ah] at hlen
 refine SeqAt.in_listAt (S4 X.prog X.w s.heap (ky k)) pl.isList (λ w hw=>?_) ⟨.bl _,H,I,rfl,?_⟩
 ·have hw:w∈its:=by simpa using hw
  obtain⟨i,hi⟩:=cF hw;obtain⟨b,k',rfl,_,_,z⟩:=rF I T r hi;exact Fo (by simp only[Around.in1];omega) z hk
 ·have e:its.toArray.any (S4 X.prog X.w s.heap (ky k))=decide (k∈kl):=by
   rw[aS,decide_eq_true_eq];simp only[List.any_toArray,gM]
   constructor
   ·rintro⟨u,RK,e⟩;obtain⟨i,hi⟩:=cF RK;obtain⟨b,k',rfl,_,ek,z⟩:=rF I T r hi;rw[Ax z,decide_eq_true_eq] at e;rw[<-Eb e];exact au ek
   ·intro hm;obtain⟨i,hi⟩:=cF hm;have hil:i<its.length:=by rw[<-hlen,T.len];exact (ao.mp hi).1
    obtain⟨b,k',e1,_,ek,z⟩:=rF I T r (af hil);rw[hi] at ek
    cases ek;exact⟨its[i],aV hil,by rw[e1,Ax z];exact decide_eq_true rfl⟩
  rw[e];exact q
theorem J4(hu:X.A.units+64<cLine):VA X "list.index" (λ x xs H Q=>∃(a l:Addr) (k:List Int) (as:List Addr) (kl:List (List Int)) (j:Nat),x=.ref l/\xs=[.ref a]/\rq X.K H a (k.map V.int)/\jz X.K H l (as.map V.ref)/\pM X.K H as kl /\
  kl[j]? = some k/\(∀m,m<j->kl[m]?≠some k)/\Q (.int (j:Nat)) H):=by
 intro pins s σ H x xs v us Q I rx ZJ h
 obtain⟨a,l,k,as,kl,j,rfl,rfl,ha,hl,T,ej,hno,q⟩:=h
 cases rx
 obtain rfl:=Vals.Jw ZJ
 have hk:=xq I ha
 obtain⟨its,r,⟨⟨cls,dct,data,sl⟩,n,ho,hc,hdn,hd⟩,hz⟩:=I.list hl
 simp only at hc hd
 subst hc hd
 have hlen:=r.length
 rw[ah] at hlen
 have hjk:j<kl.length:=(ao.mp ej).1
 have hji:j<its.length:=by rw[<-hlen,T.len];exact hjk
 have hsl:=sizeLine_eq
 rw[ah] at hz
 refine call_meets gO ⟨_,ho,rfl⟩ PySem.F.entry_list_index (PySem.F.args_list_index_2 _ _)
  (SeqAt.list_indexAt l its.toArray n dct sl (.ref a) (S4 X.prog X.w s.heap (ky k)) j (by simpa using hji) (by omega) ?_ ?_) ⟨ho,λ u' RK=>?_,⟨.int (j:Nat),H,I.tok _,⟨_,rfl⟩,q⟩⟩
 ·obtain⟨b,k',e1,_,ek,z⟩:=rF I T r (af hji)
  rw[ej] at ek
  cases ek;have e2:its.toArray[j]'(by simpa using hji)=.ref b:=by simpa using e1
  rw[e2,Ax z];exact decide_eq_true rfl
 ·intro m hm ZK
  have hml:m<its.length:=by simpa using hm
  obtain⟨b,k',e1,_,ek,z⟩:=rF I T r (af hml);have e2:its.toArray[m]'hm=.ref b:=by simpa using e1
  rw[e2,Ax z];refine decide_eq_false λ e=>hno m ZK ?_
  rw[ek,Eb e]
 ·have RK:u'∈its:=by simpa using RK
  obtain⟨i,hi⟩:=cF RK;obtain⟨b,k',rfl,_,_,z⟩:=rF I T r hi;exact Fo (by simp only[Around.in1];omega) z hk
end
end L2
end
noncomputable section
namespace L2
open PySem PySem.Spec PyProof.Rows
structure wH(K:aj)(mg:Str->Option Value)(x qual:Str)(st:Stmt)(ps:List Str)(f:Addr)(fd:FuncData):Prop where
 fn:RC K x qual st f fd
 bd:Binds K fd ps []
 mg:mg x=some (.ref f)
structure Met(K:aj)(x qual:Str)(st:Stmt)(ps:List Str)(C f:Addr)(fd:FuncData):Prop where
 fn:RC K x qual st f fd
 bd:Binds K fd ps []
 me:Meth K C x f
structure QG(K:aj)(mg:Str->Option Value)(x:Str)(C:Addr):Prop where
 cl:Lf K C
 mg:mg x=some (.ref C)
 makes:g5 K C=true
 kp:dX K (.ref C)=true
structure Exc(K:aj)(mg:Str->Option Value)(x:Str)(C:Addr):Prop where
 mg:mg x=some (.ref C)
 ex:iI K C [.type "Exception",.type "BaseException",.type "object"] "Exception.__new__" = true
def wI(mg:Str->Option Value)(x:Str)(v:V):Prop:=∃u,mg x=some u/\RelV v u
def lB(K:aj)(C D:Addr):Prop:=∃c d cd sl,K.lookup C=some ⟨c,d,.cls cd,sl⟩/\cd.mro.contains (.ref D)=false
theorem xl_of{P:Program}{w:World}{K:aj}{mg:Str->Option Value}{base:Heap}{N:List Str}{qual:Str}{scope:Scope}{f:Addr}{cd:Value}{A:Around}{outer:List Env}{s:Shared}{H:Hp}{E:XK} :
  XL (Am (wG P w) P w K mg base N qual scope f cd A outer s H E) E:=⟨rfl,rfl,rfl,rfl,λ _ _ h=>h⟩
theorem nJ{P:Program}{w:World}{K:aj}{mg:Str->Option Value}{base:Heap}{N:List Str}{qual:Str}{scope:Scope}{f:Addr}{cd:Value}{A:Around}{outer:List Env}{s:Shared}{H:Hp}{E:XK} :
  PassesOwn (model P w) (A.deeper (envOfC qual scope s.heap.objs.size f cd)) (envOfC qual scope s.heap.objs.size f cd) (Am (wG P w) P w K mg base N qual scope f cd A outer s H E).xe:=
 PassesOwn.leaving (Q₁:=λ e s''=>wG P w outer H s E e s'') (E₁:=λ e s''=>wG P w outer H s E e s'')
section
variable{P:Program}{w:World}{K:aj}{mg:Str->Option Value}{base:Heap}
theorem RC.qw{x qual:Str}{st:Stmt}{f:Addr}{fd:FuncData}{N ps:List Str}{k:Nat}{sp:Sp}(F:RC K x qual st f fd)(S:jo N ps (ji st))(len:∀vs H Q E,sp vs H Q E->vs.length=ps.length)
  (hbody:∀(cdv:Value) (A:Around) (outer:List Env) (s:Shared) (H:Hp) (vs:List V) (Q:VK) (E:XK),mQ k (A.deeper (envOfC qual (ji st) s.heap.objs.size f cdv))->sp vs H Q E ->
   ∃t,Lq (Am (wG P w) P w K mg base N qual (ji st) f cdv A outer s H E) (qx st) t/\t { nx:=λ _ H'=>Q .pT H',rt:=Q } (start N vs) H):yE P w K mg base (wG P w) (k+1) f fd ps sp:=by
 obtain⟨oc,od,kV,doc,pm,an,cdv,ct,osl,rfl,lk,hcd⟩:=F.ex
 exact TX lk hcd S len λ A outer s H vs Q E hr Vy=>hbody cdv A outer s H vs Q E hr Vy
end
section
variable{X:Cx}{x:Str}{pos p:Pos}{C f:Addr}{fd:FuncData}{qual:Str}{st:Stmt}{ps:List Str}{k:Nat}{sp:Sp}{E:XK}{e o:Expr}{es:List Expr}{t:TA}{ta:TE}{apos:Pos}
theorem j9{v:V}(h:wI X.mg x v)(hg:Gl X x)(hd:(x==("__debug__":Str))=false:=by decide):PE X (.Name x pos) (tC v):=let ⟨_,a,b⟩:=h;Oz hg a b hd
theorem jG(G:wH X.K X.mg x qual st ps f fd)(F:yE X.prog X.w X.K X.mg X.base (wG X.prog X.w) k f fd ps sp)(hr:mQ k X.A)(hg:Gl X x)(hx:o5 (wG X.prog X.w) X E)(ha:PA X (e::es) t)(hdb:(x==("__debug__":Str))=false:=by decide)
  (he:starEach (e::es) X.env=(false,eval e X.env)::starEach es X.env:=by rfl) (hpl:(backTo pos (starEach es X.env)).any (·.1)=false:=by rfl):PE X (.Call (.Name x p) (e::es) [] pos) (HH sp [] E t):=
 OR F hr hg G.mg G.fn.kp G.bd .nil hx ha hdb he hpl
theorem rG{pl:Sem Bool}(L:QG X.K X.mg x C){m:Str}(M:Met X.K m qual st ps C f fd)(F:yE X.prog X.w X.K X.mg X.base (wG X.prog X.w) k f fd ps sp)(hr:mQ k X.A)(hx:o5 (wG X.prog X.w) X E)(ho:PE X o ta)(ha:PA X (e::es) t)
  (hst:starEach (e::es) X.env=(false,eval e X.env)::starEach es X.env:=by rfl) (hpl:(backTo pos (starEach es X.env)).any (·.1)=false:=by rfl)
  (ht:eval (.Call (.Attribute o m apos) (e::es) [] pos) X.env=(do
   let ov <-eval o X.env
   standAt apos.atName
   let (f,first) <-holding [ov] (getMethod ov m pl)
   callWith pos f first (backTo pos (starEach (e::es) X.env)) (backToKw pos (keywordEach [] X.env))):=by rfl) :
  PE X (.Call (.Attribute o m apos) (e::es) [] pos) (HJ C m sp [] E ta t):=OS ho L.cl M.me F hr M.bd .nil hx ha hst hpl ht
theorem kW{pl:Sem Bool}(L:QG X.K X.mg x C){m:Str}(M:Met X.K m qual st ps C f fd)(F:yE X.prog X.w X.K X.mg X.base (wG X.prog X.w) k f fd ps sp)(hr:mQ k X.A)(hx:o5 (wG X.prog X.w) X E)(ho:PE X o ta)
  (ht:eval (.Call (.Attribute o m apos) [] [] pos) X.env=(do
   let ov <-eval o X.env
   standAt apos.atName
   let (f,first) <-holding [ov] (getMethod ov m pl)
   callWith pos f first (backTo pos (starEach [] X.env)) (backToKw pos (keywordEach [] X.env))):=by rfl) :
  PE X (.Call (.Attribute o m apos) [] [] pos) (HJ C m sp [] E ta EN):=LO ho L.cl M.me F hr M.bd .nil hx ht
theorem Ay(L:QG X.K X.mg x C)(M:Met X.K "__init__" qual st ps C f fd)(F:yE X.prog X.w X.K X.mg X.base (wG X.prog X.w) k f fd ps sp)(hr:mQ (k+1) X.A)(hg:Gl X x)(hx:o5 (wG X.prog X.w) X E)(ha:PA X (e::es) t)
  (hdb:(x==("__debug__":Str))=false:=by decide) (he:starEach (e::es) X.env=(false,eval e X.env)::starEach es X.env:=by rfl) (hpl:(backTo pos (starEach es X.env)).any (·.1)=false:=by rfl) :
  PE X (.Call (.Name x p) (e::es) [] pos) (QB C sp [] E t):=OT ⟨L.makes,M.me.at_,M.me.fn,L.kp⟩ F hr hg L.mg M.bd .nil hx ha hdb he hpl
end
end L2
end
noncomputable section
namespace L2
open PySem PySem.Spec PyProof.Rows
open PySem.W (kla_fn envX)
def Fp(P:Program)(w:World)(K:aj)(mg:Str->Option Value)(base:Heap)(N:List Str)(qual:Str)(scope:Scope)(f:Addr)(cd:Value)(cl:List (Str×Addr))(A:Around)(outer:List Env)(s:Shared)(H:Hp)(E:XK):Cx where
 prog:=P
 w:=w
 K:=K
 mg:=mg
 base:=base
 A:=A.deeper (envX qual scope s.heap.objs.size f cd cl)
 N:=N
 Ci:=s
 Qu:=H
 env:=envX qual scope s.heap.objs.size f cd cl
 outer:=outer
 stack:=envX qual scope s.heap.objs.size f cd cl::outer
 ex:=[]
 calm:=true
 fn:=λ _=>false
 pn:=[]
 xe:=λ e s'=>wpAny (model P w) (A.deeper (envX qual scope s.heap.objs.size f cd cl)) (leaving (envX qual scope s.heap.objs.size f cd cl) e) (λ _ s''=>wG P w outer H s E e s'') (λ e' s''=>wG P w outer H s E e' s'') s'
theorem RP{P:Program}{w:World}{K:aj}{mg:Str->Option Value}{base:Heap}{N:List Str}{qual:Str}{scope:Scope}{f:Addr}{cd:Value}{cl:List (Str×Addr)}{A:Around}{outer:List Env}{s:Shared}{H:Hp}{E:XK} :
  XL (Fp P w K mg base N qual scope f cd cl A outer s H E) E:=⟨rfl,rfl,rfl,rfl,λ _ _ h=>h⟩
structure Uq(scope:Scope)(cl:List (Str×Addr))(H:Hp)(h:Heap)(N:List Str)(vs:List V):Prop where
 kind:scope.kind=.function
 MD:∀x∈scope.names,x.2≠.cell
 inj:∀x y c,cl.lookup x=some c->cl.lookup y=some c->x=y
 has:∀x,scope.names.lookup x=some .free->∃c,cl.lookup x=some c
 cell:∀x c,cl.lookup x=some c->(∃v,h.IsCell c v)/\H c=none
 len:vs.length=N.length
 val:∀(i:Nat) (x:Str) (v:V),N[i]? = some x->vs[i]? = some v->scope.names.lookup x=some .free/\∃u c,RelV v u/\cl.lookup x=some c/\h.IsCell c (some u)
section
variable{P:Program}{w:World}{K:aj}{mg:Str->Option Value}{base:Heap}
theorem Pc{N:List Str}{qual:Str}{scope:Scope}{f:Addr}{cd:Value}{cl:List (Str×Addr)}{A:Around}{outer:List Env}{s:Shared}{H:Hp}{E:XK}{vs:List V}{h1:Heap}{tk:Tok}
  (C:Uq scope cl H s.heap N vs) (hd:A.handled=none) (e0:yD P w K mg base A outer s H) (hns:h1.Ns s.heap.objs.size λ _=>none) (hk:∀b o,s.heap.get? b=some o->h1.get? b=some o) :
  Inv (Fp P w K mg base N qual scope f cd cl A outer s H E) [] (vs.map some) H { s with heap:=h1,toks:=tk }:=by
 have OU:∀b:Addr,b ∉ (Fp P w K mg base N qual scope f cd cl A outer s H E).ex:=λ b z=>absurd (show b∈([]:List Addr) from z) (by simp)
 have ck:∀c v,s.heap.IsCell c v->h1.IsCell c v:=λ c v ⟨o,ho,hd⟩=>⟨o,hk _ _ ho,hd⟩
 refine⟨⟨e0.mod,C.kind,rfl,rfl,aq _,λ y z c h1 h2=>C.inj y z c h1 h2,λ y hy=>?_,λ y c h=>absurd (show false=true from h) aM,λ _=>hd,Around.frames_deeper e0.frames,.inr ⟨rfl,rfl⟩,λ b z=>absurd z (OU b),e0.bs,e0.Oj,λ b _ _=>OU b,λ b z=>absurd z (OU b),e0.zG,e0.Q8⟩,
  rfl,e0.bare,Un.kept hk,⟨_,hns,λ i y v h1 h2 h3=>?_⟩,λ y c h=>?_,e0.hok.fresh (aq _),λ y c h=>(C.cell y c h).2,λ p hp=>absurd (show p∈([]:List (Addr×Obj)) from hp) (by simp),e0.hok.kept hk,?_⟩
 ·have hy:scope.names.lookup y=some .cell\/scope.names.lookup y=some .free:=hy
  rcases hy with hy | hy
  ·exact absurd rfl (C.MD _ (aP hy))
  ·exact C.has y hy
 ·rw[ai] at h2
  cases e:vs[i]? with
  |none=>rw[e] at h2;cases h2
  |some v'=>
   rw[e] at h2
   cases h2;obtain⟨a,u,c,r,b,d⟩:=C.val i y v h1 e;exact⟨u,r,.inr ⟨.inr a,c,b,ck _ _ d⟩⟩
 ·obtain⟨⟨v,z⟩,_⟩:=C.cell y c h
  exact⟨v,ck _ _ z⟩
 ·rw[ah];exact C.len
theorem Pd{N:List Str}{name qual:Str}{params:Arguments}{body:Expr}{scope:Scope}{f:Addr}{pm cd ct:Value}{cl:List (Str×Addr)}{A:Around}{outer:List Env}{s:Shared}{H:Hp}{Q:VK}{E:XK}{vs:List V}{k:Nat}{o:Obj}{t:TE}
  (hr:mQ (k+1) A) (C:Uq scope cl H s.heap N vs) (e0:yD P w K mg base A outer s H) (ho:s.heap.get? f=some o) (hdt:o.data=.func (kla_fn name qual params body scope cl pm cd ct)) (hcd:s.heap.CodeRec cd qual)
  (hco:scope.isCoroutine=false) (hgen:scope.isGenerator=false) (hbind:bindArgs (kla_fn name qual params body scope cl pm cd ct) ⟨[],[]⟩=pure [])
  (ht:mQ k (A.deeper (envX qual scope s.heap.objs.size f cd cl))->PE (Fp P w K mg base N qual scope f cd cl A outer s H E) body t) (hq:t (vs.map some) H Q) :
  codeAny (model P w) A (.call (.ref f) ⟨[],[]⟩) (CR (wG P w) outer P w H s Q E) s:=by
 have lim:s.heap.NoLimit:=e0.mod.nolimit.keeps λ b o e=>(e0.bs b o e).1
 refine PySem.W.kla_callFunE hr.depth ho hdt hco hgen rfl hcd ?_
 rw[hbind]
 refine wpAny_pure (wpAny_newFunctionEnv C.MD (λ x hx=>nomatch hx) (λ h1 hns X6=>⟨lim.fresh _ X6,?_⟩) C.kind)
 have hk:∀b o,s.heap.get? b=some o->h1.get? b=some o:=λ b o e=>X6.extBut b o (aW (Heap.lt_size e)) (Heap.get?_push_of_some _ e)
 have I:Inv (Fp P w K mg base N qual scope f cd cl A outer s H E) [] (vs.map some) H { s with heap:=h1,toks:=s.toks+0 }:=Pc C hr.hd e0 hns hk
 exact PySem.W.kla_codeExpr (wpAny_mono (ht (hr.deeper _) [] _ _ H Q I hq) (λ v s' ⟨x,H',J,rv,q⟩=>⟨x,H',J.os,J.bare,J.base,J.hok,rv,q⟩) λ _ _ h=>h)
theorem ME{k:Nat}{f:Addr}{name qual:Str}{params:Arguments}{body:List Stmt}{scope:Scope}{dV kV doc pm cdv ct oc:Value}{an od:Option Addr}{osl:Array (Option Value)}{N ps:List Str}
  {A:Around} {outer:List Env} {s:Shared} {H:Hp} {args:Args} {us:List Value} {vs:List V} {R:Result->Shared->Prop} {E:XK}
  (lk:K.lookup f=some ⟨oc,od,.func (dj name qual params body scope dV kV doc pm an cdv ct),osl⟩) (hcd:gi K cdv qual=true) (S:jo N ps scope)
  (hl:vs.length=ps.length) (hr:mQ (k+1) A) (e0:yD P w K mg base A outer s H) (hb:BindsTo s (dj name qual params body scope dV kV doc pm an cdv ct) args (ps.zip us)) (r:Vals vs us)
  (hbody:∀s1,mQ k (A.deeper (envOfC qual scope s.heap.objs.size f cdv))->Inv (Am (wG P w) P w K mg base N qual scope f cdv A outer s H E) [] (start N vs) H s1->(∀b o,s.heap.get? b=some o->s1.heap.get? b=some o) ->
   wpAny (model P w) (A.deeper (envOfC qual scope s.heap.objs.size f cdv)) (execs body (envOfC qual scope s.heap.objs.size f cdv)) (λ fl s'=>match fl with
    |.ret u=>R (.ok (.ret u)) s'
    |.next=>R (.ok (.ret .none)) s'
    |_=>False) (λ e s'=>wpAny (model P w) (A.deeper (envOfC qual scope s.heap.objs.size f cdv)) (leaving (envOfC qual scope s.heap.objs.size f cdv) e) (λ _ s''=>R (.error e) s'') (λ e' s''=>R (.error e') s'') s') s1) :
  codeAny (model P w) A (.call (.ref f) args) R s:=by
 have KX:K.In s.heap:=e0.mod.Qt.keeps λ b o e=>(e0.bs b o e).1
 have lim:s.heap.NoLimit:=e0.mod.nolimit.keeps λ b o e=>(e0.bs b o e).1
 have hkind:∀y∈ps.zip us,scope.names.lookup y.1=some .local\/(scope.names.lookup y.1=some .cell/\((cellsFrom (s.heap.objs.size+1) scope.names []).lookup y.1).isSome=true):=λ⟨n,v⟩ hy=>by
  rcases S.Wi n (fW hy).1 with q | q
  ·exact .inl q
  ·exact .inr ⟨q,fq _ _ _ (.inl q)⟩
 refine codeAny_call_function hr.depth (KX _ _ lk) rfl S.co S.gen rfl (iM KX hcd) (hb _ _ _ _ ?_)
 refine wpAny_newFunctionEnv_cells S.kind hkind λ env he s1 x=>?_
 subst he
 refine⟨lim.keeps x.toInCall.keep,codeAny_func ?_⟩
 have I:Inv (Am (wG P w) P w K mg base N qual scope f cdv A outer s H E) [] (start N vs) H s1:=CY S hr.hd e0 hl r x
 refine wpAny_mono (hbody s1 (hr.deeper _) I x.toInCall.keep) (λ fl s' hs=>?_) λ e s' hs=>hs
 cases fl with
 |ret u=>exact hs
 |next=>exact hs
 |brk=>exact False.elim hs
 |cont=>exact False.elim hs
end
end L2
end
noncomputable section
namespace L2
open PySem PySem.Spec PyProof.Rows
section
variable{M:Model}{A:Around}{E:Value->Shared->Prop}
theorem MF{h:Heap}{g:Array GenState}{dr:Drawn}{tk:Nat}{os:OsState}{e C D N N':Addr}{oe:Obj}{nm q Ur q':Str}{bs bm bs' bm' sub sub':List Value}{hdct QH ab X7:Bool}{sn sn':List Str}{col col':Option Bool}{dd X8:Option Addr}{k0 k1 k2 k3 k5 l0 l1 l2 l3 l5:Option Value}{ni ZL:String}{Q:Bool->Shared->Prop}{b:Bool}
  (hC:h.get? C=some (excClassObj nm q C N bs bm hdct sn sub ab col dd k0 k1 k2 k3 k5 ni)) (hD:h.get? D=some (excClassObj Ur q' D N' bs' bm' QH sn' sub' X7 col' X8 l0 l1 l2 l3 l5 ZL))
  (he:h.get? e=some oe) (hcls:oe.cls=.ref C) (hbase:bm'.contains (.type "BaseException")=true) (hb:(Value.ref C::bm).contains (.ref D)=b)
  (hq:Q b ⟨h,g,dr,tk,os⟩):wpAny M A (excMatches (.ref e) (.ref D)) Q E ⟨h,g,dr,tk,os⟩:=by
 have hB:(Value.ref D::bm').contains (.type "BaseException")=true:=by rw[List.contains_cons,hbase,Bool.or_true]
 have f:=tc_notTuple
 unfold excMatches
 repeat (first
  | (with_reducible refine wpAny_loadPart_at he ?_;rw[hcls])
  |with_reducible refine wpAny_loadPart_at hD ?_
  | (with_reducible refine wpAny_isSubtype_exc hD ?_;rw[hB])
  | (with_reducible refine wpAny_isSubtype_exc hC ?_;rw[hb])
  |wp_step)
 cases b<;>(wp_walk;exact hq)
end
section
variable{X:Cx}{pins:List (Addr×Obj)}{σ:St}{H H1:Hp}{s s':Shared}
theorem Inv.RQ{a:Addr}{cls a0:Value}{B h1 h6:Heap}{tk:Tok}(I:Inv X pins σ H s)(os:s'.os=s.os)(bare:AllBare s'.gens)(fl:Heap.FlyingW B X.stack a cls a0 h6)
  (un:Un (frs X.stack) [] H H1 s.heap h1) (hok:yu X.prog X.w H1 h1) (sl:h1.UpToSlots h6)
  (cond:∀b o,h1.get? b=some o->(b<s.heap.objs.size\/H1 b≠none)->b ∉ frs X.stack->B.get? b=some o):Inv X pins σ H1 { s' with heap:=h6,toks:=tk }:=by
 have fr:∀b o,b∈frs X.stack->s.heap.get? b=some o->∀vs,o.data≠.fields vs:=λ b o hb e=>by
  obtain⟨_,o',ho,hd⟩:=I.stack.mem hb;rw[e] at ho
  cases ho;exact hd
 have ZM:∀b∈frs X.stack,H1 b=none:=λ b hb=>by
  obtain⟨_,o',ho,hd⟩:=I.stack.mem hb;exact un.free b o' ho (I.zR b hb) (by simp)
 have u6:Un (frs X.stack) [] H H1 s.heap h6:=by
  refine⟨λ b o e n hb hx=>?_,λ b o e n hb hx=>?_,un.free,λ b o e hx=>?_,un.tups,un.Cf,un.Cg⟩
  ·exact fl.1 b o (cond b o (un.keep b o e n hb hx) (.inl (Heap.lt_size e)) hb)
  ·obtain⟨ZN,e1⟩:=un.slot b o e n hb hx;obtain⟨sl2,e2⟩:=sl b _ e1 (fr b o hb e);exact⟨sl2,e2⟩
  ·by_cases hb:b∈frs X.stack
   ·obtain⟨ZN,e1⟩:=un.slot b o e (I.zR b hb) hb hx;obtain⟨sl2,e2⟩:=sl b _ e1 (fr b o hb e);exact⟨_,e2⟩
   ·obtain⟨o',e1⟩:=un.there b o e hx;exact⟨o',fl.1 b o' (cond b o' e1 (.inl (Heap.lt_size e)) hb)⟩
 have WE:yu X.prog X.w H1 h6:=λ b o e=>(hok b o e).stay (λ c v hc q=>by
  have nn:H1 c≠none:=by
   rcases hc with rfl | hc
   ·rw[e];simp
   ·rw[hc];simp
  exact fl.1 c v (cond c v q (.inr nn) λ hm=>nn (ZM c hm))) (λ _ q=>q) λ _ _ q=>q
 have J:=I.call (h':=h6) (g':=s'.gens) (t':=tk) (d':=s'.drawn) (ch:=[]) u6 WE bare (λ b z=>absurd z (by simp))
 obtain⟨hh,g,d,t,os'⟩:=s'
 obtain rfl:os'=s.os:=os
 exact J
abbrev Cx.held(X:Cx)(e:Value)(E:Value->Shared->Prop):Cx:={ X with A:=X.A.mark (some e),calm:=false,xe:=E }
theorem Inv.held(I:Inv X pins σ H s)(e:Value)(E:Value->Shared->Prop):Inv (X.held e E) pins σ H s:=
 ⟨⟨I.ok.mod,I.ok.kind,I.ok.glob,I.ok.blt,I.ok.above,I.ok.inj,I.ok.has,I.ok.Vr,λ z=>absurd (show false=true from z) aM,I.ok.frames,I.ok.Ov,I.ok.VW,I.ok.bs,I.ok.Oj,I.ok.Ow,I.ok.Ox,I.ok.zG,I.ok.Q8⟩,
  I.os,I.bare,I.base,I.loc,I.cell,I.free,I.tM,I.pin,I.hok,I.len⟩
theorem Inv.yJ{e:Value}{E:Value->Shared->Prop}(ok:X.Ok)(I:Inv (X.held e E) pins σ H s):Inv X pins σ H s:=
 ⟨ok,I.os,I.bare,I.base,I.loc,I.cell,I.free,I.tM,I.pin,I.hok,I.len⟩
theorem SP.yJ{e:Value}{E:Value->Shared->Prop}{D:Ends}{f:Flow}(ok:X.Ok)(h:SP (X.held e E) pins D f s'):SP X pins D f s':=by
 cases f with
 |next=>obtain⟨σ',H',I,q⟩:=h;exact⟨σ',H',I.yJ ok,q⟩
 |brk=>obtain⟨σ',H',I,q⟩:=h;exact⟨σ',H',I.yJ ok,q⟩
 |cont=>obtain⟨σ',H',I,q⟩:=h;exact⟨σ',H',I.yJ ok,q⟩
 |ret u=>obtain⟨v,σ',H',I,rv,q⟩:=h;exact⟨v,σ',H',I.yJ ok,rv,q⟩
theorem Pe{K:aj}{h:Heap}{C D N:Addr}{nm q:Str}{bs bm sub:List Value}{hdct ab:Bool}{sn:List Str}{col:Option Bool}{dd:Option Addr}{k0 k1 k2 k3 k5:Option Value}{ni:String}(KX:K.In h)(n:lB K C D)
  (hC:h.get? C=some (excClassObj nm q C N bs bm hdct sn sub ab col dd k0 k1 k2 k3 k5 ni)):(Value.ref C::bm).contains (.ref D)=false:=by
 obtain⟨c,d,cd,sl,e1,e2⟩:=n
 have e3:=KX _ _ e1
 rw[hC] at e3
 have e4:=aR e3
 unfold excClassObj at e4
 injection e4 with _ _ e5 _
 injection e5 with e6
 rw[<-e6] at e2
 exact e2
section
variable{e C D:Addr}{x y:Str}{np pos:Pos}{b0:Stmt}{suite:List Stmt}{rest:List ExceptHandler}{Ds:Ends}{B1 B2 n1 n2 i1 i2:String}{WG Yb:List Value}{B:Heap}{a0:Value}
theorem miss(I:Inv X pins σ H s)(fl:Heap.FlyingW B X.stack e (.ref C) a0 s.heap)(hg:Gl X x)(OC:OwnCls y C WG n1 X.mg X.base)(OD:OwnCls x D Yb n2 X.mg X.base)(FD:ExcBaseFacts B2 n2 i2 Yb)(hn:lB X.K C D)
  (h:wpAny (model X.prog X.w) X.A (handleBy (.ref e) X.env rest) (SP X pins Ds) X.xe s) (hd:(x==("__debug__":Str))=false:=by decide) :
  wpAny (model X.prog X.w) X.A (handleBy (.ref e) X.env (.ExceptHandler (some (.Name x np)) none (b0::suite) pos::rest)) (SP X pins Ds) X.xe s:=by
 obtain⟨oe,he,hcls⟩:=fl.there
 obtain⟨tl,N,nm,q,bs,hdct,sn,sub,ab,col,dd,k0,k1,k2,k3,k5,mN,hC,_,_,_⟩:=OC.obj
 obtain⟨tl',N',Ur,q',bs',QH,sn',sub',X7,col',X8,l0,l1,l2,l3,l5,mN',hD,_,_,T'⟩:=OD.obj
 refine wpAny_handleBy_cons (codeAny_handlers_test ?_) (by intro z;cases z)
 refine sN (I.held (.ref e) λ _ _=>True) hg OD.bound ?_ hd
 obtain⟨hp,g,dr,tk,os⟩:=s
 exact MF (I.bk _ _ hC) (I.bk _ _ hD) he hcls (T'.hasType FD.hasBase) (Pe I.Gk hn (I.bk _ _ hC)) h
theorem hit{t:TS}(I:Inv X pins σ H s)(fl:Heap.FlyingW B X.stack e (.ref C) a0 s.heap)(hg:Gl X x)(OC:OwnCls x C WG n1 X.mg X.base)(FC:ExcBaseFacts B1 n1 i1 WG)
  (hs:∀E,Lq (X.held (.ref e) E) (b0::suite) t) (h:t Ds σ H) (again:∀h6,Heap.FlyingW B X.stack e (.ref C) a0 h6->s.heap.UpToSlots h6->Inv X pins σ H { s with heap:=h6 }) (hd:(x==("__debug__":Str))=false:=by decide) :
  wpAny (model X.prog X.w) X.A (handleBy (.ref e) X.env (.ExceptHandler (some (.Name x np)) none (b0::suite) pos::rest)) (SP X pins Ds) X.xe s:=by
 obtain⟨oe,he,hcls⟩:=fl.there
 obtain⟨tl,N,nm,q,bs,hdct,sn,sub,ab,col,dd,k0,k1,k2,k3,k5,mN,hC,_,_,T⟩:=OC.obj
 refine wpAny_handleBy_cons (codeAny_handlers_test ?_) (by intro z;cases z)
 refine sN (I.held (.ref e) λ _ _=>True) hg OC.bound ?_ hd
 obtain⟨hp,g,dr,tk,os⟩:=s
 refine MF (b:=true) (I.bk _ _ hC) (I.bk _ _ hC) he hcls (T.hasType FC.hasBase) (by simp) (codeAny_handlers_suite (lands_againW fl λ h6 WH WI=>?_))
 have J:=again h6 WH WI
 exact wpAny_mono (hs _ pins _ σ H Ds (J.held (.ref e) _) h) (λ f s2 z=>z.yJ I.ok) λ _ _ z=>z
end
theorem Pf{E:Value->Shared->Prop}{i:Nat}{x:Str}{v:V}{pos:Pos}{Q:Value->Shared->Prop}(I:Inv X pins σ H s)(hN:X.N[i]? = some x)(hv:Ou X.env.scope x)(hσ:σ[i]? = some (some v))(h:∀u,RelV v u->Q u s)
  (hd:(x==("__debug__":Str))=false) (hcd:(x==("__classdict__":Str))=false):wpAny (model X.prog X.w) X.A (eval (.Name x pos) X.env) Q E s:=by
 obtain⟨m,hn,hl⟩:=I.loc
 obtain⟨u,r,l⟩:=hl i x v hN hσ hv
 rcases l with ⟨k,hm⟩ | ⟨k | k,c,hc,z⟩
 ·exact wpAny_Name (wpAny_loadName_local I.ok.kind k hn hm (h u r)) hd
 ·exact wpAny_Name (wpAny_loadName_cell I.ok.kind k hc z (h u r)) hd
 ·exact wpAny_Name (wpAny_loadName_free I.ok.kind k hc z (h u r) hcd) hd
theorem MG{Ds:Ends}{x:Str}{np cp rp pos:Pos}{h0:ExceptHandler}{hs:List ExceptHandler}{i:Nat}{p:Addr}{o:Obj}{fd:FuncData}{E:XK}(I:Inv X pins σ H s)(hL:X.stack=X.env::X.outer)(hfr:X.env.frame=some X.env.locals)(hN:X.N[i]? = some x)
  (hv:Ou X.env.scope x) (hσ:σ[i]? = some (some (.ref p))) (ho:s.heap.get? p=some o) (hd:o.data=.func fd)
  (run:codeAny (model X.prog X.w) X.A (.call (.ref p) ⟨[],[]⟩) (CR (wG X.prog X.w) X.stack X.prog X.w H s Ds.rt E) s)
  (land:∀(a C:Addr) (a0:Value) (B h3:Heap) (s':Shared) (H1:Hp),Heap.FlyingW B X.stack a (.ref C) a0 h3->(∀h6,Heap.FlyingW B X.stack a (.ref C) a0 h6->h3.UpToSlots h6->Inv X pins σ H1 { s' with heap:=h6 })->E (.ref C) none H1 ->
   wpAny (model X.prog X.w) X.A (handleBy (.ref a) X.env (h0::hs)) (SP X pins Ds) X.xe { s' with heap:=h3 })
  (hdb:(x==("__debug__":Str))=false:=by decide) (hcd:(x==("__classdict__":Str))=false:=by decide) :
  wpAny (model X.prog X.w) X.A (exec (.Try [.Return (some (.Call (.Name x np) [] [] cp)) rp] (h0::hs) [] [] pos) X.env) (SP X pins Ds) X.xe s:=by
 refine wpAny_Try_except (wpAny_execs_cons (wpAny_Return_some ?_))
 refine wpAny_Call_Name_kw ?_
 refine Pf I hN hv hσ (λ u ru=>?_) hdb hcd
 obtain rfl:u=Value.ref p:=ru
 refine callWith_meth0 hd ho (wpAny_call (codeAny_mono run λ r s' hq=>?_))
 cases r with
 |ok f=>
  cases f with
  |ret u=>
   obtain⟨v,H',I',rv,q⟩:=I.after hq;exact⟨v,σ,H',I',rv,q⟩
  |next=>exact False.elim hq
  |brk=>exact False.elim hq
  |cont=>exact False.elim hq
 |error e=>
  obtain⟨a,C,a0,B,h1,H1,rfl,os,bare,fl,un,hok,sl,cond,hE⟩:=hq;have hst:X.A.frames=some (X.env::X.outer):=I.ok.frames.trans (congrArg some hL);rw[hL] at fl;refine wpAny_looks_onW hst hfr fl λ h2 WD sl2=>wpAny_landsW WD λ h3 Yc ZO=>?_
  rw[<-hL] at Yc;exact land a C a0 B h3 s' H1 Yc (λ h6 WH WI=>Inv.RQ (tk:=s'.toks) I os bare WH un hok (((sl.trans sl2).trans ZO).trans WI) cond) hE
end
end L2
end
noncomputable section
namespace L2
open PySem PySem.Spec PyProof.Rows
open PySem.W (kla_fn kla_obj envX CodeHd tabObj)
section
variable{X:Cx}{pins:List (Addr×Obj)}{σ:St}{H:Hp}{s:Shared}
theorem Inv.grown{T:Addr}{ps more:Array Value}{h':Heap}{tk:Tok}(I:Inv X pins σ H s)(hT:H T=some (.DR ps))(ext:Heap.ExtBut T s.heap h')(new:h'.get? T=some (tabObj (ps++more))) :
  Inv X pins σ (upd H T (.DR (ps++more))) { s with heap:=h',toks:=tk }:=by
 have ne:∀b,H b=none->b≠T:=λ b e z=>by rw[z,hT] at e;cases e
 have nx:∀b u,H b=some u->(∀q,u≠.DR q)->b≠T:=λ b u e hu z=>by rw[z,hT] at e;cases e;exact hu _ rfl
 refine I.step (g':=s.gens) (d':=s.drawn) (ch:=[]) (λ _ z=>nomatch z) (λ b o _ _ _ e n=>ext b o (ne b n) e) (λ b o _ _ _ e n=>⟨o.slots,ext b o (ne b n) e⟩) (λ b o _ e n=>by rw[jd (ne b n)];exact n) (λ b o _ e=>?_)
  (λ b xs e=>by rw[jd (nx b _ e λ _ z=>by cases z)];exact e) (λ b o u e=>by rw[jd (nx b _ e λ _ z=>by cases z)];exact e) (λ b q e=>?_) (λ m hm=>hm.extBut ext (ne _ I.free)) (λ b o e=>?_) I.bare
 ·by_cases z:b=T
  ·exact⟨_,by rw[z];exact new⟩
  ·exact⟨o,ext b o z e⟩
 ·by_cases z:b=T
  ·subst z;rw[hT] at e
   cases e;exact⟨more,iZ⟩
  ·exact⟨#[],by rw[jd z,e];simp⟩
 ·by_cases z:b=T
  ·subst z;rw[iZ] at e
   cases e;exact new
  ·rw[jd z] at e;refine (I.hok b o e).stay (λ c v hc q=>ext c v (λ y=>?_) q) (λ c q=>by rw[jd (nx c _ q λ _ y=>by cases y)];exact q) λ c xs q=>by rw[jd (nx c _ q λ _ y=>by cases y)];exact q
   rcases hc with hc | hc
   ·exact z (hc.symm.trans y)
   ·rw[y,hT] at hc;cases hc
theorem MH{E:Value->Shared->Prop}{Q:Value->Shared->Prop}{params:Arguments}{body:Expr}{scope:Scope}{pos:Pos}{c T:Addr}(I:Inv X pins σ H s)(hcode:X.env.code=.ref c)(C:CodeHd X.base c T)(hT:H T=some (.DR #[]))(hB:∀T,X.base.get? T=none->X.base.BuiltinsAt X.mg T)
  (hcl:∀y∈scope.names,y.2=.free->∃c,X.env.cells.lookup y.1=some c) (hdef:defaultsOf params X.env=([],[]))
  (h:∀(p c':Addr) (pm ctv:Value) (s2:Shared) (H2:Hp),s2.heap.get? p=some (kla_obj "<lambda>" (X.env.qual ++ "<lambda>") params body scope (jX X.env.cells scope.names []) pm c' ctv)->s2.heap.CodeRec (.ref c') (X.env.qual ++ "<lambda>") ->
   (∀b o,s.heap.get? b=some o->b≠T->s2.heap.get? b=some o)->Inv X pins σ H2 s2->(∀b,b≠T->H2 b=H b)->(∃more,H2 T=some (.DR more))->Q (.ref p) s2) :
  wpAny (model X.prog X.w) X.A (eval (.Lambda params body scope pos) X.env) Q E s:=by
 have hP:s.heap.get? T=some (tabObj #[]):=I.hok T _ hT
 have bT:X.base.get? T=none:=by
  cases e:X.base.get? T with
  |none=>rfl
  |some o=>rw[(I.bs T o e).2] at hT;cases hT
 have hgP:mainGlobals≠T:=λ z=>by
  obtain⟨o,es,ep,e,_⟩:=I.mod.glob;rw[z,bT] at e
  cases e
 have ZP:s.heap.BuiltinsAt X.mg T:=by
  obtain⟨bm,o,b1,b2,b3,b4,b5,b6,b7,b8⟩:=hB T bT;exact⟨bm,o,b1,b2,b3,b4,I.bk _ _ b5,b6,b7,b8⟩
 refine PySem.W.kla_eval hdef (PySem.W.kla_makeFunction (mg:=X.mg) (ps:=#[]) (Ao hcl) I.ok.glob (I.mod.glob.keeps I.bk) hcode (C.keeps I.bk) hP trivial rfl hgP ZP λ c' ctv h' tk ext hge hlt RS tab=>?_)
 have push:∀{b o} (q:Obj),h'.get? b=some o->(h'.push q).get? b=some o:=λ q e=>Heap.get?_push_of_some _ e
 refine h h'.objs.size c' _ ctv _ (upd H T (.DR (#[] ++ #[rawInt pos.line,rawInt pos.col,.ref c']))) (Heap.get?_push_size _ rfl) ?_ (λ b o e z=>push _ (ext b o z e)) (I.grown (more:=#[rawInt pos.line,rawInt pos.col,.ref c']) hT (λ b o z e=>push _ (ext b o z e)) (push _ tab)) (λ b z=>jd z) ⟨_,iZ⟩
 obtain⟨c2,oc,vs,tq,e1,e2,e3,e4⟩:=RS
 exact⟨c2,oc,vs,tq,e1,push _ e2,e3,e4⟩
theorem lookup_some{α β:Type}[BEq α][LawfulBEq α]:∀{l:List (α×β)}{x:α}{c:β},(x,c)∈l->∃d,l.lookup x=some d
 |[],_,_,h=>by simp at h
 | (y,d)::r,x,c,h=>by
  rw[cC]
  cases e:x==y with
  |true=>exact⟨d,rfl⟩
  |false=>
   rcases aA.mp h with z | z
   ·cases z;simp at e
   ·exact lookup_some z
theorem uq{cells:List (Str×Addr)}{names:List (Str×NameKind)}(hcl:∀y∈names,y.2=.free->∃c,cells.lookup y.1=some c){x:Str}{c:Addr}(h:(jX cells names []).lookup x=some c):cells.lookup x=some c:=by
 rcases oQ (aP h) with z | ⟨z,e⟩
 ·simp at z
 ·obtain⟨d,hd⟩:=hcl _ z rfl
  have hd:cells.lookup x=some d:=hd;rw[hd] at e;rw[hd,e];rfl
theorem Uq.of{scope:Scope}{vs:List V}{h':Heap}(I:Inv X pins (vs.map some) H s)(hk:scope.kind=.function)(hc:∀x∈scope.names,x.2≠.cell)(hcl:∀y∈scope.names,y.2=.free->∃c,X.env.cells.lookup y.1=some c)
  (hfree:∀x∈X.N,scope.names.lookup x=some .free) (hnl:∀x∈X.N,X.env.kindOf x=some .cell) (keep:∀b o,s.heap.get? b=some o->h'.get? b=some o):Uq scope (jX X.env.cells scope.names []) H h' X.N vs:=by
 have ck:∀c v,s.heap.IsCell c v->h'.IsCell c v:=λ c v ⟨o,ho,hd⟩=>⟨o,keep _ _ ho,hd⟩
 refine⟨hk,hc,λ x y c a b=>I.ok.inj x y c (uq hcl a) (uq hcl b),λ x e=>?_,λ x c e=>?_,?_,λ i x v e1 e2=>?_⟩
 ·exact lookup_some (oR (aP e))
 ·obtain⟨v,z⟩:=I.cell x c (uq hcl e)
  exact⟨⟨v,ck _ _ z⟩,I.tM x c (uq hcl e)⟩
 ·have:=I.len;rw[ah] at this;exact this
 ·have hx:=au e1
  refine⟨hfree x hx,?_⟩;obtain⟨m,hn,hl⟩:=I.loc;have Wa:Ou X.env.scope x:=.inr (.inl (hnl x hx));obtain⟨u,r,lk⟩:=hl i x v e1 (by rw[ai,e2];rfl) Wa
  rcases lk with ⟨k,_⟩ | ⟨_,c,e,z⟩
  ·rw[hnl x hx] at k;cases k
  ·obtain⟨d,hd⟩:=lookup_some (oR (cells:=X.env.cells) (acc:=[]) (aP (hfree x hx)));have h2:=uq hcl hd;rw[e] at h2
   cases h2;exact⟨u,c,r,hd,ck _ _ z⟩
theorem Pg{M:Model}{A:Around}{E:Value->Shared->Prop}{env:Env}{e:Expr}{pos:Pos}{Q:List Value->Shared->Prop}{s:Shared}(h:wpAny M A (eval e env) (λ v s1=>Q [v] s1) E s)(hs:starEach [e] env=[(false,eval e env)]:=by rfl) :
  wpAny M A (spliced (backTo pos (starEach [e] env))) Q E s:=by
 rw[hs]
 show wpAny M A (spliced ((false,eval e env)::backTo pos [])) Q E s
 exact Calls.spliced_cons (lO h λ v s1 q=>Calls.spliced_nil q)
end
end L2
end
noncomputable section
namespace L2
open PySem PySem.Spec PyProof.Rows
open PySem.W (tabObj CodeHd ReadsAllW ReadsW WData)
structure RT(P:Program)(w:World)(K:aj)(mg:Str->Option Value)(s:Shared)(l T:Addr)(ns:List Int)(base:Heap)(H:Hp):Prop where
 env:yD P w K mg base callerA [] s H
 Qt:K.In base
 txt:jz K H l (ns.map V.int)
 tab:H T=some (.DR #[])
 S5:∀b o,s.heap.get? b=some o->H b=none->base.get? b=some o
 only:∀b,H b=none\/(b=T)\/∃o xs,H b=some (.Le o (.lst xs))/\b=l
theorem WJ{P:Program}{w:World}{K:aj}{mg mb:Str->Option Value}{s:Shared}{l T:Addr}{vs:List Value}{ns:List Int}
  (KX:K.In s.heap) (hns:s.heap.Ns mainGlobals mg) (hb:s.heap.Ns builtinsNs mb) (ZQ:∀x:Str,x≠"__name__"->mb x=bootBuiltins x) (hlim:s.heap.NoLimit) (hg:s.gens = #[])
  (ha:s.heap.get? l=some { cls:=.type "list",data:=.seq vs.toArray }) (hi:IntsAre vs ns) (hl:ns.length<=sizeLine) (hT:s.heap.get? T=some (tabObj #[])) (ZR:K.lookup T=none) :
  ∃base H,RT P w K mg s l T ns base H:=by
 have rv:=C2 hi
 have WK:=hi.length
 have Yd:l≠T:=λ z=>by rw[z,hT] at ha;cases ha
 have core:∀H:Hp,jz K H l (ns.map V.int)->yu P w H s.heap->H T=some (.DR #[])->(∀b,H b=none\/(b=T)\/∃o xs,H b=some (.Le o (.lst xs))/\b=l)->(H l≠none->K.lookup l=none)->∃base H,RT P w K mg s l T ns base H:=by
  intro H hS hok tT hA hK;have S5:∀b o,s.heap.get? b=some o->H b=none->(EL s.heap H).get? b=some o:=λ b o e n=>Lp e n
  have OU:∀{b:Addr} {o:Obj} {es:Array DictEntry} {ep:Nat},s.heap.get? b=some o->o.data=.dict es ep->H b=none:=λ {b o es ep} e d=>by
   rcases hA b with z | z | ⟨_,_,_,z⟩
   ·exact z
   ·rw[z,hT] at e;cases e;cases d
   ·rw[z,ha] at e;cases e;cases d
  have WL:∀{b:Addr} {m:Str->Option Value},s.heap.Ns b m->(EL s.heap H).Ns b m:=λ {b m} ⟨o,es,ep,e,d,r⟩=>⟨o,es,ep,S5 _ _ e (OU e d),d,r⟩
  have Ye:K.In (EL s.heap H):=λ b o e=>S5 b o (KX b o e) (by
   rcases hA b with z | z | ⟨o',xs,q,z⟩
   ·exact z
   ·rw[z,ZR] at e;cases e
   ·rw[z] at e q;rw[hK (by rw[q];simp)] at e;cases e)
  have hM:Mod K mg (EL s.heap H):=⟨Ye,WL hns,⟨mb,WL hb,ZQ⟩,let ⟨mc,h1,h2⟩:=hlim;⟨mc,WL h1,h2⟩⟩
  exact⟨_,H,⟨rfl,hM,λ b o e=>Ot e,gQ (Jm _ _),trivial,λ b hb=>absurd (show b∈([]:List Addr) from hb) (by simp),hok,.of_eq hg⟩,Ye,hS,tT,S5,hA⟩
 cases hk:K.lookup l with
 |some o=>
  have e:=KX l o hk;rw[ha] at e
  cases e;refine core (upd (λ _=>none) T (.DR #[])) (.inr ⟨_,vs.toArray,_,hk,rfl,rfl,rfl,by rw[aC,WK];exact hl,by simpa using rv⟩) (λ b u z=>?_) iZ (λ b=>?_) λ z=>absurd (by rw[jd Yd]) z
  ·by_cases hb:b=T
   ·subst hb;rw[iZ] at z
    cases z;exact hT
   ·rw[jd hb] at z;cases z
  ·by_cases hb:b=T
   ·exact .inr (.inl hb)
   ·exact .inl (by rw[jd hb])
 |none=>
  refine core (upd (upd (λ _=>none) T (.DR #[])) l (.Le { cls:=.type "list",data:=.seq vs.toArray } (.lst (ns.map V.int)))) (.inl (.inr ⟨{ cls:=.type "list",data:=.seq vs.toArray },iZ⟩)) (λ b u z=>?_) (by rw[jd Yd.symm];exact iZ) (λ b=>?_) λ _=>hk
  ·by_cases hb:b=l
   ·subst hb;rw[iZ] at z
    cases z;exact⟨ha,by rw[ah];exact hl,vs,_,rv,ha⟩
   ·rw[jd hb] at z
    by_cases hb2:b=T
    ·subst hb2;rw[iZ] at z
     cases z;exact hT
    ·rw[jd hb2] at z;cases z
  ·by_cases hb:b=l
   ·exact .inr (.inr ⟨_,_,by rw[hb];exact iZ,hb⟩)
   ·by_cases hb2:b=T
    ·exact .inr (.inl hb2)
    ·exact .inl (by rw[jd hb,jd hb2])
theorem Az{cl:Str->Option Addr}{h:Heap}:∀{its:List Value}{zs:List Int},Vals (zs.map V.int) its->ReadsAllW [] cl h its (zs.map WData.int) []
 |_,[],r=>by cases r;exact .nil
 |_,z::zs,r=>by
  cases r with
  |cons a b=>
   obtain⟨t,rfl⟩:=a;exact ReadsAllW.cons (as:=[]) (bs:=[]) (.int z t) (Az b)
theorem J5{r:PySem.W.OpenSpec}{P:Program}{w:World}{K:aj}{mg:Str->Option Value}{s s':Shared}{l T c:Addr}{ns zs:List Int}{base:Heap}{H:Hp}{cl:Str->Option Addr}{mean:ExcName->Option Value}{args:List WData}{u:Value}
  (L:RT P w K mg s l T ns base H) (hT:s.heap.TableAt c T #[]) (hc:CE [] P w H s (λ v H'=>∃p,v=.ref p/\H' p=some (.lst (zs.map V.int))) u s') (post:r.claim.post args (.list (zs.map .int)) args=true) :
  PySem.W.GoodWG r.claim cl mean args s (.ok (.ret u)) s':=by
 obtain⟨v,H',os,bare,un,hok,rv,p,rfl,hp⟩:=hc
 obtain rfl:u=Value.ref p:=rv
 obtain⟨z,its,n,r1,e⟩:=hok p _ hp
 have Us:∀b o,s.heap.get? b=some o->H b=none->s'.heap.get? b=some o:=λ b o e n=>un.keep b o e n (by intro z;exact absurd (show b∈([]:List Addr) from z) (by simp)) (by simp)
 have old:∀b o,s.heap.get? b=some o->b≠T->s'.heap.get? b=some o:=λ b o e hb=>by
  rcases L.only b with q | q | ⟨ob,xs,q,_⟩
  ·exact Us b o e q
  ·exact absurd q hb
  ·have z2:=un.Cf b ob _ q;obtain⟨e1,_⟩:=L.env.hok b _ q;obtain⟨e2,_⟩:=hok b _ z2;rw[e] at e1;cases e1;exact e2
 obtain⟨more,hm⟩:=un.Cg T #[] L.tab
 have Yg:s'.heap.get? T=some { cls:=.none,data:=.fields (#[]++more) }:=hok T _ hm
 have ZS:s.heap.get? T=some { cls:=.none,data:=.fields #[] }:=L.env.hok T _ L.tab
 refine⟨.inl ⟨.ref p,_,[p],rfl,PySem.W.osNone,ReadsW.list e rfl rfl (by rw[List.toList_toArray];exact Az r1),post,λ z=>absurd (show false=true from z) aM⟩,⟨λ b o e=>?_,λ b o e=>?_⟩,os,bare⟩
 ·by_cases hb:b=T
  ·subst hb;rw[ZS] at e
   cases e;exact .inr (.inl ⟨hT.isCodeTable,rfl,#[],more,rfl,Yg⟩)
  ·exact .inl (old b o e hb)
 ·by_cases hb:b=T
  ·subst hb;exact⟨_,Yg⟩
  ·exact⟨o,old b o e hb⟩
end L2
end
noncomputable section
namespace L2
open PySem PySem.Spec PyProof.Rows
section
variable{K:aj}{a b:Addr}{xs ys:List V}{g:TG}
theorem GS{tt:TT}{te:TE}{vs:List Nat}{σ:St}{H1:Hp}{D:Addr}{Qd:Hp->Prop}(hlen:xs.length=ys.length)(Pv:Nat->Hp->Prop)(h0:Pv 0 (upd H1 D (.lst [])))(hl:∀i H,i<=xs.length->Pv i H->jz K H a xs/\jz K H b ys)
  (hs:∀i x y H T,xs[i]? = some x->ys[i]? = some y->H T=none->Pv i H->g (.ref T) (wipe σ vs) (upd H T (.tup [x,y])) λ σ2 H2=>wipe σ2 vs=wipe σ vs/\tt σ2 H2 λ c H3=>
   if c=true then te σ2 H3 λ z H4=>∃acc,H4 D=some (.lst acc)/\acc.length<sizeLine/\Pv (i+1) (upd H4 D (.lst (acc++[z]))) else Pv (i+1) H3) (hd:∀H,Pv xs.length H->Qd H) :
  ∃W:Nat->Nat->Hp->Prop,(∃m,W 0 m (upd H1 D (.lst [])))/\∀i m H,W i m H ->
   ((QD K a b).stop i H/\Qd H)\/((QD K a b).go i H/\∃Nx:Hp->Prop,(∀H',Nx H'->∃m',m'<m/\W (i+1) m' H')/\∀x H',(QD K a b).Ly i H x H'->g x (wipe σ vs) H' λ σ2 H2=>wipe σ2 vs=wipe σ vs/\tt σ2 H2 λ c H3=>
    if c=true then te σ2 H3 λ z H4=>∃acc,H4 D=some (.lst acc)/\acc.length<sizeLine/\Nx (upd H4 D (.lst (acc++[z]))) else Nx H3):=by
 refine⟨λ i m H=>m=xs.length-i/\i<=xs.length/\Pv i H,⟨xs.length,by simp,bf _,h0⟩,?_⟩
 rintro i m H ⟨rfl,hi,p⟩
 obtain⟨q1,q2⟩:=hl i H hi p
 by_cases hlt:i<xs.length
 ·have RU:i<ys.length:=by omega
  refine .inr ⟨⟨xs,ys,xs[i],ys[i],q1,q2,by simp[hlt],by simp[RU]⟩,Pv (i+1),λ H' p'=>⟨xs.length-(i+1),by omega,rfl,hlt,p'⟩,λ v H' yy=>?_⟩;obtain⟨T,x,y,rfl,hT,rfl,e1,e2⟩:=yy;exact hs i x y H T (e1 xs q1) (e2 ys q2) hT p
 ·obtain rfl:i=xs.length:=by omega
  exact .inl ⟨⟨xs,ys,q1,q2,.inl (aq _)⟩,hd H p⟩
theorem Ph{tt:TT}{te:TE}{vs:List Nat}{σ:St}{H1:Hp}{D:Addr}{Qd:Hp->Prop}(Pv:Nat->Hp->Prop)(h0:Pv 0 (upd H1 D (.lst [])))(hl:∀i H,i<=xs.length->Pv i H->jz K H a xs)
  (hs:∀i x H T,xs[i]? = some x->H T=none->Pv i H->g (.ref T) (wipe σ vs) (upd H T (.tup [.int (i:Nat),x])) λ σ2 H2=>wipe σ2 vs=wipe σ vs/\tt σ2 H2 λ c H3=>
   if c=true then te σ2 H3 λ z H4=>∃acc,H4 D=some (.lst acc)/\acc.length<sizeLine/\Pv (i+1) (upd H4 D (.lst (acc++[z]))) else Pv (i+1) H3) (hd:∀H,Pv xs.length H->Qd H) :
  ∃W:Nat->Nat->Hp->Prop,(∃m,W 0 m (upd H1 D (.lst [])))/\∀i m H,W i m H ->
   ((QC K a).stop i H/\Qd H)\/((QC K a).go i H/\∃Nx:Hp->Prop,(∀H',Nx H'->∃m',m'<m/\W (i+1) m' H')/\∀x H',(QC K a).Ly i H x H'->g x (wipe σ vs) H' λ σ2 H2=>wipe σ2 vs=wipe σ vs/\tt σ2 H2 λ c H3=>
    if c=true then te σ2 H3 λ z H4=>∃acc,H4 D=some (.lst acc)/\acc.length<sizeLine/\Nx (upd H4 D (.lst (acc++[z]))) else Nx H3):=by
 refine⟨λ i m H=>m=xs.length-i/\i<=xs.length/\Pv i H,⟨xs.length,by simp,bf _,h0⟩,?_⟩
 rintro i m H ⟨rfl,hi,p⟩
 have q1:=hl i H hi p
 by_cases hlt:i<xs.length
 ·refine .inr ⟨⟨xs,xs[i],q1,by simp[hlt]⟩,Pv (i+1),λ H' p'=>⟨xs.length-(i+1),by omega,rfl,hlt,p'⟩,λ v H' yy=>?_⟩
  obtain⟨T,x,rfl,hT,rfl,e1⟩:=yy;exact hs i x H T (e1 xs q1) hT p
 ·obtain rfl:i=xs.length:=by omega
  exact .inl ⟨⟨xs,q1,aq _⟩,hd H p⟩
theorem Pj{tb:TS}{Ds:Ends}{σ:St}{H:Hp}(hlen:xs.length=ys.length)(Pv:Nat->St->Hp->Prop)(h0:Pv 0 σ H)(hl:∀i σ H,i<=xs.length->Pv i σ H->jz K H a xs/\jz K H b ys)
  (hs:∀i x y σ H T,xs[i]? = some x->ys[i]? = some y->H T=none->Pv i σ H->g (.ref T) σ (upd H T (.tup [x,y])) λ σ2 H2=>tb { Ds with nx:=Pv (i+1),ct:=Pv (i+1),bk:=Ds.nx } σ2 H2) (hd:∀σ H,Pv xs.length σ H->Ds.nx σ H) :
  ∃W:Nat->Nat->St->Hp->Prop,(∃m,W 0 m σ H)/\∀i m σ H,W i m σ H ->
   ((QD K a b).stop i H/\Ds.nx σ H)\/((QD K a b).go i H/\∃N:St->Hp->Prop,(∀σ' H',N σ' H'->∃m',m'<m/\W (i+1) m' σ' H')/\∀x H',(QD K a b).Ly i H x H'->g x σ H' λ σ2 H2=>tb { Ds with nx:=N,ct:=N,bk:=Ds.nx } σ2 H2):=by
 refine⟨λ i m σ H=>m=xs.length-i/\i<=xs.length/\Pv i σ H,⟨xs.length,by simp,bf _,h0⟩,?_⟩
 rintro i m σ H ⟨rfl,hi,p⟩
 obtain⟨q1,q2⟩:=hl i σ H hi p
 by_cases hlt:i<xs.length
 ·have RU:i<ys.length:=by omega
  refine .inr ⟨⟨xs,ys,xs[i],ys[i],q1,q2,by simp[hlt],by simp[RU]⟩,Pv (i+1),λ σ' H' p'=>⟨xs.length-(i+1),by omega,rfl,hlt,p'⟩,λ v H' yy=>?_⟩;obtain⟨T,x,y,rfl,hT,rfl,e1,e2⟩:=yy;exact hs i x y σ H T (e1 xs q1) (e2 ys q2) hT p
 ·obtain rfl:i=xs.length:=by omega
  exact .inl ⟨⟨xs,ys,q1,q2,.inl (aq _)⟩,hd σ H p⟩
theorem AA{tb:TS}{Ds:Ends}{σ:St}{H:Hp}(Pv:Nat->St->Hp->Prop)(h0:Pv 0 σ H)(hl:∀i σ H,i<=xs.length->Pv i σ H->jz K H a xs)
  (hs:∀i x σ H T,xs[i]? = some x->H T=none->Pv i σ H->g (.ref T) σ (upd H T (.tup [.int (i:Nat),x])) λ σ2 H2=>tb { Ds with nx:=Pv (i+1),ct:=Pv (i+1),bk:=Ds.nx } σ2 H2) (hd:∀σ H,Pv xs.length σ H->Ds.nx σ H) :
  ∃W:Nat->Nat->St->Hp->Prop,(∃m,W 0 m σ H)/\∀i m σ H,W i m σ H ->
   ((QC K a).stop i H/\Ds.nx σ H)\/((QC K a).go i H/\∃N:St->Hp->Prop,(∀σ' H',N σ' H'->∃m',m'<m/\W (i+1) m' σ' H')/\∀x H',(QC K a).Ly i H x H'->g x σ H' λ σ2 H2=>tb { Ds with nx:=N,ct:=N,bk:=Ds.nx } σ2 H2):=by
 refine⟨λ i m σ H=>m=xs.length-i/\i<=xs.length/\Pv i σ H,⟨xs.length,by simp,bf _,h0⟩,?_⟩
 rintro i m σ H ⟨rfl,hi,p⟩
 have q1:=hl i σ H hi p
 by_cases hlt:i<xs.length
 ·refine .inr ⟨⟨xs,xs[i],q1,by simp[hlt]⟩,Pv (i+1),λ σ' H' p'=>⟨xs.length-(i+1),by omega,rfl,hlt,p'⟩,λ v H' yy=>?_⟩
  obtain⟨T,x,rfl,hT,rfl,e1⟩:=yy;exact hs i x σ H T (e1 xs q1) hT p
 ·obtain rfl:i=xs.length:=by omega
  exact .inl ⟨⟨xs,q1,aq _⟩,hd σ H p⟩
end
end L2
end
noncomputable section
namespace L2
open PySem PySem.Spec PyProof.Rows
section
variable{X:Cx}
def AB(K:aj)(i j:Nat):TG:=Tt K 2 (Lx (CO i) (Lx (CO j) Tr))
theorem ur(K:aj){i j:Nat}{x y:Str}{k:Nat}{pos p1 p2:Pos}(hc:X.calm=true)(hN:X.N.Nodup)(hi:X.N[i]? = some x)(hj:X.N[j]? = some y)(hx:Loc X.env.scope x)(hy:Loc X.env.scope y)
  (hf:X.fn x=true\/X.env.scope.names.lookup x=some .local:=by first | exact .inl rfl | exact .inr rfl | assumption) (hf2:X.fn y=true\/X.env.scope.names.lookup y=some .local:=by first | exact .inl rfl | exact .inr rfl | assumption) (eK:X.K=K:=by rfl) :
  PG X (.Tuple [.Name x p1,.Name y p2] k pos) (AB K i j):=
 eK ▸ Ri hc (EM (jS hN hi hx hf) (EM (jS hN hj hy hf2) OE))
theorem AB.at{K:aj}{i j:Nat}{T:Addr}{a b:V}{σ:St}{H:Hp}{Q:St->Hp->Prop}(hT:H T=some (.tup [a,b]))(h:Q ((σ.set i (some a)).set j (some b)) H):AB K i j (.ref T) σ H Q:=
 ⟨T,[a,b],rfl,.inl (.inl hT),rfl,a,[b],rfl,b,[],rfl,rfl,h⟩
theorem HZ(K:aj){a:Expr}{ta:TE}(ha:PE X a ta)(he:∀whole,isTrue a X.env whole=(do let v <-whole;standAt a.pos;holding [v] (truthy v)):=by intro _;rfl)(eK:X.K=K:=by rfl) :
  PT X a (λ σ H Q=>ta σ H λ x H'=>∃k,OL K x H' k/\Q k H'):=eK ▸ LI ha he
theorem Ia:vg X (binaryOp .Mult) (rI IntMulOk λ i j=>.int (i*j)):=Ro λ _ _ _ _ _ _ _ hc q=>mul_int q hc
theorem QI{a b:Int}{m n:Nat}(ha:a.natAbs<2^m)(hb:b.natAbs<2^n)(h:m+n<=134217728):IntMulOk a b:=by
 refine IntMulOk.of_le (m:=m) (n:=n) ?_ ?_ h
 ·exact intBits_le ha
 ·exact intBits_le hb
theorem Ft(hN:X.base.NoSeer)(ht:X.prog.given.tree=none)(hst:X.stack=X.env::X.outer)(hg:X.env.scope.isGenerator=false)(hc:X.env.scope.isCoroutine=false)(hd:X.A.depth+Builtin.pylongFrames<recursionLimit) :
  vg X (binaryOp .FloorDiv) (rI (λ _ j=>0<j) λ i j=>.int (i/j)):=by
 intro pins s σ H x y v u Q I rx ry h
 obtain⟨i,j,rfl,rfl,hj,q⟩:=h
 obtain⟨t,rfl⟩:=rx
 obtain⟨t',rfl⟩:=ry
 have h1:(0:Int)<j:=hj
 exact floordiv_int (by omega) (by rw[cO i (by omega)];exact⟨.int (i/j),H,I.tok _,⟨_,rfl⟩,q⟩) (.inr (PylongRoom.of I.nolimit hd (SeerAt.of (hN.keeps I.bk) ht (by rw[I.ok.frames,hst]) hg hc I.ok.blt I.ok.glob)))
end
end L2
end
noncomputable section
namespace L2
open PySem PySem.Spec PyProof.Rows
theorem Pk:typeLookup (.type "list_reverseiterator") "__len__" = pure none:=by
 rw[typeLookup_type,builtinLookup_eq_fast]
 kernel_rfl
theorem MI:typeLookup (.type "list_reverseiterator") "__length_hint__" = pure (some (.builtin "list_reverseiterator.__length_hint__")):=by
 rw[typeLookup_type,builtinLookup_eq_fast]
 kernel_rfl
section
variable{prog:Program}{w:World}{A:Around}{E:Value->Shared->Prop}{s:Shared}
theorem MJ{I l:Addr}{i:Int}{Q:Bool->Shared->Prop}(x:s.heap.IsRevIter I l i)(h:Q false s):wpAny (model prog w) A (Builtin.List.listLengthHint (.ref I)) Q E s:=by
 unfold Builtin.List.listLengthHint
 refine wpAny_bind (wpAny_specialOf x.typeIs Pk ?_)
 show wpAny _ A (specialOf (Value.ref I) (Str.ofString "__length_hint__") >>= _) _ _ _
 refine wpAny_bind (wpAny_specialOf x.typeIs MI ?_)
 generalize hid:("list_reverseiterator.__length_hint__":String)=ZT
 wp_delta
 rw[show splitId ZT=some ("list_reverseiterator","__length_hint__") by subst hid;decide +kernel]
 subst hid
 refine wpAny_bind (wpAny_isInstance (b:=true) x.typeIs (by rw[isSubtype_type];kernel_rfl) ?_)
 exact wpAny_pure h
theorem MK{I l:Addr}{items:Array Value}{Q:Value->Shared->Prop}(hh:A.handled=none)(x:s.heap.IsRevIter I l ((items.size:Int)-1))(hl:s.heap.IsList l items)(hne:l≠I)(hn:items.size<=sizeLine)
  (hQ:∀h' tk acc c,(∀b o,b≠I->s.heap.get? b=some o->h'.get? b=some o)->h'.get? s.heap.objs.size=some { cls:=.type "list",dict:=none,data:=.seq acc c,slots:=#[] } ->
   ItemsOf (λ i v=>items[items.size-1-i]? = some v) acc items.size->Q (.ref s.heap.objs.size) { s with heap:=h',toks:=tk }) :
  wpAny (model prog w) A (call (.type "list") [.ref I]) Q E s:=by
 refine callType_codes (Q₁:=λ ob s₁=>ob=.ref s.heap.objs.size/\s₁ = { s with heap:=s.heap.push { cls:=.type "list",data:=.seq #[] } }) F.called_list (F.typeCall_list_1 _) F.entry_list_init (code_list_new _ ⟨rfl,rfl⟩) ?_
 rintro ob s₁ ⟨rfl,rfl⟩
 have hS:(s.heap.push { cls:=.type "list",data:=.seq #[] }).get? s.heap.objs.size=some { cls:=.type "list",data:=.seq #[] }:=Heap.get?_push_size _ rfl
 refine⟨⟨_,hS,rfl⟩,F.args_list_init_2 _ _,?_⟩
 generalize hs:s.heap.objs.size=S at *
 have hIS:I<S:=by obtain⟨o,ho,_⟩:=x;rw[<-hs];exact Heap.lt_size ho
 have hlS:l<S:=by obtain⟨o,ho,_⟩:=hl;rw[<-hs];exact Heap.lt_size ho
 show wpAny _ _ (Builtin.List.listItems (.ref S) >>= λ old=>Builtin.List.listUpdate (.ref S) (λ _=>#[]) >>= λ _=>letGo old.toList.reverse >>= λ _=>Builtin.List.listExtendWith (.ref S) (.ref I) .none) _ _ _
 refine wpAny_bind ?_
 unfold Builtin.List.listItems
 refine wpAny_bind (wpAny_seqItems hS rfl (wpAny_pure ?_))
 refine wpAny_bind (m:=updateSeq S (λ _=>#[])) (wpAny_updateSeq hS rfl ?_)
 have Wz:=Heap.get?_update_self (Obj.mapSeq (λ _=>(#[]:Array Value))) hS rfl
 generalize ZU:(s.heap.push { cls:=.type "list",data:=.seq #[] }).update S (Obj.mapSeq λ _=>(#[]:Array Value))=h2 at *
 have WM:∀b o,b≠S->s.heap.get? b=some o->h2.get? b=some o:=λ b o hb e=>by
  rw[<-ZU,Heap.get?_update_other _ _ (Ne.symm hb)];exact Heap.get?_push_of_some _ e
 have x2:h2.IsRevIter I l ((items.size:Int)-1):=x.at λ o e=>WM I o (aW hIS) e
 have hl2:h2.IsList l items:=hl.at λ o e=>WM l o (aW hlS) e
 refine wpAny_bind (wpAny_letGo ?_)
 unfold Builtin.List.listExtendWith
 refine wpAny_bind (wpAny_typeOf (T:="list_reverseiterator") (Heap.IsRevIter.typeIs (s:={ s with heap:=h2 }) x2) ?_)
 have d1:Builtin.List.listSameRef (.ref S) (.ref I)=false:=by simp[Builtin.List.listSameRef,fm hIS]
 rw[if_neg (by rw[d1];decide)]
 refine wpAny_bind (wpAny_pyIter_revIter (s:={ s with heap:=h2 }) x2 ?_)
 refine wpAny_bind (wpAny_holding (MJ (s:={ s with heap:=h2 }) x2 ?_))
 rw[if_neg (by decide)]
 have W:=(Walks.listRev (prog:=prog) (w:=w) (A:=A.in1.in1) hh I l hne items).toS
 have hSf:S ∉ [I,l]:=λ z=>by
  rcases aA.mp z with e | z
  ·exact fm hIS e
  ·exact fm hlS (List.mem_singleton.mp z)
 refine wpAny_pure ⟨plainId_quiet F.plain_extend_loop _,codeAny_extend_loopS W hn S hSf .none items.size 0 _ #[] _ rfl (bf _) ⟨bf _,by simpa using x2,hl2⟩ Wz (ItemsOf.nil _) λ s' acc c hm hS' hacc=>?_⟩
 rw[Moved.eq_with hm]
 refine⟨rfl,hQ s'.heap s'.toks acc c (λ b o hb e=>?_) hS' hacc⟩
 have bS:b≠S:=by rw[<-hs];exact aW (Heap.lt_size e)
 exact hm.heap b o (by simp[bS,hb]) (WM b o bS e)
end
section
variable{X:Cx}
def Ut(K:aj)(t:TE):TE:=λ σ H Q=>t σ H λ v H1=>∃a xs,v=.ref a/\jz K H1 a xs/\∀D,H1 D=none->Q (.ref D) (upd H1 D (.lst xs.reverse))
theorem GU{e:Expr}{te:TE}{p p2 pos pos2:Pos}(hc:X.calm=true)(hg:Gl X "list")(hm:X.mg "list" = none)(ZV:Gl X "reversed")(hm2:X.mg "reversed" = none)(he:PE X e te)
  (s1:starEach [.Call (.Name "reversed" p2) [e] [] pos2] X.env=[(false,eval (.Call (.Name "reversed" p2) [e] [] pos2) X.env)]:=by rfl) (s2:starEach [e] X.env=[(false,eval e X.env)]:=by rfl) :
  PE X (.Call (.Name "list" p) [.Call (.Name "reversed" p2) [e] [] pos2] [] pos) (Ut X.K te):=by
 intro pins s σ H Q I h
 refine Call_ (wB I hg hm (show bootBuiltins "list" = some (.type "list") by decide +kernel) (PyProof.Rows.callWith_type1 ?_ s1 rfl))
 rw[s1]
 refine Calls.spliced_cons (lO (Q:=λ v s'=>∃(a it:Addr) (xs:List V) (its:List Value) (H1:Hp) (s0:Shared),v=.ref it/\it=s0.heap.objs.size/\Inv X pins σ H1 s0/\jz X.K H1 a xs/\Vals xs its/\s0.heap.IsList a its.toArray/\s' = { s0 with heap:=s0.heap.push (revObj a ((its.toArray.size:Int)-1)) }/\(∀D,H1 D=none->Q (.ref D) (upd H1 D (.lst xs.reverse)))/\xs.length<=sizeLine) ?_ ?_)
 ·refine Call_ (wB I ZV hm2 Aq (PyProof.Rows.callWith_type1 ?_ s2 rfl))
  rw[s2];refine Calls.spliced_cons (lO (he pins s σ H _ I h) λ u s0 ⟨x,H1,I1,r1,a,xs,ex,hq,q⟩=>?_);subst ex
  cases r1;obtain⟨its,rv,p',hz⟩:=I1.list hq;refine Calls.spliced_nil ?_;exact call_reversed_list p'.isList ⟨a,_,xs,its,H1,s0,rfl,rfl,I1,hq,rv,p'.isList,rfl,q,hz⟩
 ·rintro v s' ⟨a,it,xs,its,H1,s0,rfl,rfl,I1,hq,rv,hl,rfl,q,hz⟩
  refine Calls.spliced_nil ?_;have hla:a<s0.heap.objs.size:=by obtain⟨o,ho,_⟩:=hl;exact Heap.lt_size ho
  have hsz:its.toArray.size<=sizeLine:=by rw[aC,<-rv.length];exact hz
  refine MK (l:=a) (items:=its.toArray) (I1.ok.hd hc) ⟨_,Heap.get?_push_size _ rfl,rfl,rfl⟩ (hl.at λ o e=>Heap.get?_push_of_some _ e) (aW hla) hsz λ h' tk acc c k e hit=>?_
  have kk:∀b u,s0.heap.get? b=some u->h'.get? b=some u:=λ b u q1=>k b u (aW (Heap.lt_size q1)) (Heap.get?_push_of_some _ q1)
  have ea:acc=its.reverse.toArray:=by
   refine Array.ext (by rw[hit.1];simp) λ i h1 h2=>?_
   have XX:i<its.length:=by have:=hit.1;simp at this;omega
   have q1:=hit.2 i _ (bx h1);dsimp only at q1;rw[aC] at q1;have q2:its.toArray[its.length-1-i]? = some its[its.length-1-i]:=by rw[List.getElem?_toArray];exact af (by omega)
   rw[q2] at q1;have q3:=aR q1;rw[<-q3];simp
  have vr:Vals xs.reverse its.reverse:=rv.reverse;have big:s0.heap.objs.size<=(s0.heap.push (revObj a ((its.toArray.size:Int)-1))).objs.size:=by simp[Heap.push]
  refine⟨.ref _,upd H1 _ (.lst xs.reverse),I1.laid (t':=tk) (a:=(s0.heap.push (revObj a ((its.toArray.size:Int)-1))).objs.size) kk big ⟨by rw[List.length_reverse];exact hz,its.reverse,c,vr,?_⟩,rfl,q _ (I1.hok.fresh big)⟩;rw[e,ea]
end
end L2
end
noncomputable section
namespace L2
open PySem PySem.W PySem.Calls PyProof.Rows
theorem J6{tb:String->Option Builtin}{p:Program}{w:World}{n₀:Nat}{ann:Option Value}{env:Env}{q:Pos}{n N:Nat}{s s' r:Shared}{l:List Stmt}{c c':Code}{pos p':Pos}{f:Flow}
  (h:segRun tb p w n₀ ann 1 n s (piecesOf l env c pos [topFrame q])=some (f,s',c',p')) (k:topRun tb p w n₀ ann N s' ⟨doneF f,c',p',[topFrame q]⟩=some r):topRun tb p w n₀ ann (n+N) s (restOf l env c pos [topFrame q])=some r:=by
 obtain⟨a,ha,hN⟩:=seg_top (res:=id) (K':=doneF) (H':=leaveH env) (B:=[topFrame q]) rfl n s (piecesOf l env c pos [topFrame q])
  ⟨(execs l env).wrap doneF (leaveH env) id id,c,pos,[topFrame q]⟩ _ _ _ _ ⟨rfl,rfl,.inl ⟨rfl,rfl,_,rfl,rfl⟩⟩ h
 obtain rfl:a=f:=ha
 exact hN N r k
def J7(p:Program)(w:World)(m₀:Nat)(ann:Option Value)(M Mf:Nat)(S:SharedT)(b:List Stmt)(env:Env)(pos fp:Pos):Option Shared:=
 (segRunT treeTable p w m₀ ann 1 M S (piecesOf b env (.body b env) pos [topFrame fp])).bind λ x=>topRun treeTable p w m₀ ann Mf x.2.1.abs ⟨doneF x.1,x.2.2.1,x.2.2.2,[topFrame fp]⟩
theorem J8{p q:Program}{loose:List Str}{Xt:Shared->Bool}{α:Type}{Yf:Shared->α}{Ya:World->α}{N n0 kb M Mf:Nat}{H₀:Params->Heap}{gs:Array GenState}{d₀:Drawn}{k₀ m₀:Nat}{ann:Option Value}{Sb:Params->OsState->SharedT}
  {b:List Stmt} {env:Env} {pos pos' fp:Pos}
  (open_:∀w:World,(fencedOpening treeTable p w N).map (λ s=>(s.heap,s.gens,s.drawn,s.toks))=some (H₀ w.params,gs,d₀,k₀))
  (size:∀w:World,((H₀ w.params).isNs mainGlobals&&gs.size==0,(H₀ w.params).objs.size,(H₀ w.params).nsMap mainGlobals "__annotations__")=(true,m₀,ann))
  (pre:∀w:World,(λ os=>(topGo treeTable p w m₀ ann n0 ⟨H₀ w.params,gs,d₀,k₀,os⟩ (topStub p)).map (·.2))=λ _=>some ⟨denote treeTable (.body b env),.body b env,pos,[topFrame fp]⟩)
  (Co:∀w:World,(λ os=>(topGo treeTable p w m₀ ann n0 ⟨H₀ w.params,gs,d₀,k₀,os⟩ (topStub p)).bind λ x=>segRun treeTable p w m₀ ann 1 kb x.1 (blockOf b env (.body b env) pos [topFrame fp]))=λ os=>some (.next,(Sb w.params os).abs,.body b env,pos'))
  (m1:∀w:World,(λ os=>(J7 p w m₀ ann M Mf (Sb w.params os) b env pos' fp).map λ s=>(staticsOk (importedModules p.main.body) (H₀ w.params) s.heap&&namesBound p s.heap&&gensDone s&&laidKept (H₀ w.params) s.heap,s.heap.bltView,tabsOk q s,pinSeenD q (drecsOf q) s,Yf s))=λ _=>some (true,bltViewBooted,true,pinGoodD (drecsOf q),Ya w))
  (m2:∀w:World,(λ os=>(J7 p w m₀ ann M Mf (Sb w.params os) b env pos' fp).map λ s=>seen ((recsOf q).map (·.name)) (ownsOf q) [] { s with gens:=#[] })=λ _=>some (expectedOf q))
  (m3:∀w:World,(λ os=>(J7 p w m₀ ann M Mf (Sb w.params os) b env pos' fp).map λ s=>s.heap.keysOk (looseW q loose) ((recsOf q).map (·.name)) ((litsOf q).map (·.1)) ((clssOf q (looseW q loose)).map (·.name))&&s.heap.accountedOkI (importedModules p.main.body))=λ _=>some true)
  (m4:∀w:World,(λ os=>(J7 p w m₀ ann M Mf (Sb w.params os) b env pos' fp).map λ s=>s.heap.isNs mainGlobals&&s.heap.isNs builtinsNs&&tablesOk q s.heap&&Xt s&&(s.gens.size==0))=λ _=>some true)
  (m5:∀w:World,(λ os=>(J7 p w m₀ ann M Mf (Sb w.params os) b env pos' fp).map λ s=>(plainSeenE q (looseW q loose) s,plainSeenD q loose s,wideSeen q s,clsSeenW q loose s))=λ _=>some (plainGoodE q (looseW q loose),plainGoodD q loose,wideGood q,clsGoodW q loose))
  (le:Nat.ble (n0+(kb+(M+Mf))) N=true):LeftO p q loose Xt Yf Ya N:=λ w=>by
 obtain⟨⟨h,gs',d,k,os⟩,e,e'⟩:=dm.mp (open_ w)
 obtain⟨rfl,rfl,rfl,rfl⟩:h=H₀ w.params/\gs'=gs/\d=d₀/\k=k₀:=by simpa using e'
 obtain⟨z1,z2,z3⟩:_/\_/\_:=by simpa only[Prod.mk.injEq] using size w
 obtain⟨s₁,m0,l0⟩:=dm.mp (congrFun (m1 w) os)
 obtain⟨l1,lb,lt,lp,l3⟩:_/\_/\_/\_/\_:=by simpa only[Prod.mk.injEq] using l0
 have x2:seen ((recsOf q).map (·.name)) (ownsOf q) [] { s₁ with gens:=#[] } = expectedOf q:=by
  have:=congrFun (m2 w) os;rw[m0] at this;exact aR this
 have x3:(s₁.heap.keysOk (looseW q loose) ((recsOf q).map (·.name)) ((litsOf q).map (·.1)) ((clssOf q (looseW q loose)).map (·.name))&&s₁.heap.accountedOkI (importedModules p.main.body))=true:=by
  have:=congrFun (m3 w) os;rw[m0] at this;exact aR this
 have x4:(s₁.heap.isNs mainGlobals&&s₁.heap.isNs builtinsNs&&tablesOk q s₁.heap&&Xt s₁&&(s₁.gens.size==0))=true:=by
  have:=congrFun (m4 w) os;rw[m0] at this;exact aR this
 have x5:(plainSeenE q (looseW q loose) s₁,plainSeenD q loose s₁,wideSeen q s₁,clsSeenW q loose s₁)=(plainGoodE q (looseW q loose),plainGoodD q loose,wideGood q,clsGoodW q loose):=by
  have:=congrFun (m5 w) os;rw[m0] at this;exact aR this
 have l2:openSeen q loose (importedModules p.main.body) Xt true s₁ = openGood q loose:=by
  unfold openSeen openGood;rw[x2,lb,lt,lp];refine iw rfl (iw rfl (iw ?_ (iw rfl (iw rfl x5))));simp only[aQ] at x3 x4 ⊢
  exact⟨⟨⟨⟨⟨x3,x4.1.1.1.1⟩,x4.1.1.1.2⟩,x4.1.1.2⟩,x4.1.2⟩,x4.2⟩
 obtain⟨⟨f,sT,c',p'⟩,y1,y3⟩:=Option.bind_eq_some_iff.mp m0
 obtain⟨⟨sa,ta⟩,a1,a2⟩:=dm.mp (congrFun (pre w) os)
 have b1:=congrFun (Co w) os
 rw[a1] at b1
 have b2:segRun treeTable p w m₀ ann 1 kb sa (blockOf b env (.body b env) pos [topFrame fp])=some (.next,(Sb w.params os).abs,.body b env,pos'):=b1
 obtain rfl:ta=⟨denote treeTable (.body b env),.body b env,pos,[topFrame fp]⟩:=a2
 have r1:=J6 (segRun_of y1) y3
 have r2:=piece_block b2 r1
 have r3:=go_top a1 r2
 have r:=topRun_mono (N-(n0+(kb+(M+Mf)))) _ _ _ _ r3
 rw[show n0+(kb+(M+Mf))+(N-(n0+(kb+(M+Mf))))=N by have:=Nat.le_of_ble_eq_true le;omega] at r
 have t:topFrom treeTable p w N ⟨H₀ w.params,gs',d,k,os⟩=some s₁:=by
  unfold topFrom;dsimp only;rw[z1,z2,z3,r];show (match staticsOk (importedModules p.main.body) (H₀ w.params) s₁.heap&&namesBound p s₁.heap&&gensDone s₁&&laidKept (H₀ w.params) s₁.heap with | true=>_ | false=>_)=_;rw[l1]
 unfold openEnds
 rw[e]
 show (topFrom treeTable p w N _).map _=_
 rw[t]
 exact congrArg some (iw l2 l3)
end L2
end
noncomputable section
namespace L2
open PySem PySem.Spec PyProof.Rows
section
variable{X:Cx}
def Uu(_ j:Int):Prop:=0<j/\j.natAbs<2^1000
theorem ML:vg X (binaryOp .FloorDiv) (rI Uu λ i j=>.int (i.fdiv j)):=Ro λ i j _ _ _ _ _ hc q=>by
 have h1:(0:Int)<j:=hc.1
 refine floordiv_int (by omega) q (.inl (PyProof.noPylong_of_log2 ?_))
 have h0:j.natAbs≠0:=by omega
 have:=(Nat.log2_lt h0).mpr hc.2
 omega
def Uv(K:aj):V->V->Hp->VK->Prop:=λ x y H Q=>∃(p:Addr) (xs:List V) (i:Nat) (v:V),x=.ref p/\y=.int (i:Int)/\jz K H p xs/\xs[i]? = some v/\Q v H
theorem MM:Tv X (Uv X.K):=by
 intro pins s σ H x y v u Q I rx ry h
 obtain⟨p,xs,i,z,rfl,rfl,hq,he,q⟩:=h
 cases rx
 obtain⟨t,rfl⟩:=ry
 obtain⟨its,r,pl,hz⟩:=I.list hq
 obtain⟨w,ew,rw'⟩:=r.get he
 have hi:i<xs.length:=(ao.mp he).1
 refine wpAny_getItem_list pl.isList (by omega) ?_ ?_ ⟨z,H,I,rw',q⟩
 ·rw[sizeLine_eq] at hz
  omega
 ·rw[bM]
  simpa using ew
theorem ints_get:∀{ns:List Int}{us:List Value},IntsAre us ns->∀{i:Nat}{v:Value},us[i]? = some v->∃t,v=.int (ns.getD i 0) t
 |_,_,.nil,i,v,h=>by cases h
 |_,_,.cons n t h,0,v,e=>by cases e;exact⟨t,rfl⟩
 |_,_,.cons n t h,i+1,v,e=>ints_get h (i:=i) e
theorem GV{prog:Program}{w:World}{A:Around}{ns:List Int}{its:List Value}(e:IntsAre its ns) :
  TruthOf prog w A (λ i v=>its.toArray[i]? = some v) (λ i=>(ns.map λ n=>(n != 0)).getD i false):=λ i v s Q E hv hq=>by
 have hv':its[i]? = some v:=by simpa using hv
 obtain⟨t,rfl⟩:=ints_get e hv'
 have hi:i<ns.length:=by
  have:=(ao.mp hv').1;rw[<-e.length];exact this
 have hq':Q ((ns.map λ n=>(n != 0)).getD i false) s:=hq
 have hg:(ns.map λ n=>(n != 0)).getD i false=(ns.getD i 0 != 0):=by
  rw[aa,ai,af hi,aa,af hi];rfl
 rw[hg] at hq'
 exact iL hq'
def Uw(K:aj):List V->Hp->VK->Prop:=λ vs H Q=>∃(a:Addr) (ns:List Int),vs=[V.ref a]/\jz K H a (ns.map V.int)/\Q (.bl ((ns.map λ n=>(n != 0)).any id)) H
theorem Pn(hc:X.calm=true):uc X (.builtin "any") (Uw X.K):=by
 intro pins s σ H vs us Q I r h
 obtain⟨a,ns,rfl,hs,q⟩:=h
 obtain⟨its,rv,hl,_⟩:=I.list hs
 rw[Vals.Jw r]
 have hb:=rv.ints
 refine call_any_walk (EU hl.isList λ s₂ e2 st hne=>?_)
 subst e2
 refine⟨_,_,_,_,_,_,_,rfl,Walks.list (A:=X.A.in1) (I.ok.hd hc) _ a hne its.toArray,st,GV hb,λ h' tk hk=>?_⟩
 refine⟨.bl _,H,I.kept λ b o eo=>hk b o (λ hmem=>?_) (Heap.get?_push_of_some _ eo),?_,q⟩
 ·rcases aA.mp hmem with e1 | hmem
  ·exact absurd (e1 ▸ Heap.lt_size eo) (bJ _)
  ·cases hmem
 ·show Value.bool _=Value.bool _
  rw[<-any_range,aC,hb.length,ah]
end
end L2
end
noncomputable section
namespace Rd
open Ra61
def skip:Bool->B->B
 |_,[]=>[]
 |false,c::r=>if c<=32 then skip false r else if c=35 then skip true r else c::r
 |true,c::r=>if c=10 then skip false r else skip true r
def here(b:B):Nat:=b.headD 256
def passes(m:Nat)(b:B):Bool×B:=if here (skip false b)=m then (true,(skip false b).tail) else (false,skip false b)
def jP(b:B):Option (B×B):=
 let c:=skip false b
 if isLetter (here c)=true then
  let w:=c.takeWhile isWord
  if w.length<=16 then some (w,c.drop w.length) else none
 else none
def jW(b:B):Option (Nat×B):=
 let c:=skip false b
 let d:=c.takeWhile isDigit
 if 1<=d.length/\d.length<=7 then if value d<=1000000 then some (value d,c.drop d.length) else none else none
def oS(b:B):Option (Int×B):=
 (some (passes 45 b)).bind λ x=>(jW x.2).bind λ n=>if n.1<=1000 then some (if x.1=true then -(n.1:Int) else (n.1:Int),n.2) else none
def m8(b:B):Option ((B×Nat)×B):=
 (jP b).bind λ x=>(some (passes 47 x.2)).bind λ y=>
  (if y.1=true then jW y.2 else some (1,y.2)).bind λ n=>if 1<=n.1/\n.1<=1000 then some ((x.1,n.1),n.2) else none
def mG:Nat->B->Option (List (B×Nat)×B)
 |0,_=>none
 |n+1,b=>(some (passes 44 b)).bind λ x=>
  if x.1=true then (m8 x.2).bind λ w=>(mG n w.2).map λ r=>(w.1::r.1,r.2) else some ([],x.2)
def kO(b:B):Option (RawChoice×B):=
 (jP b).bind λ x=>(oS x.2).bind λ g=>(some (passes 58 g.2)).bind λ u=>
  if u.1=true then (m8 u.2).bind λ w=>(mG (w.2.length+1) w.2).bind λ r=>(some (passes 59 r.2)).bind λ v=>
   if v.1=true then if ((w.1::r.1).map λ w=>w.1).Nodup then some (⟨x.1,g.1,w.1::r.1⟩,v.2) else none else none
  else none
def kC:Nat->B->Option (List RawChoice×B)
 |0,_=>none
 |n+1,b=>(some (passes 125 b)).bind λ x=>
  if x.1=true then some ([],x.2) else (kO x.2).bind λ c=>(kC n c.2).map λ r=>(c.1::r.1,r.2)
def readState(b:B):Option (RawState×B):=
 (jP b).bind λ k=>if k.1=[115,116,97,116,101] then (jP k.2).bind λ x=>(some (passes 123 x.2)).bind λ u=>
  if u.1=true then (kC (u.2.length+1) u.2).bind λ c=>
   if c.1.length<=8 then if (c.1.map λ c=>c.name).Nodup then some (⟨x.1,c.1⟩,c.2) else none else none
  else none
 else none
def lP:Nat->B->Option (List RawState)
 |0,_=>none
 |n+1,b=>if skip false b=[] then some [] else (readState (skip false b)).bind λ s=>(lP n s.2).map λ r=>s.1::r
def placeOf(names:List B)(x:B):Nat:=(names.findIdx? λ y=>y==x).getD 0
def placed(raw:List RawState):Net:=
 let names:=raw.map λ s=>s.name
 raw.map λ s=>⟨s.name,s.choices.map λ c=>⟨c.name,c.gain,c.ways.map λ w=>(placeOf names w.1,w.2)⟩⟩
def ku(b:B):Option Net:=
 (lP (b.length+1) b).bind λ raw=>
  if 1<=raw.length/\raw.length<=16 then
   if (raw.map λ s=>s.name).Nodup then
    if raw.all λ s=>s.choices.all λ c=>c.ways.all λ w=>(raw.map λ s=>s.name).contains w.1 then some (placed raw) else none
   else none
  else none
theorem kD:∀(q:Bool) (b:B),(skip q b).length<=b.length
 |q,[]=>by cases q<;>simp[skip]
 |false,c::r=>by
  unfold skip;split
  ·have:=kD false r;simp;omega
  ·split
   ·have:=kD true r;simp;omega
   ·simp
 |true,c::r=>by
  unfold skip;split
  ·have:=kD false r;simp;omega
  ·have:=kD true r;simp;omega
theorem oU:∀(q:Bool) (b:B),skip q b <:+ b
 |q,[]=>by cases q<;>simp[skip]
 |false,c::r=>by
  unfold skip;split
  ·exact (oU false r).trans (fM c r)
  ·split
   ·exact (oU true r).trans (fM c r)
   ·exact fN _
 |true,c::r=>by
  unfold skip;split
  ·exact (oU false r).trans (fM c r)
  ·exact (oU true r).trans (fM c r)
theorem De:∀b:B,skip true b=skip false (b.dropWhile λ x=>x != 10)
 |[]=>by simp[skip]
 |c::r=>by
  by_cases h:c=10
  ·subst h;simp[skip]
  ·rw[bH (by simp[h]),<-De r];simp[skip,h]
theorem rH:∀(q:Bool) (b:B),skip false (skip q b)=skip q b
 |q,[]=>by cases q<;>simp[skip]
 |false,c::r=>by
  by_cases h:c<=32
  ·simp[skip,h,rH false r]
  ·by_cases h2:c=35
   ·subst h2;simp[skip,rH true r]
   ·simp[skip,h,h2]
 |true,c::r=>by
  by_cases h:c=10
  ·simp[skip,h,rH false r]
  ·simp[skip,h,rH true r]
theorem yK(q:Bool)(b:B):skip q b=[]\/∃c r,skip q b=c::r/\32<c/\c≠35:=by
 have h:=rH q b
 cases e:skip q b with
 |nil=>exact .inl rfl
 |cons c r=>
  right
  rw[e] at h;refine⟨c,r,rfl,?_,?_⟩
  ·by_cases hc:c<=32
   ·simp[skip,hc] at h
    have:=kD false r;have h2:=congrArg fc h;simp at h2;omega
   ·omega
  ·intro hc;subst hc;simp[skip] at h
   have:=kD true r;have h2:=congrArg fc h;simp at h2;omega
theorem dropWhile_len(p:Nat->Bool)(r:B):(r.dropWhile p).length<=r.length:=(dN p).length_le
theorem oV:∀(n m:Nat) (b:B),b.length<n->b.length<m->tokens n b=tokens m b
 |0,_,_,h,_=>by omega
 |_,0,_,_,h=>by omega
 |n+1,m+1,[],_,_=>by simp[tokens]
 |n+1,m+1,c::r,h1,h2=>by
  have hl:r.length<n/\r.length<m:=by simp at h1 h2;omega
  have d1:=dropWhile_len (λ x=>x != 10) r;simp only[tokens]
  rw[oV n m r hl.1 hl.2,oV n m (r.dropWhile λ x=>x != 10) (by omega) (by omega)];have w1:isLetter c=true->((c::r).drop ((c::r).takeWhile isWord).length).length<=r.length:=λ h=>by
   rw[bA (by simp[isWord,h])];simp
  have w2:isDigit c=true->((c::r).drop ((c::r).takeWhile isDigit).length).length<=r.length:=λ h=>by
   rw[bA h];simp
  by_cases hL:isLetter c=true
  ·have:=w1 hL;rw[oV n m ((c::r).drop ((c::r).takeWhile isWord).length) (by omega) (by omega)];simp[hL]
  ·by_cases hD:isDigit c=true
   ·have:=w2 hD;rw[oV n m ((c::r).drop ((c::r).takeWhile isDigit).length) (by omega) (by omega)];simp[hL,hD]
   ·simp[hL,hD]
def lex(b:B):Option (List Tok):=tokens (b.length+1) b
theorem GW{n:Nat}{b:B}(h:b.length<n):tokens n b=lex b:=oV _ _ _ h (aD _)
theorem Df{c:Nat}{r:B}(h:c<=32):lex (c::r)=lex r:=by
 unfold lex;simp only[tokens,h,if_true,aJ]
theorem MN{r:B}:lex (35::r)=lex (r.dropWhile λ x=>x != 10):=by
 unfold lex;simp only[tokens,aJ]
 rw[if_neg (by decide),if_pos trivial]
 exact GW (dS (dropWhile_len _ _))
theorem uu(n c:Nat)(r:B):tokens (n+1) (c::r)=if c<=32 then tokens n r else if c=35 then tokens n (r.dropWhile λ x=>x != 10)
  else if isLetter c=true then (if 16<((c::r).takeWhile isWord).length then none else (tokens n ((c::r).drop ((c::r).takeWhile isWord).length)).map λ l=>.name ((c::r).takeWhile isWord)::l)
  else if isDigit c=true then (if 7<((c::r).takeWhile isDigit).length\/1000000<value ((c::r).takeWhile isDigit) then none else (tokens n ((c::r).drop ((c::r).takeWhile isDigit).length)).map λ l=>.num (value ((c::r).takeWhile isDigit))::l)
  else if signs.contains c=true then (tokens n r).map λ l=>.sign c::l else none:=rfl
theorem AD{c:Nat}{r:B}(h:isLetter c=true)(h1:32<c)(h2:c≠35) :
  lex (c::r)=if 16<((c::r).takeWhile isWord).length then none else (lex ((c::r).drop ((c::r).takeWhile isWord).length)).map λ l=>.name ((c::r).takeWhile isWord)::l:=by
 have w1:((c::r).drop ((c::r).takeWhile isWord).length).length<r.length+1:=by
  rw[bA (by simp[isWord,h])];simp;omega
 have e:lex (c::r)=tokens (r.length+1+1) (c::r):=rfl
 rw[e,uu,if_neg (by omega),if_neg h2,if_pos h,GW w1]
theorem Dg{c:Nat}{r:B}(h:isDigit c=true)(h1:32<c)(h2:c≠35)(hL:isLetter c=false) :
  lex (c::r)=if 7<((c::r).takeWhile isDigit).length\/1000000<value ((c::r).takeWhile isDigit) then none else (lex ((c::r).drop ((c::r).takeWhile isDigit).length)).map λ l=>.num (value ((c::r).takeWhile isDigit))::l:=by
 have w1:((c::r).drop ((c::r).takeWhile isDigit).length).length<r.length+1:=by
  rw[bA h];simp;omega
 have e:lex (c::r)=tokens (r.length+1+1) (c::r):=rfl
 rw[e,uu,if_neg (by omega),if_neg h2,if_neg (by simp[hL]),if_pos h,GW w1]
theorem Fv{c:Nat}{r:B}(h1:32<c)(h2:c≠35)(hL:isLetter c=false)(hD:isDigit c=false) :
  lex (c::r)=if signs.contains c=true then (lex r).map λ l=>.sign c::l else none:=by
 have e:lex (c::r)=tokens (r.length+1+1) (c::r):=rfl
 rw[e,uu,if_neg (by omega),if_neg h2,if_neg (by simp[hL]),if_neg (by simp[hD])]
 rfl
theorem uv:∀(q:Bool) (b:B),lex (skip q b)=if q=true then lex (b.dropWhile λ x=>x != 10) else lex b
 |q,[]=>by cases q<;>simp[skip]
 |false,c::r=>by
  by_cases h:c<=32
  ·have:=uv false r;simp only[skip,h,if_true,Df h];simpa using this
  ·by_cases h2:c=35
   ·subst h2;have:=uv true r;simp only[skip,MN];simpa using this
   ·simp[skip,h,h2]
 |true,c::r=>by
  by_cases h:c=10
  ·subst h;have:=uv false r;have e:lex (10::r)=lex r:=Df (by decide);simp only[skip,if_true];simpa [e] using this
  ·have:=uv true r;rw[bH (by simp[h])];simp only[skip,h,if_false];simpa using this
theorem n8(b:B):lex (skip false b)=lex b:=by simpa using uv false b
end Rd
end
noncomputable section
namespace Rd
open Ra61
def jq{α:Type}(r:Option (α×B))(p:List Tok->Option (α×List Tok))(b:B):Prop:=
 (∀l,lex b=some l->match r with
  |none=>p l=none
  |some x=>∃l',p l=some (x.1,l')/\lex x.2=some l') /\
 (lex b=none->∀x,r=some x->lex x.2=none)
theorem jq.no{α:Type}{p:List Tok->Option (α×List Tok)}{b:B}(h:∀l,lex b=some l->p l=none):jq none p b:=⟨h,λ _ _ e=>by cases e⟩
theorem jq.bind{α β:Type}{r:Option (α×B)}{p:List Tok->Option (α×List Tok)}{b:B}{S:α×B->Option (β×B)}{q:α->List Tok->Option (β×List Tok)}
  (h:jq r p b) (k:∀x,r=some x->jq (S x) (q x.1) x.2):jq (r.bind S) (λ l=>(p l).bind λ x=>q x.1 x.2) b:=by
 cases r with
 |none=>exact .no λ l hl=>by rw[h.1 l hl];rfl
 |some x=>
  have k:=k x rfl;refine⟨λ l hl=>?_,λ hl y hy=>?_⟩
  ·obtain⟨l',h1,h2⟩:=h.1 l hl;have:=k.1 l' h2;simp only[ak,h1]
   exact this
  ·exact k.2 (h.2 hl x rfl) y hy
theorem jq.bnd{α β:Type}{r:Option (α×B)}{p:List Tok->Option (α×List Tok)}{b:B}{S:α×B->Option (β×B)}{Q:α×List Tok->Option (β×List Tok)}
  (h:jq r p b) (k:∀x,r=some x->jq (S x) (λ l=>Q (x.1,l)) x.2):jq (r.bind S) (λ l=>(p l).bind Q) b:=
 jq.bind (q:=λ x l=>Q (x,l)) h k
theorem jq.congr{α:Type}{r:Option (α×B)}{p q:List Tok->Option (α×List Tok)}{b:B}(h:jq r p b)(e:∀l,lex b=some l->p l=q l):jq r q b:=by
 refine⟨λ l hl=>?_,h.2⟩
 rw[<-e l hl];exact h.1 l hl
theorem jq.pure{α:Type}(v:α)(b:B):jq (some (v,b)) (λ l=>some (v,l)) b:=⟨λ l hl=>⟨l,rfl,hl⟩,λ hl x e=>by cases e;exact hl⟩
theorem jq.guard{α:Type}{c:Prop}[Decidable c]{r:Option (α×B)}{p:List Tok->Option (α×List Tok)}{b:B}(h:c->jq r p b):jq (if c then r else none) (λ l=>if c then p l else none) b:=by
 by_cases hc:c
 ·simp only[hc,if_true];exact h hc
 ·simp only[hc,if_false];exact .no λ _ _=>rfl
theorem jq.ite{α:Type}{c:Prop}[Decidable c]{r r':Option (α×B)}{p p':List Tok->Option (α×List Tok)}{b:B}(h:c->jq r p b)(h':¬c->jq r' p' b):jq (if c then r else r') (λ l=>if c then p l else p' l) b:=by
 by_cases hc:c
 ·simp only[hc,if_true];exact h hc
 ·simp only[hc,if_false];exact h' hc
theorem jq.map{α β:Type}{r:Option (α×B)}{p:List Tok->Option (α×List Tok)}{b:B}{f:α->β}(h:jq r p b):jq (r.map λ x=>(f x.1,x.2)) (λ l=>(p l).map λ x=>(f x.1,x.2)) b:=by
 cases r with
 |none=>exact .no λ l hl=>by rw[h.1 l hl];rfl
 |some x=>exact⟨λ l hl=>let ⟨l',h1,h2⟩:=h.1 l hl;⟨l',by simp only[h1];rfl,h2⟩,λ hl y hy=>by cases hy;exact h.2 hl x rfl⟩
theorem GX{m:Nat}(h:m∈signs):32<m/\m≠35/\isLetter m=false/\isDigit m=false/\signs.contains m=true/\m≠256:=by
 simp only[signs,aA,dg,or_false] at h
 rcases h with rfl | rfl | rfl | rfl | rfl | rfl | rfl<;>decide
def kL(m:Nat)(l:List Tok):Option (Bool×List Tok):=some (if l.head? = some (.sign m) then (true,l.drop 1) else (false,l))
theorem rJ(b:B)(c:Nat)(r:B)(e:Rd.skip false b=c::r)(l:List Tok)(hl:lex b=some l) :
  (isLetter c=true/\((c::r).takeWhile isWord).length<=16/\∃l',l=.name ((c::r).takeWhile isWord)::l'/\lex ((c::r).drop ((c::r).takeWhile isWord).length)=some l') \/
  (isLetter c=false/\isDigit c=true/\((c::r).takeWhile isDigit).length<=7/\value ((c::r).takeWhile isDigit)<=1000000/\∃l',l=.num (value ((c::r).takeWhile isDigit))::l'/\lex ((c::r).drop ((c::r).takeWhile isDigit).length)=some l') \/
  (isLetter c=false/\isDigit c=false/\signs.contains c=true/\∃l',l=.sign c::l'/\lex r=some l'):=by
 obtain⟨h1,h2⟩:32<c/\c≠35:=by
  rcases yK false b with h | ⟨c',r',h,a,b'⟩
  ·rw[e] at h;cases h
  ·rw[e] at h;cases h;exact⟨a,b'⟩
 rw[<-n8,e] at hl
 by_cases hL:isLetter c=true
 ·left
  rw[AD hL h1 h2] at hl
  split at hl
  ·cases hl
  ·cases e2:lex ((c::r).drop ((c::r).takeWhile isWord).length) with
   |none=>rw[e2] at hl;cases hl
   |some l'=>rw[e2] at hl;cases hl;exact⟨hL,by omega,l',rfl,rfl⟩
 ·have hL':isLetter c=false:=by simpa using hL
  right
  by_cases hD:isDigit c=true
  ·left
   rw[Dg hD h1 h2 hL'] at hl
   split at hl
   ·cases hl
   ·cases e2:lex ((c::r).drop ((c::r).takeWhile isDigit).length) with
    |none=>rw[e2] at hl;cases hl
    |some l'=>rw[e2] at hl;cases hl;exact⟨hL',hD,by omega,by omega,l',rfl,rfl⟩
  ·have Yh:isDigit c=false:=by simpa using hD
   right
   rw[Fv h1 h2 hL' Yh] at hl
   split at hl
   ·cases e2:lex r with
    |none=>rw[e2] at hl;cases hl
    |some l'=>rw[e2] at hl;cases hl;exact⟨hL',Yh,by assumption,l',rfl,rfl⟩
   ·cases hl
theorem zV{b:B}(e:Rd.skip false b=[]):lex b=some []:=by rw[<-n8,e];rfl
theorem nu{m:Nat}(hm:m∈signs)(b:B):jq (some (passes m b)) (kL m) b:=by
 obtain⟨a1,a2,a3,a4,a5,a6⟩:=GX hm
 cases e:Rd.skip false b with
 |nil=>
  have hp:passes m b=(false,[]):=by unfold passes;rw[e];simp[here];exact λ h=>absurd h.symm a6
  have hl:=zV e;rw[hp];refine⟨λ l h=>?_,λ h=>by rw[hl] at h;cases h⟩;rw[hl] at h;cases h;exact⟨[],by simp[kL],rfl⟩
 |cons c r=>
  by_cases hc:c=m
  ·subst hc;have hp:passes c b=(true,r):=by unfold passes;rw[e];simp[here]
   rw[hp];have el:lex b=(lex r).map λ l=>.sign c::l:=by rw[<-n8,e,Fv a1 a2 a3 a4,if_pos a5]
   refine⟨λ l h=>?_,λ h x ex=>?_⟩
   ·rw[el] at h
    cases e2:lex r with
    |none=>rw[e2] at h;cases h
    |some l'=>rw[e2] at h;cases h;exact⟨l',by simp[kL],e2⟩
   ·cases ex;rw[el] at h
    cases e2:lex r with
    |none=>rfl
    |some l'=>rw[e2] at h;cases h
  ·have hp:passes m b=(false,c::r):=by unfold passes;rw[e];simp[here,hc]
   rw[hp];have el:lex (c::r)=lex b:=by rw[<-e,n8]
   refine⟨λ l h=>⟨l,?_,by rw[<-h];exact el⟩,λ h x ex=>by cases ex;rw[<-h];exact el⟩;have:l.head?≠some (.sign m):=by
    rcases rJ b c r e l h with ⟨_,_,l',rfl,_⟩ | ⟨_,_,_,_,l',rfl,_⟩ | ⟨_,_,_,l',rfl,_⟩
    ·simp
    ·simp
    ·simp;exact hc
   simp[kL,this]
theorem xr(b:B):jq (jP b) name b:=by
 cases e:Rd.skip false b with
 |nil=>
  have hp:jP b=none:=by
   unfold jP;rw[e];rfl
  rw[hp];refine .no λ l h=>?_
  rw[zV e] at h;cases h;rfl
 |cons c r=>
  by_cases hL:isLetter c=true
  ·obtain⟨h1,h2⟩:32<c/\c≠35:=by
    rcases yK false b with h | ⟨c',r',h,a,b'⟩
    ·rw[e] at h;cases h
    ·rw[e] at h;cases h;exact⟨a,b'⟩
   have el:lex b=if 16<((c::r).takeWhile isWord).length then none else (lex ((c::r).drop ((c::r).takeWhile isWord).length)).map λ l=>.name ((c::r).takeWhile isWord)::l:=by
    rw[<-n8,e,AD hL h1 h2]
   have hp:jP b=if ((c::r).takeWhile isWord).length<=16 then some ((c::r).takeWhile isWord,(c::r).drop ((c::r).takeWhile isWord).length) else none:=by
    unfold jP;rw[e];simp only[here,List.headD_cons,hL,if_true]
   rw[hp]
   by_cases hw:((c::r).takeWhile isWord).length<=16
   ·rw[if_pos hw];rw[if_neg (by omega)] at el;refine⟨λ l h=>?_,λ h x ex=>?_⟩
    ·rw[el] at h
     cases e2:lex ((c::r).drop ((c::r).takeWhile isWord).length) with
     |none=>rw[e2] at h;cases h
     |some l'=>rw[e2] at h;cases h;exact⟨l',rfl,e2⟩
    ·cases ex;rw[el] at h
     cases e2:lex ((c::r).drop ((c::r).takeWhile isWord).length) with
     |none=>rfl
     |some l'=>rw[e2] at h;cases h
   ·rw[if_neg hw];rw[if_pos (by omega)] at el;exact .no λ l h=>by rw[el] at h;cases h
  ·have hp:jP b=none:=by
    unfold jP;rw[e];simp[here,hL]
   rw[hp];refine .no λ l h=>?_
   rcases rJ b c r e l h with ⟨h',_⟩ | ⟨_,_,_,_,l',rfl,_⟩ | ⟨_,_,_,l',rfl,_⟩
   ·exact absurd h' hL
   ·rfl
   ·rfl
theorem Ec{c:Nat}(h:isDigit c=true):isLetter c=false:=by
 simp only[isDigit,isLetter,aQ,decide_eq_true_eq] at h ⊢
 simp;omega
theorem AE(b:B):jq (jW b) number b:=by
 cases e:Rd.skip false b with
 |nil=>
  have hp:jW b=none:=by
   unfold jW;rw[e];rfl
  rw[hp];refine .no λ l h=>?_
  rw[zV e] at h;cases h;rfl
 |cons c r=>
  by_cases hD:isDigit c=true
  ·obtain⟨h1,h2⟩:32<c/\c≠35:=by
    rcases yK false b with h | ⟨c',r',h,a,b'⟩
    ·rw[e] at h;cases h
    ·rw[e] at h;cases h;exact⟨a,b'⟩
   have el:lex b=if 7<((c::r).takeWhile isDigit).length\/1000000<value ((c::r).takeWhile isDigit) then none else (lex ((c::r).drop ((c::r).takeWhile isDigit).length)).map λ l=>.num (value ((c::r).takeWhile isDigit))::l:=by
    rw[<-n8,e,Dg hD h1 h2 (Ec hD)]
   have h0:1<=((c::r).takeWhile isDigit).length:=by rw[bA hD];simp
   have hp:jW b=if ((c::r).takeWhile isDigit).length<=7 then if value ((c::r).takeWhile isDigit)<=1000000 then some (value ((c::r).takeWhile isDigit),(c::r).drop ((c::r).takeWhile isDigit).length) else none else none:=by
    unfold jW;rw[e];simp only[h0,true_and]
   rw[hp]
   by_cases hw:((c::r).takeWhile isDigit).length<=7/\value ((c::r).takeWhile isDigit)<=1000000
   ·rw[if_pos hw.1,if_pos hw.2];rw[if_neg (by omega)] at el;refine⟨λ l h=>?_,λ h x ex=>?_⟩
    ·rw[el] at h
     cases e2:lex ((c::r).drop ((c::r).takeWhile isDigit).length) with
     |none=>rw[e2] at h;cases h
     |some l'=>rw[e2] at h;cases h;exact⟨l',rfl,e2⟩
    ·cases ex;rw[el] at h
     cases e2:lex ((c::r).drop ((c::r).takeWhile isDigit).length) with
     |none=>rfl
     |some l'=>rw[e2] at h;cases h
   ·rw[if_pos (by omega)] at el;have:(if ((c::r).takeWhile isDigit).length<=7 then if value ((c::r).takeWhile isDigit)<=1000000 then some (value ((c::r).takeWhile isDigit),(c::r).drop ((c::r).takeWhile isDigit).length) else none else none)=none:=by
     split
     ·split
      ·exact absurd ⟨by assumption,by assumption⟩ hw
      ·rfl
     ·rfl
    rw[this];exact .no λ l h=>by rw[el] at h;cases h
  ·have hp:jW b=none:=by
    unfold jW;simp only[e,dZ hD];rfl
   rw[hp];refine .no λ l h=>?_
   rcases rJ b c r e l h with ⟨_,_,l',rfl,_⟩ | ⟨_,h',_⟩ | ⟨_,_,_,l',rfl,_⟩
   ·rfl
   ·exact absurd h' hD
   ·rfl
theorem ju(m:Nat)(b:B):(passes m b).2.length<=b.length:=by
 unfold passes;have:=kD false b;split<;>simp<;>omega
theorem vn{m:Nat}{b:B}(hm:m≠256)(h:(passes m b).1=true):(passes m b).2.length<b.length:=by
 unfold passes at h ⊢
 have:=kD false b
 split
 ·rename_i e
  cases q:Rd.skip false b with
  |nil=>rw[q] at e;simp[here] at e;exact absurd e.symm hm
  |cons c r=>rw[q] at this;simp at this ⊢;omega
 ·rename_i e;rw[if_neg e] at h;cases h
theorem kE{b:B}{x:B×B}(h:jP b=some x):x.2.length<b.length:=by
 unfold jP at h
 have:=kD false b
 cases q:Rd.skip false b with
 |nil=>rw[q] at h;simp[here,isLetter] at h
 |cons c r=>
  rw[q] at h this;have h:(if isLetter c=true then (if ((c::r).takeWhile isWord).length<=16 then some ((c::r).takeWhile isWord,(c::r).drop ((c::r).takeWhile isWord).length) else none) else none)=some x:=h
  by_cases hL:isLetter c=true
  ·rw[if_pos hL] at h
   by_cases hw:((c::r).takeWhile isWord).length<=16
   ·rw[if_pos hw] at h
    cases h;rw[bA (by simp[isWord,hL])];simp at this ⊢;omega
   ·rw[if_neg hw] at h;cases h
  ·rw[if_neg hL] at h;cases h
theorem vM{b:B}{x:Nat×B}(h:jW b=some x):x.2.length<b.length:=by
 unfold jW at h
 have:=kD false b
 simp only at h
 split at h
 ·rename_i h1
  split at h
  ·cases h;have hl:((Rd.skip false b).takeWhile isDigit).length<=(Rd.skip false b).length:=(List.takeWhile_prefix _).length_le;simp;omega
  ·cases h
 ·cases h
end Rd
end
noncomputable section
namespace Rd
open Ra61
def Dh(l:List Tok):Option (Int×List Tok):=(kL 45 l).bind λ x=>(number x.2).bind λ n=>if n.1<=1000 then some (if x.1=true then -(n.1:Int) else (n.1:Int),n.2) else none
def zJ(l:List Tok):Option ((B×Nat)×List Tok):=(name l).bind λ x=>(kL 47 x.2).bind λ y=>(if y.1=true then number y.2 else some (1,y.2)).bind λ n=>if 1<=n.1/\n.1<=1000 then some ((x.1,n.1),n.2) else none
def zf:Nat->List Tok->Option (List (B×Nat)×List Tok)
 |0,_=>none
 |n+1,l=>(kL 44 l).bind λ x=>if x.1=true then (zJ x.2).bind λ w=>(zf n w.2).map λ r=>(w.1::r.1,r.2) else some ([],x.2)
def PM(l:List Tok):=zf (l.length+1) l
def qy(l:List Tok):Option (RawChoice×List Tok):=(name l).bind λ x=>(Dh x.2).bind λ g=>(kL 58 g.2).bind λ u=>if u.1=true then (zJ u.2).bind λ w=>(PM w.2).bind λ r=>
 (kL 59 r.2).bind λ v=>if v.1=true then if ((w.1::r.1).map λ w=>w.1).Nodup then some (⟨x.1,g.1,w.1::r.1⟩,v.2) else none else none else none
def AF:Nat->List Tok->Option (List RawChoice×List Tok)
 |0,_=>none
 |n+1,l=>(kL 125 l).bind λ x=>if x.1=true then some ([],x.2) else (qy x.2).bind λ c=>(AF n c.2).map λ r=>(c.1::r.1,r.2)
def PC(l:List Tok):=AF (l.length+1) l
def pState(l:List Tok):Option (RawState×List Tok):=(name l).bind λ k=>if k.1=[115,116,97,116,101] then (name k.2).bind λ x=>(kL 123 x.2).bind λ u=>if u.1=true then (PC u.2).bind λ c=>
 if c.1.length<=8 then if (c.1.map λ c=>c.name).Nodup then some (⟨x.1,c.1⟩,c.2) else none else none else none else none
def Ed:Nat->List Tok->Option (List RawState)
 |0,_=>none
 |n+1,l=>if l.isEmpty=true then some [] else (pState l).bind λ s=>(Ed n s.2).map λ r=>s.1::r
theorem qz{l:List Tok}{x:B×List Tok}(h:name l=some x):x.2.length<l.length:=by
 unfold name at h;split at h
 ·cases h;simp
 ·cases h
theorem rK{l:List Tok}{x:Nat×List Tok}(h:number l=some x):x.2.length<l.length:=by
 unfold number at h;split at h
 ·cases h;simp
 ·cases h
theorem nN{m:Nat}{l:List Tok}{x:Bool×List Tok}(h:kL m l=some x):x.2.length<=l.length:=by
 unfold kL at h;cases h;split<;>simp
theorem Fw{m:Nat}{l:List Tok}{x:Bool×List Tok}(h:kL m l=some x)(hx:x.1=true):x.2.length<l.length:=by
 unfold kL at h;cases h
 split at hx
 ·rename_i e;rw[if_pos e]
  cases l with
  |nil=>simp at e
  |cons a b=>simp
 ·cases hx
theorem bind_some{α β:Type}{o:Option α}{f:α->Option β}{y:β}(h:o.bind f=some y):∃x,o=some x/\f x=some y:=by
 cases o with
 |none=>cases h
 |some x=>exact⟨x,rfl,h⟩
theorem jj{α:Type}{c:Prop}[Decidable c]{o:Option α}{y:α}(h:(if c then o else none)=some y):c/\o=some y:=by
 by_cases hc:c
 ·rw[if_pos hc] at h;exact⟨hc,h⟩
 ·rw[if_neg hc] at h;cases h
theorem map_some{α β:Type}{o:Option α}{f:α->β}{y:β}(h:o.map f=some y):∃x,o=some x/\y=f x:=by
 cases o with
 |none=>cases h
 |some x=>cases h;exact⟨x,rfl,rfl⟩
theorem MO{l:List Tok}{x}(h:Dh l=some x):x.2.length<l.length:=by
 obtain⟨a,h1,h⟩:=bind_some h
 obtain⟨b,h2,h⟩:=bind_some h
 obtain⟨_,h⟩:=jj h
 cases h
 have:=nN h1;have:=rK h2;simp only;omega
theorem zX{l:List Tok}{x}(h:zJ l=some x):x.2.length<l.length:=by
 obtain⟨a,h1,h⟩:=bind_some h
 obtain⟨b,h2,h⟩:=bind_some h
 obtain⟨c,h3,h⟩:=bind_some h
 obtain⟨_,h⟩:=jj h
 cases h
 have:=qz h1;have:=nN h2
 split at h3
 ·have:=rK h3;simp only;omega
 ·cases h3;simp only;omega
theorem Fx:∀{n:Nat}{l:List Tok} {x},zf n l=some x->x.2.length<=l.length
 |0,_,_,h=>by cases h
 |n+1,l,x,h=>by
  obtain⟨a,h1,h⟩:=bind_some h;have:=nN h1
  split at h
  ·obtain⟨b,h2,h⟩:=bind_some h;obtain⟨c,h3,h⟩:=map_some h;subst h;have:=zX h2;have:=Fx h3;simp only;omega
  ·cases h;simp only;omega
theorem AG:∀(n m:Nat) (l:List Tok),l.length<n->l.length<m->zf n l=zf m l
 |0,_,_,h,_=>by omega
 |_,0,_,_,h=>by omega
 |n+1,m+1,l,h1,h2=>by
  simp only[zf]
  cases e:kL 44 l with
  |none=>rfl
  |some x=>
   simp only[ak]
   split
   ·have:=Fw e (by assumption)
    cases e2:zJ x.2 with
    |none=>rfl
    |some w=>
     have:=zX e2;simp only[ak]
     rw[AG n m w.2 (by omega) (by omega)]
   ·rfl
theorem Ef(l:List Tok):PM l=(kL 44 l).bind λ x=>if x.1=true then (zJ x.2).bind λ w=>(PM w.2).map λ r=>(w.1::r.1,r.2) else some ([],x.2):=by
 conv=>lhs;unfold PM;unfold zf
 cases e:kL 44 l with
 |none=>rfl
 |some x=>
  simp only[ak]
  split
  ·have:=Fw e (by assumption)
   cases e2:zJ x.2 with
   |none=>rfl
   |some w=>
    have:=zX e2;simp only[ak]
    rw[show PM w.2=zf l.length w.2 from AG _ _ _ (aD _) (by omega)]
  ·rfl
theorem wJ{l:List Tok}{x}(h:qy l=some x):x.2.length<l.length:=by
 obtain⟨a,h1,h⟩:=bind_some h
 obtain⟨b,h2,h⟩:=bind_some h
 obtain⟨c,h3,h⟩:=bind_some h
 obtain⟨_,h⟩:=jj h
 obtain⟨d,h4,h⟩:=bind_some h
 obtain⟨e,h5,h⟩:=bind_some h
 obtain⟨f,h6,h⟩:=bind_some h
 obtain⟨_,h⟩:=jj h
 obtain⟨_,h⟩:=jj h
 cases h
 have:=qz h1;have:=MO h2;have:=nN h3;have:=zX h4;have:=Fx h5;have:=nN h6
 simp only;omega
theorem Ib:∀{n:Nat}{l:List Tok} {x},AF n l=some x->x.2.length<=l.length
 |0,_,_,h=>by cases h
 |n+1,l,x,h=>by
  obtain⟨a,h1,h⟩:=bind_some h;have:=nN h1
  split at h
  ·cases h;simp only;omega
  ·obtain⟨b,h2,h⟩:=bind_some h;obtain⟨c,h3,h⟩:=map_some h;subst h;have:=wJ h2;have:=Ib h3;simp only;omega
theorem yL:∀(n m:Nat) (l:List Tok),l.length<n->l.length<m->AF n l=AF m l
 |0,_,_,h,_=>by omega
 |_,0,_,_,h=>by omega
 |n+1,m+1,l,h1,h2=>by
  simp only[AF]
  cases e:kL 125 l with
  |none=>rfl
  |some x=>
   simp only[ak]
   split
   ·rfl
   ·have:=nN e
    cases e2:qy x.2 with
    |none=>rfl
    |some w=>
     have:=wJ e2;simp only[ak]
     rw[yL n m w.2 (by omega) (by omega)]
theorem Po(l:List Tok):PC l=(kL 125 l).bind λ x=>if x.1=true then some ([],x.2) else (qy x.2).bind λ c=>(PC c.2).map λ r=>(c.1::r.1,r.2):=by
 conv=>lhs;unfold PC;unfold AF
 cases e:kL 125 l with
 |none=>rfl
 |some x=>
  simp only[ak]
  split
  ·rfl
  ·have:=nN e
   cases e2:qy x.2 with
   |none=>rfl
   |some w=>
    have:=wJ e2;simp only[ak]
    rw[show PC w.2=AF l.length w.2 from yL _ _ _ (aD _) (by omega)]
theorem Di{l:List Tok}{x}(h:pState l=some x):x.2.length<l.length:=by
 obtain⟨a,h1,h⟩:=bind_some h
 obtain⟨_,h⟩:=jj h
 obtain⟨b,h2,h⟩:=bind_some h
 obtain⟨c,h3,h⟩:=bind_some h
 obtain⟨_,h⟩:=jj h
 obtain⟨d,h4,h⟩:=bind_some h
 obtain⟨_,h⟩:=jj h
 obtain⟨_,h⟩:=jj h
 cases h
 have:=qz h1;have:=qz h2;have:=nN h3;have:=Ib h4
 simp only;omega
theorem Dj:∀(n m:Nat) (l:List Tok),l.length<n->l.length<m->Ed n l=Ed m l
 |0,_,_,h,_=>by omega
 |_,0,_,_,h=>by omega
 |n+1,m+1,l,h1,h2=>by
  simp only[Ed]
  split
  ·rfl
  ·cases e2:pState l with
   |none=>rfl
   |some w=>
    have:=Di e2;simp only[ak]
    rw[Dj n m w.2 (by omega) (by omega)]
theorem MP(b:B):jq (oS b) Dh b:=by
 refine jq.bnd (nu (m:=45) (by decide) b) λ x _=>?_
 dsimp only
 show jq _ (λ l=>(number l).bind λ n=>if n.1<=1000 then some (if x.1=true then -(n.1:Int) else (n.1:Int),n.2) else none) _
 refine jq.bnd (AE x.2) λ n _=>?_
 dsimp only
 exact jq.guard λ _=>jq.pure _ _
theorem Ic(b:B):jq (m8 b) zJ b:=by
 refine jq.bnd (xr b) λ x _=>?_
 dsimp only
 refine jq.bnd (nu (m:=47) (by decide) x.2) λ y _=>?_
 dsimp only
 refine jq.bnd (jq.ite (λ _=>AE y.2) λ _=>jq.pure _ _) λ n _=>?_
 dsimp only
 exact jq.guard λ _=>jq.pure _ _
theorem qA{b:B}{x}(h:oS b=some x):x.2.length<b.length:=by
 obtain⟨x,h1,h⟩:=bind_some h
 cases h1
 obtain⟨n,h2,h⟩:=bind_some h
 obtain⟨_,h⟩:=jj h
 cases h
 have:=ju 45 b;have:=vM h2;simp only;omega
theorem kP{b:B}{x}(h:m8 b=some x):x.2.length<b.length:=by
 obtain⟨a,h1,h⟩:=bind_some h
 obtain⟨y,h2,h⟩:=bind_some h
 cases h2
 obtain⟨c,h3,h⟩:=bind_some h
 obtain⟨_,h⟩:=jj h
 cases h
 have:=kE h1;have:=ju 47 a.2
 split at h3
 ·have:=vM h3;simp only;omega
 ·cases h3;simp only;omega
theorem Fy:∀(n:Nat) (b:B),b.length<n->jq (mG n b) PM b
 |0,b,h=>by omega
 |n+1,b,h=>by
  refine jq.congr (p:=λ l=>_) ?_ λ l _=>(Ef l).symm
  refine jq.bnd (nu (m:=44) (by decide) b) λ x hx=>?_
  dsimp only;refine jq.ite (λ hf=>?_) λ _=>jq.pure _ _
  refine jq.bnd (Ic x.2) λ w hw=>?_
  dsimp only;have e:x=passes 44 b:=(aR hx).symm;have:=ju 44 b;have:=kP hw;rw[e] at this;exact (Fy n w.2 (by omega)).map (f:=λ r=>w.1::r)
theorem uw:∀{n:Nat}{b:B} {x},mG n b=some x->x.2.length<=b.length
 |0,_,_,h=>by cases h
 |n+1,b,x,h=>by
  simp only[mG,ak] at h
  have:=ju 44 b
  split at h
  ·obtain⟨w,h2,h⟩:=bind_some h;obtain⟨c,h3,h⟩:=map_some h;subst h;have:=kP h2;have:=uw h3;simp only;omega
  ·cases h;simp only;omega
theorem GY(b:B):jq (kO b) qy b:=by
 refine jq.bnd (xr b) λ x _=>?_
 dsimp only
 refine jq.bnd (MP x.2) λ g _=>?_
 dsimp only
 refine jq.bnd (nu (m:=58) (by decide) g.2) λ u _=>?_
 dsimp only
 refine jq.guard λ _=>?_
 refine jq.bnd (Ic u.2) λ w _=>?_
 dsimp only
 show jq _ (λ l=>(PM l).bind λ r=>(kL 59 r.2).bind λ v=>if v.1=true then if ((w.1::r.1).map λ w=>w.1).Nodup then some ((⟨x.1,g.1,w.1::r.1⟩:RawChoice),v.2) else none else none) _
 refine jq.bnd (Fy (w.2.length+1) w.2 (aD _)) λ r _=>?_
 dsimp only
 show jq _ (λ l=>(kL 59 l).bind λ v=>if v.1=true then if ((w.1::r.1).map λ w=>w.1).Nodup then some ((⟨x.1,g.1,w.1::r.1⟩:RawChoice),v.2) else none else none) _
 refine jq.bnd (nu (m:=59) (by decide) r.2) λ v _=>?_
 dsimp only
 exact jq.guard λ _=>jq.guard λ _=>jq.pure _ _
theorem lQ{b:B}{x}(h:kO b=some x):x.2.length<b.length:=by
 obtain⟨a,h1,h⟩:=bind_some h
 obtain⟨g,h2,h⟩:=bind_some h
 obtain⟨y,h3,h⟩:=bind_some h
 cases h3
 obtain⟨_,h⟩:=jj h
 obtain⟨w,h4,h⟩:=bind_some h
 obtain⟨r,h5,h⟩:=bind_some h
 obtain⟨y,h3,h⟩:=bind_some h
 cases h3
 obtain⟨_,h⟩:=jj h
 obtain⟨_,h⟩:=jj h
 cases h
 have:=kE h1;have:=qA h2;have:=ju 58 g.2;have:=kP h4;have:=uw h5;have:=ju 59 r.2
 simp only;omega
theorem Ie:∀(n:Nat) (b:B),b.length<n->jq (kC n b) PC b
 |0,b,h=>by omega
 |n+1,b,h=>by
  refine jq.congr (p:=λ l=>_) ?_ λ l _=>(Po l).symm
  refine jq.bnd (nu (m:=125) (by decide) b) λ x hx=>?_
  dsimp only;refine jq.ite (λ hf=>jq.pure _ _) λ _=>?_
  refine jq.bnd (GY x.2) λ w hw=>?_
  dsimp only;have e:x=passes 125 b:=(aR hx).symm;have:=ju 125 b;have:=lQ hw;rw[e] at this;exact (Ie n w.2 (by omega)).map (f:=λ r=>w.1::r)
theorem ux:∀{n:Nat}{b:B} {x},kC n b=some x->x.2.length<=b.length
 |0,_,_,h=>by cases h
 |n+1,b,x,h=>by
  simp only[kC,ak] at h
  have:=ju 125 b
  split at h
  ·cases h;simp only;omega
  ·obtain⟨w,h2,h⟩:=bind_some h;obtain⟨c,h3,h⟩:=map_some h;subst h;have:=lQ h2;have:=ux h3;simp only;omega
theorem J9(b:B):jq (readState b) pState b:=by
 refine jq.bnd (xr b) λ k _=>?_
 dsimp only
 refine jq.guard λ _=>?_
 refine jq.bnd (xr k.2) λ x _=>?_
 dsimp only
 refine jq.bnd (nu (m:=123) (by decide) x.2) λ u _=>?_
 dsimp only
 refine jq.guard λ _=>?_
 refine jq.bnd (Ie (u.2.length+1) u.2 (aD _)) λ c _=>?_
 dsimp only
 exact jq.guard λ _=>jq.guard λ _=>jq.pure _ _
theorem lY{b:B}{x}(h:readState b=some x):x.2.length<b.length:=by
 obtain⟨a,h1,h⟩:=bind_some h
 obtain⟨_,h⟩:=jj h
 obtain⟨g,h2,h⟩:=bind_some h
 obtain⟨y,h3,h⟩:=bind_some h
 cases h3
 obtain⟨_,h⟩:=jj h
 obtain⟨c,h4,h⟩:=bind_some h
 obtain⟨_,h⟩:=jj h
 obtain⟨_,h⟩:=jj h
 cases h
 have:=kE h1;have:=kE h2;have:=ju 123 g.2;have:=ux h4
 simp only;omega
theorem AH:∀(n:Nat) (b:B),b.length<n->lP n b=(lex b).bind λ l=>Ed (l.length+1) l
 |0,b,h=>by omega
 |n+1,b,h=>by
  have hs:=J9 (Rd.skip false b);have hl:=kD false b;simp only[lP]
  cases e:Rd.skip false b with
  |nil=>rw[if_pos rfl,zV e];rfl
  |cons c r=>
   rw[if_neg (by simp)];rw[e] at hs hl;have el:lex (c::r)=lex b:=by rw[<-e,n8]
   cases er:readState (c::r) with
   |none=>
    rw[er] at hs
    cases hb:lex b with
    |none=>rfl
    |some l=>
     have:=hs.1 l (el.trans hb);have hne:l.isEmpty=false:=by
      rcases rJ b c r e l hb with ⟨_,_,l',rfl,_⟩ | ⟨_,_,_,_,l',rfl,_⟩ | ⟨_,_,_,l',rfl,_⟩<;>rfl
     simp only[ak,Ed,hne]
     simp only at this
     rw[this];rfl
   |some x=>
    rw[er] at hs;have hx:=lY er;have ih:=AH n x.2 (by omega);simp only[ak]
    rw[ih]
    cases hb:lex b with
    |none=>
     have:=hs.2 (el.trans hb) x rfl;rw[this];rfl
    |some l=>
     obtain⟨l',h1,h2⟩:=hs.1 l (el.trans hb);have hne:l.isEmpty=false:=by
      rcases rJ b c r e l hb with ⟨_,_,l',rfl,_⟩ | ⟨_,_,_,_,l',rfl,_⟩ | ⟨_,_,_,l',rfl,_⟩<;>rfl
     have hlt:=Di h1;simp only[ak,Ed,hne,h2,h1]
     rw[Dj l.length (l'.length+1) l' (by simpa using hlt) (aD _)];rfl
end Rd
end
noncomputable section
namespace Rd
open Ra61
def Kc(w:B×Nat):Bool:=decide (1<=w.2)&&decide (w.2<=1000)
def Kd(c:RawChoice):Bool:=decide (-1000<=c.gain)&&(decide (c.gain<=1000)&&(once (c.ways.map λ w=>w.1)&&c.ways.all Kc))
def Lh(s:RawState):Bool:=once (s.choices.map λ c=>c.name)&&(decide (s.choices.length<=8)&&s.choices.all Kd)
def only'{α β:Type}(ok:α->Bool)(o:Option (α×β)):Option (α×β):=o.bind λ x=>if ok x.1=true then some x else none
theorem Pq(l:List Tok):zJ l=only' Kc (way l):=by
 unfold zJ way only'
 cases name l with
 |none=>rfl
 |some x=>
  simp only[ak,kL]
  by_cases h:x.2.head? = some (.sign 47)
  ·simp only[h,if_true]
   cases number (x.2.drop 1) with
   |none=>rfl
   |some n=>simp[Kc]
  ·simp[h,Kc]
theorem MQ(l:List Tok):Dh l=only' (λ g:Int=>decide (-1000<=g)&&decide (g<=1000)) (whole l):=by
 unfold Dh whole only'
 simp only[ak,kL]
 by_cases h:l.head? = some (.sign 45)
 ·simp only[h,if_true]
  cases number (l.drop 1) with
  |none=>rfl
  |some n=>
   simp only[ak,bE]
   by_cases hn:n.1<=1000
   ·rw[if_pos hn,if_pos (by simp;omega)]
   ·rw[if_neg hn,if_neg (by simp;omega)]
 ·simp only[h,if_false]
  cases number l with
  |none=>rfl
  |some n=>
   simp only[ak,bE]
   by_cases hn:n.1<=1000
   ·have hz:(decide (-1000<=(n.1:Int))&&decide ((n.1:Int)<=1000))=true:=by simp only[aQ,decide_eq_true_eq];omega
    rw[if_pos hn];simp only[hz,if_true,aI,if_false]
   ·rw[if_neg hn,if_neg (by simp only[aQ,decide_eq_true_eq];omega)]
def Ux(l:List Tok):Option (List (B×Nat)×List Tok):=(zJ l).bind λ w=>(PM w.2).bind λ r=>(kL 59 r.2).bind λ v=>if v.1=true then some (w.1::r.1,v.2) else none
theorem RV{l:List Tok}{x}(h:way l=some x):x.2.length<l.length:=by
 obtain⟨a,h1,h⟩:=bind_some h
 have:=qz h1
 split at h
 ·obtain⟨n,h2,h⟩:=map_some h
  subst h;have:=rK h2;simp at this ⊢;omega
 ·cases h;simpa using this
theorem MR:∀(n:Nat) (l:List Tok),l.length<=n->Ux l=only' (λ ws:List (B×Nat)=>ws.all Kc) (ways n l)
 |0,l,h=>by
  have:l=[]:=dh.mp (by omega);subst this;rfl
 |n+1,l,h=>by
  unfold Ux ways only';rw[Pq];unfold only'
  cases e:way l with
  |none=>rfl
  |some w=>
   have hw:=RV e;simp only[ak]
   by_cases hc:w.2.head? = some (.sign 44)
   ·rw[if_pos hc];have ih:=MR n (w.2.drop 1) (by simp;omega);unfold Ux only' at ih
    by_cases ho:Kc w.1=true
    ·rw[if_pos ho];simp only[ak]
     rw[Ef];simp only[kL,ak,hc,if_true]
     simp only[kL,ak] at ih
     cases e2:zJ (w.2.drop 1) with
     |none=>
      rw[e2] at ih;simp only[bI] at ih
      cases e3:ways n (w.2.drop 1) with
      |none=>rfl
      |some y=>
       rw[e3] at ih;simp only[ak] at ih
       simp only[bI,bE,ak,dM,ho,bY]
       split
       ·rename_i q;rw[if_pos q] at ih;cases ih
       ·rfl
     |some w'=>
      rw[e2] at ih;simp only[ak] at ih ⊢
      cases e4:PM w'.2 with
      |none=>
       rw[e4] at ih;simp only[bI] at ih
       cases e3:ways n (w.2.drop 1) with
       |none=>rfl
       |some y=>
        rw[e3] at ih;simp only[ak] at ih
        simp only[bI,Option.map_none,bE,ak,dM,ho,bY]
        split
        ·rename_i q;rw[if_pos q] at ih;cases ih
        ·rfl
      |some r=>
       rw[e4] at ih;simp only[ak] at ih
       simp only[bE,ak]
       cases e3:ways n (w.2.drop 1) with
       |none=>
        rw[e3] at ih;simp only[bI] at ih
        simp only[Option.map_none,bI]
        split
        ·rename_i q;rw[if_pos q] at ih;cases ih
        ·rfl
       |some y=>
        rw[e3] at ih;simp only[ak] at ih
        simp only[bE,ak,dM,ho,bY]
        by_cases q1:r.2.head? = some (.sign 59)
        ·simp only[q1,if_true] at ih ⊢
         by_cases q2:y.1.all Kc=true
         ·simp only[q2,if_true] at ih ⊢
          cases ih;rfl
         ·rw[if_neg q2] at ih;cases ih
        ·simp only[q1,if_false] at ih ⊢
         by_cases q2:y.1.all Kc=true
         ·simp only[q2,if_true] at ih;cases ih
         ·rw[if_neg q2];rfl
    ·rw[if_neg ho];simp only[bI]
     cases e3:ways n (w.2.drop 1) with
     |none=>rfl
     |some y=>simp[ho]
   ·rw[if_neg hc]
    by_cases ho:Kc w.1=true
    ·rw[if_pos ho];simp only[ak]
     rw[Ef];simp only[kL,ak,hc,if_false,sign]
     by_cases q1:w.2.head? = some (.sign 59)
     ·simp[q1,ho]
     ·simp[q1]
    ·rw[if_neg ho];simp only[bI,sign]
     by_cases q1:w.2.head? = some (.sign 59)
     ·simp[q1,ho]
     ·simp[q1]
theorem GZ(l:List Tok):qy l=(name l).bind λ x=>(Dh x.2).bind λ g=>(kL 58 g.2).bind λ u=>if u.1=true then (Ux u.2).bind λ w=>if (w.1.map λ w=>w.1).Nodup then some (⟨x.1,g.1,w.1⟩,w.2) else none else none:=by
 unfold qy Ux
 congr 1;funext x;congr 1;funext g;congr 1;funext u
 split
 ·cases zJ u.2 with
  |none=>rfl
  |some w=>
   simp only[ak]
   cases PM w.2 with
   |none=>rfl
   |some r=>
    simp only[ak,kL]
    by_cases q:r.2.head? = some (.sign 59)
    ·simp only[q,if_true,ak]
    ·simp only[q,if_false,aI,bI]
 ·rfl
theorem MT{l:List Tok}{x}(h:whole l=some x):x.2.length<l.length:=by
 unfold whole at h
 split at h
 ·obtain⟨n,h2,h⟩:=map_some h
  subst h;have:=rK h2;simp at this ⊢;omega
 ·obtain⟨n,h2,h⟩:=map_some h
  subst h;have:=rK h2;simpa using this
theorem Ig:∀(n:Nat) (l:List Tok),AF n l=only' (λ cs:List RawChoice=>cs.all Kd) (choices n l)
 |0,l=>rfl
 |n+1,l=>by
  unfold AF choices;simp only[kL,ak]
  by_cases h:l.head? = some (.sign 125)
  ·simp[h,only']
  ·simp only[h,if_false,aI]
   rw[GZ]
   cases e1:name l with
   |none=>rfl
   |some x=>
    simp only[ak]
    rw[MQ]
    cases e2:whole x.2 with
    |none=>rfl
    |some g=>
     have hl1:=qz e1;have hl2:=MT e2;simp only[ak,only',sign,kL]
     by_cases a1:(decide (-1000<=g.1)&&decide (g.1<=1000))=true
     ·rw[if_pos a1];simp only[ak]
      by_cases q:g.2.head? = some (.sign 58)
      ·simp only[q,if_true,ak]
       rw[MR l.length (g.2.drop 1) (by simp;omega)]
       cases e3:ways l.length (g.2.drop 1) with
       |none=>rfl
       |some w=>
        simp only[ak,only']
        by_cases a2:w.1.all Kc=true
        ·rw[if_pos a2];simp only[ak]
         by_cases a3:(w.1.map λ w=>w.1).Nodup
         ·rw[if_pos a3];simp only[ak]
          have hok:Kd ⟨x.1,g.1,w.1⟩=true:=by
           simp only[aQ] at a1
           simp only[Kd,once,a1.1,a1.2,a2,a3,decide_true,gH]
          rw[Ig n]
          cases e4:choices n w.2 with
          |none=>rfl
          |some r=>
           simp only[bE,ak,dM,hok,bY,only']
           split<;>rfl
         ·rw[if_neg a3];have hok:Kd ⟨x.1,g.1,w.1⟩=false:=by simp[Kd,once,a3]
          cases choices n w.2<;>simp[hok]
        ·rw[if_neg a2];have hok:Kd ⟨x.1,g.1,w.1⟩=false:=by
          have:w.1.all Kc=false:=by simpa using a2
          simp[Kd,this]
         cases choices n w.2<;>simp[hok]
      ·simp only[q,if_false,aI,bI]
     ·rw[if_neg a1];simp only[bI]
      have hok:∀ws,Kd ⟨x.1,g.1,ws⟩=false:=λ ws=>by
       have a1':(decide (-1000<=g.1)&&decide (g.1<=1000))=false:=by simpa only[gJ] using a1
       show (decide (-1000<=g.1)&&(decide (g.1<=1000)&&_))=false;rw[<-Bool.and_assoc,a1',Bool.false_and]
      by_cases q:g.2.head? = some (.sign 58)
      ·simp only[q,if_true,ak]
       cases ways l.length (g.2.drop 1) with
       |none=>rfl
       |some w=>cases e5:choices n w.2<;>simp[hok,e5]
      ·simp[q]
theorem G0(l:List Tok):word "state" l=(name l).bind λ k=>if k.1=[115,116,97,116,101] then some ((),k.2) else none:=by
 have e:ascii "state" = [115,116,97,116,101]:=by decide +kernel
 unfold word
 rw[e]
 cases l with
 |nil=>rfl
 |cons t r=>
  cases t with
  |name x=>by_cases h:x=[115,116,97,116,101]<;>simp[name,h]
  |num n=>simp[name]
  |sign c=>simp[name]
theorem Ih:∀(n:Nat) (l:List Tok),Ed n l=(states n l).bind λ x=>if x.all Lh=true then some x else none
 |0,l=>rfl
 |n+1,l=>by
  unfold Ed states
  by_cases h:l.isEmpty=true
  ·simp[h]
  ·simp only[h,if_false,aI]
   rw[G0];unfold pState
   cases e1:name l with
   |none=>rfl
   |some k=>
    simp only[ak]
    by_cases hk:k.1=[115,116,97,116,101]
    ·simp only[hk,if_true,ak]
     cases e2:name k.2 with
     |none=>rfl
     |some x=>
      simp only[ak,kL,sign]
      by_cases q:x.2.head? = some (.sign 123)
      ·simp only[q,if_true,ak]
       have a1:=qz e1;have a2:=qz e2;rw[show PC (x.2.drop 1)=AF l.length (x.2.drop 1) from yL _ _ _ (aD _) (by simp;omega),Ig]
       cases e3:choices l.length (x.2.drop 1) with
       |none=>rfl
       |some c=>
        simp only[only',ak]
        by_cases b1:c.1.all Kd=true
        ·rw[if_pos b1];simp only[ak]
         by_cases b2:c.1.length<=8
         ·rw[if_pos b2]
          by_cases b3:(c.1.map λ c=>c.name).Nodup
          ·rw[if_pos b3];simp only[ak]
           have hok:Lh ⟨x.1,c.1⟩=true:=by simp only[Lh,once,b1,b2,b3,decide_true,gH]
           rw[Ih n]
           cases e4:states n c.2 with
           |none=>rfl
           |some r=>
            simp only[bE,ak,dM,hok,bY]
            split<;>rfl
          ·rw[if_neg b3];have hok:Lh ⟨x.1,c.1⟩=false:=by simp[Lh,once,b3]
           cases states n c.2<;>simp[hok]
         ·rw[if_neg b2];have hok:Lh ⟨x.1,c.1⟩=false:=by simp[Lh,b2]
          cases states n c.2<;>simp[hok]
        ·rw[if_neg b1];have hok:Lh ⟨x.1,c.1⟩=false:=by
          have:c.1.all Kd=false:=by simpa using b1
          simp[Lh,this]
         cases states n c.2<;>simp[hok]
      ·simp[q]
    ·simp[hk]
theorem MU(b:B):net b=ku b:=by
 unfold net ku
 rw[AH _ b (aD _)]
 show ((lex b).bind λ l=>states (l.length+1) l).bind _=_
 cases lex b with
 |none=>rfl
 |some l=>
  simp only[ak]
  rw[Ih]
  cases states (l.length+1) l with
  |none=>rfl
  |some raw=>
   simp only[ak]
   by_cases hs:raw.all Lh=true
   ·simp only[hs,if_true,ak]
    have hall:(raw.all λ s=>once (s.choices.map λ c=>c.name)&&(decide (s.choices.length<=CHOICES)&&s.choices.all λ c=>decide (-GAIN<=c.gain)&&(decide (c.gain<=GAIN) &&
      (once (c.ways.map λ w=>w.1)&&c.ways.all λ w=>(raw.map λ s=>s.name).contains w.1&&(decide (1<=w.2)&&decide (w.2<=WEIGHT))))))=(raw.all λ s=>s.choices.all λ c=>c.ways.all λ w=>(raw.map λ s=>s.name).contains w.1):=by
     rw[aS];simp only[aY,Lh,Kd,Kc,aQ] at hs ⊢
     constructor
     ·intro h s hm c hc w hw;exact (((h s hm).2.2 c hc).2.2.2 w hw).1
     ·intro h s hm;obtain⟨k1,k2,k3⟩:=hs s hm;refine⟨k1,k2,λ c hc=>?_⟩;obtain⟨j1,j2,j3,j4⟩:=k3 c hc;exact⟨j1,j2,j3,λ w hw=>⟨h s hm c hc w hw,j4 w hw⟩⟩
    rw[hall]
    by_cases c1:1<=raw.length/\raw.length<=16
    ·by_cases c2:(raw.map λ s=>s.name).Nodup
     ·by_cases c3:(raw.all λ s=>s.choices.all λ c=>c.ways.all λ w=>(raw.map λ s=>s.name).contains w.1)=true
      ·rw[if_pos (by simp only[once,c2,c1.1,c3,decide_true,bY];rw[Bool.and_true];exact decide_eq_true c1.2),if_pos c1,if_pos c2,if_pos c3];rfl
      ·rw[if_neg (by simp only[aQ];exact λ z=>c3 z.2.2.2),if_pos c1,if_pos c2,if_neg c3]
     ·rw[if_neg (by simp only[aQ,once,decide_eq_true_eq];exact λ z=>c2 z.1),if_pos c1,if_neg c2]
    ·rw[if_neg (by simp only[aQ,decide_eq_true_eq];exact λ z=>c1 ⟨z.2.1,z.2.2.1⟩),if_neg c1]
   ·simp only[hs,if_false,bI,aI]
    rw[if_neg];intro z;apply hs
    simp only[aQ] at z
    have z:=z.2.2.2;simp only[aY,Lh,Kd,Kc,aQ] at z ⊢
    intro s hm;obtain⟨k1,k2,k3⟩:=z s hm;refine⟨k1,k2,λ c hc=>?_⟩;obtain⟨j1,j2,j3,j4⟩:=k3 c hc;exact⟨j1,j2,j3,λ w hw=>(j4 w hw).2⟩
end Rd
end
noncomputable section
namespace Rd
open Ra61
theorem vN:∀(n m:Nat) (b:B),b.length<n->b.length<m->mG n b=mG m b
 |0,_,_,h,_=>by omega
 |_,0,_,_,h=>by omega
 |n+1,m+1,b,h1,h2=>by
  simp only[mG,ak]
  split
  ·rename_i hx
   cases e2:m8 (passes 44 b).2 with
   |none=>rfl
   |some w=>
    have:=ju 44 b;have:=kP e2;simp only[ak]
    rw[vN n m w.2 (by omega) (by omega)]
  ·rfl
def MW(b:B):=mG (b.length+1) b
theorem xu(b:B):MW b=if (passes 44 b).1=true then (m8 (passes 44 b).2).bind λ w=>(MW w.2).map λ r=>(w.1::r.1,r.2) else some ([],(passes 44 b).2):=by
 conv=>lhs;unfold MW;unfold mG
 rw[ak]
 split
 ·cases e2:m8 (passes 44 b).2 with
  |none=>rfl
  |some w=>
   have:=ju 44 b;have:=kP e2;simp only[ak]
   rw[show MW w.2=mG b.length w.2 from vN _ _ _ (aD _) (by omega)]
 ·rfl
theorem rL:∀(n m:Nat) (b:B),b.length<n->b.length<m->kC n b=kC m b
 |0,_,_,h,_=>by omega
 |_,0,_,_,h=>by omega
 |n+1,m+1,b,h1,h2=>by
  simp only[kC,ak]
  split
  ·rfl
  ·cases e2:kO (passes 125 b).2 with
   |none=>rfl
   |some w=>
    have:=ju 125 b;have:=lQ e2;simp only[ak]
    rw[rL n m w.2 (by omega) (by omega)]
def MC(b:B):=kC (b.length+1) b
theorem xw(b:B):MC b=if (passes 125 b).1=true then some ([],(passes 125 b).2) else (kO (passes 125 b).2).bind λ c=>(MC c.2).map λ r=>(c.1::r.1,r.2):=by
 conv=>lhs;unfold MC;unfold kC
 rw[ak]
 split
 ·rfl
 ·cases e2:kO (passes 125 b).2 with
  |none=>rfl
  |some w=>
   have:=ju 125 b;have:=lQ e2;simp only[ak]
   rw[show MC w.2=kC b.length w.2 from rL _ _ _ (aD _) (by omega)]
theorem tN:∀(n m:Nat) (b:B),b.length<n->b.length<m->lP n b=lP m b
 |0,_,_,h,_=>by omega
 |_,0,_,_,h=>by omega
 |n+1,m+1,b,h1,h2=>by
  simp only[lP]
  split
  ·rfl
  ·cases e2:readState (Rd.skip false b) with
   |none=>rfl
   |some w=>
    have:=kD false b;have:=lY e2;simp only[ak]
    rw[tN n m w.2 (by omega) (by omega)]
def MS(b:B):=lP (b.length+1) b
theorem xx(b:B):MS b=if Rd.skip false b=[] then some [] else (readState (Rd.skip false b)).bind λ s=>(MS s.2).map λ r=>s.1::r:=by
 conv=>lhs;unfold MS;unfold lP
 split
 ·rfl
 ·cases e2:readState (Rd.skip false b) with
  |none=>rfl
  |some w=>
   have:=kD false b;have:=lY e2;simp only[ak]
   rw[show MS w.2=lP b.length w.2 from tN _ _ _ (aD _) (by omega)]
theorem mV(b:B):kO b=(jP b).bind λ x=>(oS x.2).bind λ g=>if (passes 58 g.2).1=true then (m8 (passes 58 g.2).2).bind λ w=>(MW w.2).bind λ r=>
   if (passes 59 r.2).1=true then if ((w.1::r.1).map λ w=>w.1).Nodup then some (⟨x.1,g.1,w.1::r.1⟩,(passes 59 r.2).2) else none else none else none:=rfl
theorem nO(b:B):readState b=(jP b).bind λ k=>if k.1=[115,116,97,116,101] then (jP k.2).bind λ x=>if (passes 123 x.2).1=true then (MC (passes 123 x.2).2).bind λ c=>
   if c.1.length<=8 then if (c.1.map λ c=>c.name).Nodup then some (⟨x.1,c.1⟩,c.2) else none else none else none else none:=rfl
theorem qP(b:B):ku b=(MS b).bind λ raw=>if 1<=raw.length/\raw.length<=16 then (if (raw.map λ s=>s.name).Nodup then (if raw.all λ s=>s.choices.all λ c=>c.ways.all λ w=>(raw.map λ s=>s.name).contains w.1 then some (placed raw) else none) else none) else none:=rfl
theorem MV:∀(n:Nat) (b:B),b.length<n->∀r,MW b=some r->2*r.1.length+r.2.length<=b.length
 |0,b,h,_,_=>by omega
 |n+1,b,h,r,e=>by
  rw[xu] at e;have hp:=ju 44 b
  split at e
  ·rename_i hx
   have hl:=vn (m:=44) (by decide) hx;obtain⟨w,e1,e⟩:=bind_some e;obtain⟨z,e2,rfl⟩:=map_some e;have:=kP e1;have:=MV n w.2 (by omega) z e2;simp only[aJ];omega
  ·cases e;simp;omega
end Rd
end
noncomputable section
namespace Ck
open PySem PySem.Spec PyProof.Rows L2
def top(i:Nat):Stmt:=dB.main.body.getD i (.Pass ⟨0,0,0,0⟩)
abbrev AI:Stmt:=top 24
abbrev wK:Stmt:=top 25
abbrev uy:Stmt:=top 26
abbrev pZ:Stmt:=top 27
abbrev sR:Stmt:=top 28
abbrev uz:Stmt:=top 30
abbrev wL:Stmt:=top 31
abbrev qQ:Stmt:=top 33
abbrev sS:Stmt:=top 35
abbrev n9:Stmt:=top 36
abbrev qR:Stmt:=top 37
abbrev p5:Stmt:=top 51
abbrev sU:Stmt:=top 52
abbrev ny:Stmt:=top 53
abbrev xy:Stmt:=top 54
abbrev oh:Stmt:=top 55
abbrev uA:Stmt:=top 56
abbrev m9:Stmt:=top 57
abbrev G1:Stmt:=top 58
abbrev yM:Stmt:=top 60
abbrev Eg:Stmt:=top 61
abbrev sV:Stmt:=top 63
abbrev qS:Stmt:=top 64
abbrev p6:Stmt:=top 65
abbrev sW:Stmt:=top 66
abbrev p7:Stmt:=top 67
abbrev o9:Stmt:=top 68
abbrev sX:Stmt:=top 69
abbrev xA:Stmt:=top 70
abbrev qT:Stmt:=inClass (top 29) 0
abbrev qU:Stmt:=inClass (top 29) 1
abbrev mH:Stmt:=inClass (top 29) 2
abbrev mJ:Stmt:=inClass (top 29) 3
abbrev ph:Stmt:=inClass (top 29) 4
abbrev pA:Stmt:=inClass (top 29) 5
abbrev nA:Stmt:=inClass (top 29) 6
abbrev mK:Stmt:=inClass (top 29) 7
abbrev qV:Stmt:=inClass (top 32) 0
abbrev sY:Stmt:=inClass (top 34) 0
abbrev qW:Stmt:=inClass (top 59) 0
abbrev nP:Stmt:=inClass (top 59) 1
abbrev qX:Stmt:=inClass (top 59) 2
abbrev sZ:Stmt:=inClass (top 62) 0
abbrev oj:Stmt:=inClass (top 62) 1
abbrev p8:Stmt:=inClass (top 62) 2
abbrev nQ:Stmt:=inClass (top 62) 3
abbrev om:Stmt:=inClass (top 62) 4
abbrev oq:Stmt:=inClass (top 62) 5
theorem Ke:jo ["holds"] ["holds"] (ji AI):=⟨rfl,rfl,rfl,by decide +kernel,rfl,by decide +kernel,by decide +kernel⟩
theorem Fz:jo ["byte"] ["byte"] (ji wK):=⟨rfl,rfl,rfl,by decide +kernel,rfl,by decide +kernel,by decide +kernel⟩
theorem Eh:jo ["byte"] ["byte"] (ji uy):=⟨rfl,rfl,rfl,by decide +kernel,rfl,by decide +kernel,by decide +kernel⟩
theorem zK:jo ["byte"] ["byte"] (ji pZ):=⟨rfl,rfl,rfl,by decide +kernel,rfl,by decide +kernel,by decide +kernel⟩
theorem Cr:jo ["names"] ["names"] (ji sR):=⟨rfl,rfl,rfl,by decide +kernel,rfl,by decide +kernel,by decide +kernel⟩
theorem tu:jo ["reader","below","number"] ["reader"] (ji uz):=⟨rfl,rfl,rfl,by decide +kernel,rfl,by decide +kernel,by decide +kernel⟩
theorem qB:jo ["reader","name","weight"] ["reader"] (ji wL):=⟨rfl,rfl,rfl,by decide +kernel,rfl,by decide +kernel,by decide +kernel⟩
theorem kF:jo ["reader","name","gain","ways","way"] ["reader"] (ji qQ):=⟨rfl,rfl,rfl,by decide +kernel,rfl,by decide +kernel,by decide +kernel⟩
theorem mW:jo ["reader","name","choices","choice"] ["reader"] (ji sS):=⟨rfl,rfl,rfl,by decide +kernel,rfl,by decide +kernel,by decide +kernel⟩
theorem lI:jo ["ways","names","way"] ["ways","names"] (ji n9):=⟨rfl,rfl,rfl,by decide +kernel,rfl,by decide +kernel,by decide +kernel⟩
theorem kG:jo ["text","reader","states","names","state","choice"] ["text"] (ji qR):=⟨rfl,rfl,rfl,by decide +kernel,rfl,by decide +kernel,by decide +kernel⟩
theorem zL:jo ["number","least","greatest"] ["number","least","greatest"] (ji p5):=⟨rfl,rfl,rfl,by decide +kernel,rfl,by decide +kernel,by decide +kernel⟩
theorem Cs:jo ["text","room"] ["text","room"] (ji sU):=⟨rfl,rfl,rfl,by decide +kernel,rfl,by decide +kernel,by decide +kernel⟩
theorem pI:jo ["text","room","goals","states"] ["text","room","goals"] (ji ny):=⟨rfl,rfl,rfl,by decide +kernel,rfl,by decide +kernel,by decide +kernel⟩
theorem Kf:jo ["work"] ["work"] (ji xy):=⟨rfl,rfl,rfl,by decide +kernel,rfl,by decide +kernel,by decide +kernel⟩
theorem mz:jo ["number","other","rest"] ["number","other"] (ji oh):=⟨rfl,rfl,rfl,by decide +kernel,rfl,by decide +kernel,by decide +kernel⟩
theorem tw:jo ["number","digits"] ["number"] (ji uA):=⟨rfl,rfl,rfl,by decide +kernel,rfl,by decide +kernel,by decide +kernel⟩
theorem mR:jo ["top","bottom","divisor","told"] ["top","bottom"] (ji m9):=⟨rfl,rfl,rfl,by decide +kernel,rfl,by decide +kernel,by decide +kernel⟩
theorem Ei:jo ["states","words","room","told","state","word"] ["states","words","room"] (ji G1):=⟨rfl,rfl,rfl,by decide +kernel,rfl,by decide +kernel,by decide +kernel⟩
theorem p9:jo ["row","pivot_row","turn","pivot_before","pivot","factor","number","other"] ["row","pivot_row","turn","pivot_before"] (ji yM):=⟨rfl,rfl,rfl,by decide +kernel,rfl,by decide +kernel,by decide +kernel⟩
theorem mX:jo ["rows","pivot","turn","pivot_row","place","row"] ["rows"] (ji Eg):=⟨rfl,rfl,rfl,by decide +kernel,rfl,by decide +kernel,by decide +kernel⟩
theorem qY:jo ["goals","states","place"] ["goals","states"] (ji sV):=⟨rfl,rfl,rfl,by decide +kernel,rfl,by decide +kernel,by decide +kernel⟩
theorem qb:jo ["choices","times","choice"] ["choices","times"] (ji qS):=⟨rfl,rfl,rfl,by decide +kernel,rfl,by decide +kernel,by decide +kernel⟩
theorem pB:jo ["marks","states","times","mark","state"] ["marks","states","times"] (ji p6):=⟨rfl,rfl,rfl,by decide +kernel,rfl,by decide +kernel,by decide +kernel⟩
theorem qZ:jo ["choice","marks","way"] ["choice","marks"] (ji sW):=⟨rfl,rfl,rfl,by decide +kernel,rfl,by decide +kernel,by decide +kernel⟩
theorem kg:jo ["options","ending","choices","turn","place","choice"] ["options"] (ji p7):=⟨rfl,rfl,rfl,by decide +kernel,rfl,by decide +kernel,by decide +kernel⟩
theorem ou:jo ["marks","options","mark","choices"] ["marks","options"] (ji o9):=⟨rfl,rfl,rfl,by decide +kernel,rfl,by decide +kernel,by decide +kernel⟩
theorem jZ:jo ["goals","room","text","states","marks","options","quest","mark","values","state"] ["goals","room","text"] (ji sX):=⟨rfl,rfl,rfl,by decide +kernel,rfl,by decide +kernel,by decide +kernel⟩
theorem MX:jo ["goals","room","text"] ["goals","room","text"] (ji xA):=⟨rfl,rfl,rfl,by decide +kernel,rfl,by decide +kernel,by decide +kernel⟩
theorem AJ:jo ["self","text"] ["self","text"] (ji qT):=⟨rfl,rfl,rfl,by decide +kernel,rfl,by decide +kernel,by decide +kernel⟩
theorem AK:jo ["self"] ["self"] (ji qU):=⟨rfl,rfl,rfl,by decide +kernel,rfl,by decide +kernel,by decide +kernel⟩
theorem t8:jo ["self"] ["self"] (ji mH):=⟨rfl,rfl,rfl,by decide +kernel,rfl,by decide +kernel,by decide +kernel⟩
theorem t9:jo ["self"] ["self"] (ji mJ):=⟨rfl,rfl,rfl,by decide +kernel,rfl,by decide +kernel,by decide +kernel⟩
theorem yN:jo ["self"] ["self"] (ji ph):=⟨rfl,rfl,rfl,by decide +kernel,rfl,by decide +kernel,by decide +kernel⟩
theorem yO:jo ["self","mark"] ["self","mark"] (ji pA):=⟨rfl,rfl,rfl,by decide +kernel,rfl,by decide +kernel,by decide +kernel⟩
theorem pJ:jo ["self","start"] ["self"] (ji nA):=⟨rfl,rfl,rfl,by decide +kernel,rfl,by decide +kernel,by decide +kernel⟩
theorem ko:jo ["self","start","number","byte"] ["self"] (ji mK):=⟨rfl,rfl,rfl,by decide +kernel,rfl,by decide +kernel,by decide +kernel⟩
theorem AL:jo ["self","name","gain","ways","total"] ["self","name","gain","ways","total"] (ji qV):=⟨rfl,rfl,rfl,by decide +kernel,rfl,by decide +kernel,by decide +kernel⟩
theorem Ct:jo ["self","name","choices"] ["self","name","choices"] (ji sY):=⟨rfl,rfl,rfl,by decide +kernel,rfl,by decide +kernel,by decide +kernel⟩
theorem AM:jo ["self","tops","bottom"] ["self","tops","bottom"] (ji qW):=⟨rfl,rfl,rfl,by decide +kernel,rfl,by decide +kernel,by decide +kernel⟩
theorem nB:jo ["self","top"] ["self"] (ji nP):=⟨rfl,rfl,rfl,by decide +kernel,rfl,by decide +kernel,by decide +kernel⟩
theorem qc:jo ["self","top"] ["self"] (ji qX):=⟨rfl,rfl,rfl,by decide +kernel,rfl,by decide +kernel,by decide +kernel⟩
theorem Cu:jo ["self","options","ends"] ["self","options","ends"] (ji sZ):=⟨rfl,rfl,rfl,by decide +kernel,rfl,by decide +kernel,by decide +kernel⟩
theorem mC:jo ["self","plan","place","row","choice","way"] ["self","plan","place"] (ji oj):=⟨rfl,rfl,rfl,by decide +kernel,rfl,by decide +kernel,by decide +kernel⟩
theorem nc:jo ["self","choice","values","ahead","way"] ["self","choice","values"] (ji p8):=⟨rfl,rfl,rfl,by decide +kernel,rfl,by decide +kernel,by decide +kernel⟩
theorem wM:jo ["self","choice","other","values"] ["self","choice","other","values"] (ji nQ):=⟨rfl,rfl,rfl,by decide +kernel,rfl,by decide +kernel,by decide +kernel⟩
theorem mD:jo ["self","plan","values","better","place","choices","number","choice"] ["self","plan","values"] (ji om):=⟨rfl,rfl,rfl,by decide +kernel,rfl,by decide +kernel,by decide +kernel⟩
theorem kM:jo ["self","plan","values","place","better"] ["self","plan"] (ji oq):=⟨rfl,rfl,rfl,by decide +kernel,rfl,by decide +kernel,by decide +kernel⟩
structure ng where
 (FA:Addr) (Dk:FuncData)
 (AN:Addr) (zg:FuncData)
 (zh:Addr) (xB:FuncData)
 (uB:Addr) (tO:FuncData)
 (xC:Addr) (vO:FuncData)
 (zj:Addr) (xD:FuncData)
 (AO:Addr) (zk:FuncData)
 (vP:Addr) (uC:FuncData)
 (xE:Addr) (vQ:FuncData)
 (rM:Addr) (qC:FuncData)
 (vR:Addr) (uD:FuncData)
 (uE:Addr) (tP:FuncData)
 (xF:Addr) (vS:FuncData)
 (qd:Addr) (pK:FuncData)
 (AQ:Addr) (Kg:FuncData)
 (rN:Addr) (qD:FuncData)
 (zl:Addr) (xG:FuncData)
 (pC:Addr) (rO:FuncData)
 (MY:Addr) (Ii:FuncData)
 (Dl:Addr) (AR:FuncData)
 (Il:Addr) (FE:FuncData)
 (xH:Addr) (vU:FuncData)
 (vV:Addr) (uF:FuncData)
 (uG:Addr) (tQ:FuncData)
 (xJ:Addr) (vW:FuncData)
 (uH:Addr) (tR:FuncData)
 (tS:Addr) (rP:FuncData)
 (xK:Addr) (vX:FuncData)
 (vo:Addr) (MZ:FuncData)
 (vY:Addr) (uI:FuncData)
 (vZ:Addr) (uJ:FuncData)
 (oW:Addr) (nW:FuncData)
 (oX:Addr) (nX:FuncData)
 (tU:Addr) (rQ:FuncData)
 (tV:Addr) (rR:FuncData)
 (qe:Addr) (pL:FuncData)
 (oY:Addr) (nY:FuncData)
 (v8:Addr) (uK:FuncData)
 (xM:Addr) (v9:FuncData)
 (wc:Addr) (uL:FuncData)
 (qE:Addr) (qf:FuncData)
 (we:Addr) (uM:FuncData)
 (xN:Addr) (wg:FuncData)
 (rS:Addr) (qF:FuncData)
 (uN:Addr) (tW:FuncData)
 (qG:Addr) (qg:FuncData)
 (rT:Addr) (qH:FuncData)
 (rV:Addr) (qI:FuncData)
 (j5 jU nj mL lJ jr jE jF j6 lK pN:Addr)
structure Txt(K:aj)(mg:Str->Option Value)(t:ng):Prop where
 mO:wH K mg "demand" "demand" AI ["holds"] t.FA t.Dk
 AS:wH K mg "is_digit" "is_digit" wK ["byte"] t.AN t.zg
 yP:wH K mg "is_letter" "is_letter" uy ["byte"] t.zh t.xB
 xO:wH K mg "is_name_byte" "is_name_byte" pZ ["byte"] t.uB t.tO
 tE:wH K mg "all_differ" "all_differ" sR ["names"] t.xC t.vO
 Dm:wH K mg "read_gain" "read_gain" uz ["reader"] t.zj t.xD
 AU:wH K mg "read_way" "read_way" wL ["reader"] t.AO t.zk
 zm:wH K mg "read_choice" "read_choice" qQ ["reader"] t.vP t.uC
 AV:wH K mg "read_state" "read_state" sS ["reader"] t.xE t.vQ
 uO:wH K mg "ways_to_places" "ways_to_places" n9 ["ways","names"] t.rM t.qC
 zo:wH K mg "read_states" "read_states" qR ["text"] t.vR t.uD
 pO:wH K mg "demand_range" "demand_range" p5 ["number","least","greatest"] t.uE t.tP
 AW:wH K mg "read_given" "read_given" sU ["text","room"] t.xF t.vS
 rW:wH K mg "read_given_goals" "read_given_goals" ny ["text","room","goals"] t.qd t.pK
 answer:wH K mg "answer" "answer" xy ["work"] t.AQ t.Kg
 uP:wH K mg "common_divisor" "common_divisor" oh ["number","other"] t.rN t.qD
 digits_of:wH K mg "digits_of" "digits_of" uA ["number"] t.zl t.xG
 wo:wH K mg "fraction_told" "fraction_told" m9 ["top","bottom"] t.pC t.rO
 tell:wH K mg "tell" "tell" G1 ["states","words","room"] t.MY t.Ii
 cleared:wH K mg "cleared" "cleared" yM ["row","pivot_row","turn","pivot_before"] t.Dl t.AR
 QJ:wH K mg "solve" "solve" Eg ["rows"] t.Il t.FE
 AX:wH K mg "goal_marks" "goal_marks" sV ["goals","states"] t.xH t.vU
 zp:wH K mg "gains_taken" "gains_taken" qS ["choices","times"] t.vV t.uF
 xP:wH K mg "options_till" "options_till" p6 ["marks","states","times"] t.uG t.tQ
 AY:wH K mg "leads_into" "leads_into" sW ["choice","marks"] t.xJ t.vW
 xQ:wH K mg "marks_ending" "marks_ending" p7 ["options"] t.uH t.tR
 wu:wH K mg "options_where" "options_where" o9 ["marks","options"] t.tS t.rP
 AZ:wH K mg "tell_worst" "tell_worst" sX ["goals","room","text"] t.xK t.vX
 worst:wH K mg "worst" "worst" xA ["goals","room","text"] t.vo t.MZ
 zq:Met K "__init__" "Reader.__init__" qT ["self","text"] t.j5 t.vY t.uI
 kH:Met K "here" "Reader.here" qU ["self"] t.j5 t.vZ t.uJ
 qh:Met K "skip_remark" "Reader.skip_remark" mH ["self"] t.j5 t.oW t.nW
 lC:Met K "skip_blanks" "Reader.skip_blanks" mJ ["self"] t.j5 t.oX t.nX
 wz:Met K "at_end" "Reader.at_end" ph ["self"] t.j5 t.tU t.rQ
 kZ:Met K "passes" "Reader.passes" pA ["self","mark"] t.j5 t.tV t.rR
 lW:Met K "take_name" "Reader.take_name" nA ["self"] t.j5 t.qe t.pL
 nD:Met K "take_number" "Reader.take_number" mK ["self"] t.j5 t.oY t.nY
 uQ:Met K "__init__" "Choice.__init__" qV ["self","name","gain","ways","total"] t.jU t.v8 t.uK
 A0:Met K "__init__" "State.__init__" sY ["self","name","choices"] t.nj t.xM t.v9
 uR:Met K "__init__" "Values.__init__" qW ["self","tops","bottom"] t.mL t.wc t.uL
 tX:Met K "negative" "Values.negative" nP ["self"] t.mL t.qE t.qf
 zu:Met K "told" "Values.told" qX ["self"] t.mL t.we t.uM
 A2:Met K "__init__" "Quest.__init__" sZ ["self","options","ends"] t.lJ t.xN t.wg
 uT:Met K "equation" "Quest.equation" oj ["self","plan","place"] t.lJ t.rS t.qF
 tF:Met K "top_by" "Quest.top_by" p8 ["self","choice","values"] t.lJ t.uN t.tW
 tY:Met K "is_better" "Quest.is_better" nQ ["self","choice","other","values"] t.lJ t.qG t.qg
 uU:Met K "improved" "Quest.improved" om ["self","plan","values"] t.lJ t.rT t.qH
 uV:Met K "greatest" "Quest.greatest" oq ["self","plan"] t.lJ t.rV t.qI
 jm:QG K mg "Reader" t.j5
 mY:lV K t.j5 "text"
 jy:lV K t.j5 "place"
 jN:QG K mg "Choice" t.jU
 rj:lV K t.jU "name"
 oH:lV K t.jU "gain"
 lR:lV K t.jU "ways"
 lD:lV K t.jU "total"
 tG:QG K mg "State" t.nj
 tH:lV K t.nj "name"
 pD:lV K t.nj "choices"
 mj:QG K mg "Values" t.mL
 oJ:lV K t.mL "tops"
 nk:lV K t.mL "bottom"
 mS:QG K mg "Quest" t.lJ
 nq:lV K t.lJ "options"
 xR:lV K t.lJ "ends"
 xS:Exc K mg "NoSuchText" t.jr
 xT:Exc K mg "OutOfRange" t.jE
 xU:Exc K mg "NoSuchGoal" t.jF
 xV:Exc K mg "GainTooLow" t.j6
 FF:Exc K mg "NoRoom" t.lK
 A3:wI mg "LONGEST_NAME" (.int (16))
 Cv:wI mg "MOST_DIGITS" (.int (7))
 xW:wI mg "GREATEST_NUMBER" (.int (1000000))
 zM:wI mg "GREATEST_GAIN" (.int (1000))
 xX:wI mg "GREATEST_WEIGHT" (.int (1000))
 Cw:wI mg "MOST_STATES" (.int (16))
 A4:wI mg "MOST_CHOICES" (.int (8))
 A5:wI mg "LINE_END" (.int (10))
 Im:wI mg "BLANK" (.int (32))
 M0:wI mg "HASH" (.int (35))
 Pr:wI mg "COMMA" (.int (44))
 Io:wI mg "MINUS" (.int (45))
 Ip:wI mg "SLASH" (.int (47))
 G2:wI mg "ZERO" (.int (48))
 Pu:wI mg "COLON" (.int (58))
 FG:wI mg "SEMICOLON" (.int (59))
 Ej:wI mg "UNDERSCORE" (.int (95))
 Ek:wI mg "LEFT_BRACE" (.int (123))
 Cy:wI mg "RIGHT_BRACE" (.int (125))
 wN:wI mg "TEXT_END" (.int (256))
 El:mg "STATE_WORD" = some (.ref t.pN)
 Em:∀H,rq K H t.pN (([115,116,97,116,101]:List Int).map V.int)
 A6:wI mg "LONGEST_TEXT" (.int (65536))
 zN:wI mg "GREATEST_ROOM" (.int (65536))
 yQ:wI mg "GREATEST_GOALS" (.int (65535))
 A7:wI mg "OUT_OF_RANGE" (.int (-1))
 A8:wI mg "NO_SUCH_TEXT" (.int (-2))
 A9:wI mg "NO_SUCH_GOAL" (.int (-3))
 Ba:wI mg "GAIN_TOO_LOW" (.int (-4))
 Kl:wI mg "NO_ROOM" (.int (-7))
 qi:mg "len" = none
 zY:mg "range" = none
 qJ:mg "enumerate" = none
 Iq:mg "zip" = none
 QK:mg "sum" = none
 Uy:mg "abs" = none
 G3:mg "list" = none
 Pw:mg "tuple" = none
 Uz:mg "set" = none
 UA:mg "any" = none
 QL:mg "all" = none
 G4:mg "reversed" = none
 rX:lB K t.jr t.jE
 Dn:lB K t.jr t.jF
 Dq:lB K t.jr t.j6
 Gq:lB K t.jr t.lK
 Dr:lB K t.jE t.jr
 Dt:lB K t.jE t.jF
 Du:lB K t.jE t.j6
 Gr:lB K t.jE t.lK
 rY:lB K t.jF t.jr
 rZ:lB K t.jF t.jE
 Dv:lB K t.jF t.j6
 Gs:lB K t.jF t.lK
 r9:lB K t.j6 t.jr
 sj:lB K t.j6 t.jE
 sr:lB K t.j6 t.jF
 Gu:lB K t.j6 t.lK
 vD:lB K t.lK t.jr
 vE:lB K t.lK t.jE
 vF:lB K t.lK t.jF
 vG:lB K t.lK t.j6
end Ck
end
noncomputable section
namespace Ck
open PySem PySem.Spec PyProof.Rows L2
section
variable{P:Program}{w:World}{K:aj}{mg:Str->Option Value}{base:Heap}{t:ng}
abbrev Ok(P:Program)(w:World)(K:aj)(mg:Str->Option Value)(base:Heap)(k:Nat)(f:Addr)(fd:FuncData)(ps:List Str)(sp:Sp):Prop:=yE P w K mg base (wG P w) k f fd ps sp
theorem yR(T:Txt K mg t)(kb:K.In base):OwnCls "NoSuchText" t.jr [.type "Exception",.type "BaseException",.type "object"] "Exception.__new__" mg base:=rE kb T.xS.mg T.xS.ex
theorem nE:bootBuiltins "len" = some (.builtin "len"):=by decide +kernel
theorem RW:bootBuiltins "set" = some (.type "set"):=by decide +kernel
theorem M1:bootBuiltins "tuple" = some (.type "tuple"):=by decide +kernel
theorem Ir:bootBuiltins "list" = some (.type "list"):=by decide +kernel
theorem M2:bootBuiltins "sum" = some (.builtin "sum"):=by decide +kernel
theorem RX:bootBuiltins "any" = some (.builtin "any"):=by decide +kernel
theorem M3:bootBuiltins "all" = some (.builtin "all"):=by decide +kernel
theorem tZ{b:Bool}{A B:Prop}(e:b=true)(h:A):if b=true then A else B:=by rw[if_pos e];exact h
theorem t6{b:Bool}{A B:Prop}(e:b=false)(h:B):if b=true then A else B:=by rw[e];exact qO h
def yS(t:ng):Sp:=λ vs H Q E=>∃c:Bool,vs=[.bl c]/\if c=true then Q .pT H else E (.ref t.jr) none H
theorem j8(T:Txt K mg t)(kb:K.In base):Ok P w K mg base 1 t.FA t.Dk ["holds"] (yS t):=by
 refine T.mO.fn.qw Ke (λ vs H Q E h=>?_) λ cdv A outer s H vs Q E hr h=>?_
 ·obtain⟨c,rfl,_⟩:=h;rfl
 ·obtain⟨c,rfl,h⟩:=h
  refine⟨_,jf (rA (DS (pW (pv 0))) (jf (xo xl_of rfl (yR T kb) cz)) m7),?_⟩;refine⟨_,rfl,c,rfl,?_⟩
  cases c with
  |true=>exact qO h
  |false=>exact uh h
def En(f:Nat->Bool):Sp:=λ vs H Q _=>∃c:Nat,vs=[.int c]/\Q (.bl (f c)) H
theorem qk(a b:Nat):decide ((a:Int)<=(b:Int))=decide (a<=b):=by
 rw[aS,decide_eq_true_eq,decide_eq_true_eq];omega
theorem ch{a x b:Int}{H:Hp}{Q:VK}(h:Q (.bl (decide (a<=x)&&decide (x<=b))) H) :
  ∃k,V.bl (decide (a<=x))=.bl k/\(if k=true then (∃i j,V.int x=.int i/\V.int b=.int j/\Q (.bl (decide (i<=j))) H) else Q (.bl false) H):=by
 refine⟨_,rfl,?_⟩
 by_cases q:a<=x
 ·rw[decide_eq_true q] at h ⊢
  exact uh ⟨_,_,rfl,rfl,h⟩
 ·rw[decide_eq_false q] at h ⊢
  exact qO h
theorem VF{a x b:Int}{i:Nat}{σ:L2.St}{H:Hp}{Q:VK}(hv:σ[i]? = some (some (.int x)))(h:Q (.bl (decide (a<=x)&&decide (x<=b))) H) :
  DU (Gm λ i j=>.bl (decide (i<=j))) (Gm λ i j=>.bl (decide (i<=j))) (tC (.int a)) (wY i) (tC (.int b)) σ H Q:=⟨_,hv,_,_,rfl,rfl,ch h⟩
theorem zw(T:Txt K mg t):Ok P w K mg base 1 t.AN t.zg ["byte"] (En Ra61.isDigit):=by
 refine T.AS.fn.qw Fz (λ vs H Q E h=>?_) λ cdv A outer s H vs Q E hr h=>?_
 ·obtain⟨c,rfl,_⟩:=h;rfl
 ·obtain⟨c,rfl,h⟩:=h
  refine⟨_,jf (jx (rB nM nM jt (pv 0) jt)),?_⟩;refine VF (x:=c) rfl ?_;show Q (.bl (decide ((48:Int)<=c)&&decide ((c:Int)<=57))) H;have e:(decide ((48:Int)<=c)&&decide ((c:Int)<=57))=Ra61.isDigit c:=by
   unfold Ra61.isDigit;rw[show decide ((48:Int)<=c)=decide (48<=c) from qk 48 c,show decide ((c:Int)<=57)=decide (c<=57) from qk c 57]
  rw[e];exact h
theorem xY(T:Txt K mg t):Ok P w K mg base 1 t.zh t.xB ["byte"] (En Ra61.isLetter):=by
 refine T.yP.fn.qw Eh (λ vs H Q E h=>?_) λ cdv A outer s H vs Q E hr h=>?_
 ·obtain⟨c,rfl,_⟩:=h;rfl
 ·obtain⟨c,rfl,h⟩:=h
  refine⟨_,jf (jx (Lu (rB nM nM jt (pv 0) jt) (Ls (rB nM nM jt (pv 0) jt)))),?_⟩;refine VF (x:=c) rfl ?_;refine⟨_,rfl,?_⟩;have e1:(decide ((65:Int)<=c)&&decide ((c:Int)<=90))=(decide (65<=c)&&decide (c<=90)):=by
   rw[show decide ((65:Int)<=c)=decide (65<=c) from qk 65 c,show decide ((c:Int)<=90)=decide (c<=90) from qk c 90]
  have e2:(decide ((97:Int)<=c)&&decide ((c:Int)<=122))=(decide (97<=c)&&decide (c<=122)):=by
   rw[show decide ((97:Int)<=c)=decide (97<=c) from qk 97 c,show decide ((c:Int)<=122)=decide (c<=122) from qk c 122]
  have e3:Ra61.isLetter c=((decide (65<=c)&&decide (c<=90))||(decide (97<=c)&&decide (c<=122))):=by unfold Ra61.isLetter;rw[Bool.or_comm]
  rw[e3] at h;show if (decide ((65:Int)<=c)&&decide ((c:Int)<=90))=true then _ else _
  rw[e1]
  cases q:(decide (65<=c)&&decide (c<=90)) with
  |true=>rw[q,iS] at h;exact uh h
  |false=>
   rw[q,iJ] at h;refine qO (VF (x:=c) rfl ?_);show Q (.bl (decide ((97:Int)<=c)&&decide ((c:Int)<=122))) H;rw[e2];exact h
theorem zO(T:Txt K mg t):Ok P w K mg base 2 t.uB t.tO ["byte"] (En Ra61.isWord):=by
 refine T.xO.fn.qw zK (λ vs H Q E h=>?_) λ cdv A outer s H vs Q E hr h=>?_
 ·obtain⟨c,rfl,_⟩:=h;rfl
 ·obtain⟨c,rfl,h⟩:=h
  refine⟨_,jf (jx (Lu (jG T.yP (xY T) hr rfl jA (iY (pv 0) jb)) (Lu (jG T.AS (zw T) hr rfl jA (iY (pv 0) jb)) (Ls (oG Af (pv 0) (j9 T.Ej rfl) (kN _)))))),?_⟩;unfold Ra61.isWord at h;refine⟨_,rfl,c,rfl,_,rfl,?_⟩
  cases q:Ra61.isLetter c with
  |true=>rw[q,iS] at h;exact uh h
  |false=>
   rw[q,iJ] at h;refine qO ⟨_,rfl,c,rfl,_,rfl,?_⟩
   cases q:Ra61.isDigit c with
   |true=>rw[q,iS] at h;exact uh h
   |false=>
    rw[q,iJ] at h;refine qO ⟨_,rfl,rfl,?_⟩;have e:decide (V.int (c:Int)=V.int 95)=(c==95):=by
     rw[mw,aS,beq_iff_eq,beq_iff_eq];omega
    show Q (.bl (decide (V.int (c:Int)=V.int 95))) H;rw[e];exact h
theorem M4(kl:List (List Int)):decide (((St.dd (kl.map ky)).length:Int)=kl.length)=decide kl.Nodup:=by
 rw[aS,decide_eq_true_eq,decide_eq_true_eq]
 have h:=(St.GR (kl.map ky)).2
 rw[ah] at h
 have h2:(kl.map ky).Nodup↔kl.Nodup:=by
  rw[List.Nodup,cS];exact⟨λ z=>cT (λ h1 h2=>h1 (by rw[h2])) z,λ z=>cT (λ h1 h2=>h1 (Eb h2)) z⟩
 rw[h2] at h
 rw[<-h]
 omega
def Cz(K:aj):Sp:=λ vs H Q _=>∃(l:Addr) (as:List Addr) (kl:List (List Int)),vs=[.ref l]/\jz K H l (as.map V.ref)/\pM K H as kl/\kl.length<=32768/\∀H',jk H H'->Q (.bl (decide kl.Nodup)) H'
theorem jh{H:Hp}{p:Addr}{o:HO}(h:H p=none):jk H (upd H p o):=λ b u e=>by rw[jd (je e h)];exact e
theorem rm(T:Txt K mg t):Ok P w K mg base 1 t.xC t.vO ["names"] (Cz K):=by
 refine T.tE.fn.qw Cr (λ vs H Q E h=>?_) λ cdv A outer s H vs Q E hr h=>?_
 ·obtain⟨l,as,kl,rfl,_⟩:=h;rfl
 ·obtain⟨l,as,kl,rfl,hl,hT,hn,h⟩:=h
  refine⟨_,jf (jx (oG Af (jT Fl (by rfl) T.qi nE (iY (vh (J3 rfl hr.units) (by rfl) T.Uz RW (iY (pv 0) jb)) jb))
   (jT jI (by rfl) T.qi nE (iY (pv 0) jb)) (kN _))),?_⟩
  refine⟨_,rfl,l,as,kl,rfl,hl,hT,hn,λ p hp=>?_⟩;have sm:=jh (o:=.ext (MB p (St.dd (kl.map ky)).length)) hp;refine⟨p,_,rfl,iZ,_,rfl,l,_,rfl,.inl (sm.seq hl),rfl,?_⟩;have e:decide (V.int ((St.dd (kl.map ky)).length:Int)=V.int ((as.map V.ref).length:Int))=decide kl.Nodup:=by
   rw[<-M4,mw,ah,hT.len,aS,beq_iff_eq,decide_eq_true_eq]
  show Q (.bl (decide (V.int ((St.dd (kl.map ky)).length:Int)=V.int ((as.map V.ref).length:Int)))) _;rw[e];exact h _ sm
end
end Ck
end
noncomputable section
namespace Ck
open PySem PySem.W L2 PySem.Calls PyProof.Rows
abbrev pg:=dB
def xZ:Program:=view pg [0,2,3,4,5,6,7,8,9,10,11,12,13,14,15,16,17,18,19,20,21,22,23,24,25,26,27,28,29,30,31,32,33,34,35,36,37,39,40,41,42,43,44,45,46,47,48,49,50,51,52,53,54,55,56,57,58,59,60,61,62,63,64,65,66,67,68,69,70]
def p0:Pos:=⟨0,0,0,0⟩
def ev:Env:={ scope:=pg.main.scope,locals:=mainNs,globals:=mainNs,cells:=[],code:=.ref 13,frame:=some 14 }
def S6:List Stmt:=behindTheImports pg
def ZW(P:Params):BT:=
 (.node (boot_o_0 P) (.node (boot_o_1 P) (.node (boot_o_3 P) (.node (boot_o_7 P) .nil .nil) (.node (.mk (.type "tuple") none (.seq #[] 0) #[]) .nil .nil)) (.node (boot_o_5 P) (.node (boot_o_9 P) .nil .nil) (.node (.mk (.type "code") none (.fields #[(.str "<module>" 182),(.str "<module>" 183),(.str "/claim/cut.py" 184),(.int 1 0),(.int 0 0),(.int 0 0),(.int 0 0),(.int 0 0),(.ref 11),(.bool false),(.int 181 0),(.ref 12),.none,.none,.none,.none,(.int 185 0),(.int 1 0),(.str "/claim/cut.py" 186)]) #[]) .nil .nil))) (.node (boot_o_2 P) (.node (boot_o_4 P) (.node (boot_o_8 P) .nil .nil) (.node (.mk .none none (.fields #[]) #[]) .nil .nil)) (.node (boot_o_6 P) (.node (boot_o_10 P) .nil .nil) (.node (.mk (.type "frame") none .plain #[(some (.ref 13)),(some (.ref 3)),(some (.ref 3)),none,(some (.str "__main__" 164)),none,(some (.ref 0))]) .nil .nil))))
def Yi(P:Params)(os:OsState):SharedT:=⟨ZW P,15,(.mk [] [] [] 0 [] [] false #[] [] 0 false false false 0 [2000,10,10] false 0 true [] [] 0 false),#[],.mk 0 0 0 0,187,os⟩
abbrev ff(n q:Str)(d:Stmt)(m:Str)(t c:Nat):FuncData:=fnOf n q (sP d) (qx d) (ji d) .none .none .none (.str m t) none (.ref c) .none
abbrev fo(n q:Str)(d:Stmt)(m:Str)(t c:Nat):Obj:=⟨.type "function",none,.func (ff n q d m t c),#[]⟩
def co(n q:Str)(t l c f a k j:Nat):Obj:=⟨.type "code",none,.fields #[.str n t,.str q (t+1),.str "/claim/cut.py" (t+2),.int l 0,.int c 0,.int 0 0,.int 0 0,.int f 0,.ref a,.bool true,.int 181 0,.ref (a+1),.none,.ref (a+2),.ref (a+3),.ref (a+4),.int k 0,.int l 0,.str "/claim/cut.py" j],#[]⟩
def cn(n q:Str)(t l c f a k j:Nat):Obj:=⟨.type "code",none,.fields #[.str n t,.str q (t+1),.str "/claim/cut.py" (t+2),.int l 0,.int c 0,.int 0 0,.int 0 0,.int f 0,.ref a,.bool true,.int 181 0,.ref (a+1),.none,.none,.none,.ref (a+2),.int k 0,.int l 0,.str "/claim/cut.py" j],#[]⟩
def de(P:Params)(k:Str)(t:Nat)(v:Value):DictEntry:=⟨PyData.keyHash P k,.str k t,v⟩
def Kt(P:Params):Frag:=
 (nat_lit 3,(.mk (.type "dict") none (.dict #[(de P "__name__" 165 (.str "chancechoices.chances" 489)),(de P "__doc__" 166 .none),(de P "__package__" 167 .none),(de P "__loader__" 168 (.builtin "__main__.__loader__#opaque")),(de P "__spec__" 169 .none),(de P "__annotations__" 170 (.ref 6)),(de P "__builtins__" 171 (.ref 4)),(de P "__file__" 173 (.str "/claim/cut.py" 172)),(de P "__cached__" 174 .none),(de P "_wall" 193 (.ref 21)),(de P "LONGEST_NAME" 197 (.int 16 196)),(de P "MOST_DIGITS" 199 (.int 7 198)),(de P "GREATEST_NUMBER" 201 (.int 1000000 200)),(de P "GREATEST_GAIN" 203 (.int 1000 202)),(de P "GREATEST_WEIGHT" 205 (.int 1000 204)),(de P "MOST_STATES" 207 (.int 16 206)),(de P "MOST_CHOICES" 209 (.int 8 208)),(de P "LINE_END" 211 (.int 10 210)),(de P "BLANK" 213 (.int 32 212)),(de P "HASH" 215 (.int 35 214)),(de P "COMMA" 217 (.int 44 216)),(de P "MINUS" 219 (.int 45 218)),(de P "SLASH" 221 (.int 47 220)),(de P "ZERO" 223 (.int 48 222)),(de P "COLON" 225 (.int 58 224)),(de P "SEMICOLON" 227 (.int 59 226)),(de P "UNDERSCORE" 229 (.int 95 228)),(de P "LEFT_BRACE" 231 (.int 123 230)),(de P "RIGHT_BRACE" 233 (.int 125 232)),(de P "TEXT_END" 235 (.int 256 234)),(de P "STATE_WORD" 241 (.ref 22)),(de P "NoSuchText" 261 (.ref 32)),(de P "demand" 268 (.ref 42)),(de P "is_digit" 275 (.ref 49)),(de P "is_letter" 282 (.ref 56)),(de P "is_name_byte" 289 (.ref 63)),(de P "all_differ" 296 (.ref 70)),(de P "Reader" 380 (.ref 136)),(de P "read_gain" 389 (.ref 147)),(de P "read_way" 398 (.ref 154)),(de P "Choice" 433 (.ref 171)),(de P "read_choice" 439 (.ref 180)),(de P "State" 470 (.ref 197)),(de P "read_state" 476 (.ref 206)),(de P "ways_to_places" 482 (.ref 211)),(de P "read_states" 488 (.ref 216)),(de P "LONGEST_TEXT" 492 (.int 65536 491)),(de P "GREATEST_ROOM" 494 (.int 65536 493)),(de P "GREATEST_GOALS" 496 (.int 65535 495)),(de P "OUT_OF_RANGE" 499 (.int (-1) 498)),(de P "NO_SUCH_TEXT" 502 (.int (-2) 501)),(de P "NO_SUCH_GOAL" 505 (.int (-3) 504)),(de P "GAIN_TOO_LOW" 508 (.int (-4) 507)),(de P "NO_ROOM" 511 (.int (-7) 510)),(de P "OutOfRange" 531 (.ref 226)),(de P "NoSuchGoal" 551 (.ref 239)),(de P "GainTooLow" 571 (.ref 252)),(de P "NoRoom" 591 (.ref 265)),(de P "demand_range" 600 (.ref 275)),(de P "read_given" 608 (.ref 282)),(de P "read_given_goals" 618 (.ref 289)),(de P "answer" 625 (.ref 296)),(de P "common_divisor" 634 (.ref 303)),(de P "digits_of" 642 (.ref 310)),(de P "fraction_told" 652 (.ref 317)),(de P "tell" 664 (.ref 324)),(de P "Values" 707 (.ref 351)),(de P "cleared" 713 (.ref 360)),(de P "solve" 719 (.ref 365)),(de P "Quest" 815 (.ref 427)),(de P "goal_marks" 821 (.ref 436)),(de P "gains_taken" 827 (.ref 441)),(de P "options_till" 833 (.ref 446)),(de P "leads_into" 839 (.ref 451)),(de P "marks_ending" 845 (.ref 456)),(de P "options_where" 851 (.ref 461)),(de P "tell_worst" 857 (.ref 466)),(de P "worst" 869 (.ref 473))] 78) #[])) ::
 (nat_lit 22,(.mk (.type "tuple") none (.seq #[(.int 115 236),(.int 116 237),(.int 97 238),(.int 116 239),(.int 101 240)] 0) #[])) ::
 (nat_lit 31,(.mk (.type "dict") none (.dict #[(de P "__module__" 249 (.str "chancechoices.texts" 194)),(de P "__firstlineno__" 253 (.int 26 252)),(de P "__static_attributes__" 254 (.ref 30)),(de P "__weakref__" 256 (.ref 33)),(de P "__doc__" 257 .none)] 3) #[])) ::
 (nat_lit 32,(.mk (.type "type") none (.cls (ClassData.mk "NoSuchText" [(.type "Exception")] [(.ref 32),(.type "Exception"),(.type "BaseException"),(.type "object")] 31 "NoSuchText" true [] [] false none false)) #[(some (.ref 23)),none,(some (.str "NoSuchText" 242)),(some (.str "NoSuchText" 250)),(some (.builtin "Exception.__new__")),(some (.bool true))])) ::
 (nat_lit 41,co "demand" "demand" 262 28 1 3 36 266 267) ::
 (nat_lit 42,fo "demand" "demand" AI "chancechoices.texts" 194 41) ::
 (nat_lit 48,co "is_digit" "is_digit" 269 31 1 3 43 273 274) ::
 (nat_lit 49,fo "is_digit" "is_digit" wK "chancechoices.texts" 194 48) ::
 (nat_lit 55,co "is_letter" "is_letter" 276 33 1 3 50 280 281) ::
 (nat_lit 56,fo "is_letter" "is_letter" uy "chancechoices.texts" 194 55) ::
 (nat_lit 62,co "is_name_byte" "is_name_byte" 283 35 1 3 57 287 288) ::
 (nat_lit 63,fo "is_name_byte" "is_name_byte" pZ "chancechoices.texts" 194 62) ::
 (nat_lit 69,co "all_differ" "all_differ" 290 37 1 3 64 294 295) ::
 (nat_lit 70,fo "all_differ" "all_differ" sR "chancechoices.texts" 194 69) ::
 (nat_lit 83,co "__init__" "Reader.__init__" 309 41 2 3 78 314 315) ::
 (nat_lit 84,fo "__init__" "Reader.__init__" qT "chancechoices.texts" 194 83) ::
 (nat_lit 90,co "here" "Reader.here" 317 45 1 3 85 321 322) ::
 (nat_lit 91,fo "here" "Reader.here" qU "chancechoices.texts" 194 90) ::
 (nat_lit 97,co "skip_remark" "Reader.skip_remark" 324 50 1 3 92 328 329) ::
 (nat_lit 98,fo "skip_remark" "Reader.skip_remark" mH "chancechoices.texts" 194 97) ::
 (nat_lit 104,co "skip_blanks" "Reader.skip_blanks" 331 54 1 3 99 335 336) ::
 (nat_lit 105,fo "skip_blanks" "Reader.skip_blanks" mJ "chancechoices.texts" 194 104) ::
 (nat_lit 111,co "at_end" "Reader.at_end" 338 61 1 3 106 342 343) ::
 (nat_lit 112,fo "at_end" "Reader.at_end" ph "chancechoices.texts" 194 111) ::
 (nat_lit 118,co "passes" "Reader.passes" 345 65 2 3 113 350 351) ::
 (nat_lit 119,fo "passes" "Reader.passes" pA "chancechoices.texts" 194 118) ::
 (nat_lit 125,co "take_name" "Reader.take_name" 353 72 1 3 120 358 359) ::
 (nat_lit 126,fo "take_name" "Reader.take_name" nA "chancechoices.texts" 194 125) ::
 (nat_lit 132,co "take_number" "Reader.take_number" 361 81 1 3 127 368 369) ::
 (nat_lit 133,fo "take_number" "Reader.take_number" mK "chancechoices.texts" 194 132) ::
 (nat_lit 135,(.mk (.type "dict") none (.dict #[(de P "__module__" 304 (.str "chancechoices.texts" 194)),(de P "__firstlineno__" 308 (.int 39 307)),(de P "__init__" 316 (.ref 84)),(de P "here" 323 (.ref 91)),(de P "skip_remark" 330 (.ref 98)),(de P "skip_blanks" 337 (.ref 105)),(de P "at_end" 344 (.ref 112)),(de P "passes" 352 (.ref 119)),(de P "take_name" 360 (.ref 126)),(de P "take_number" 370 (.ref 133)),(de P "__static_attributes__" 373 (.ref 134)),(de P "__dict__" 375 (.ref 137)),(de P "__weakref__" 377 (.ref 138)),(de P "__doc__" 378 .none)] 4) #[])) ::
 (nat_lit 136,(.mk (.type "type") none (.cls (ClassData.mk "Reader" [(.type "object")] [(.ref 136),(.type "object")] 135 "Reader" true [] [] false none false)) #[none,none,(some (.str "Reader" 297)),(some (.str "Reader" 305)),(some (.builtin "object.__new__")),(some (.bool true))])) ::
 (nat_lit 146,co "read_gain" "read_gain" 381 92 1 3 141 387 388) ::
 (nat_lit 147,fo "read_gain" "read_gain" uz "chancechoices.texts" 194 146) ::
 (nat_lit 153,co "read_way" "read_way" 390 97 1 3 148 396 397) ::
 (nat_lit 154,fo "read_way" "read_way" wL "chancechoices.texts" 194 153) ::
 (nat_lit 167,co "__init__" "Choice.__init__" 411 106 5 3 162 419 420) ::
 (nat_lit 168,fo "__init__" "Choice.__init__" qV "chancechoices.texts" 194 167) ::
 (nat_lit 170,(.mk (.type "dict") none (.dict #[(de P "__module__" 406 (.str "chancechoices.texts" 194)),(de P "__firstlineno__" 410 (.int 104 409)),(de P "__init__" 421 (.ref 168)),(de P "__static_attributes__" 426 (.ref 169)),(de P "__dict__" 428 (.ref 172)),(de P "__weakref__" 430 (.ref 173)),(de P "__doc__" 431 .none)] 4) #[])) ::
 (nat_lit 171,(.mk (.type "type") none (.cls (ClassData.mk "Choice" [(.type "object")] [(.ref 171),(.type "object")] 170 "Choice" true [] [] false none false)) #[none,none,(some (.str "Choice" 399)),(some (.str "Choice" 407)),(some (.builtin "object.__new__")),(some (.bool true))])) ::
 (nat_lit 179,cn "read_choice" "read_choice" 434 111 1 3 176 437 438) ::
 (nat_lit 180,fo "read_choice" "read_choice" qQ "chancechoices.texts" 194 179) ::
 (nat_lit 193,co "__init__" "State.__init__" 452 123 3 3 188 458 459) ::
 (nat_lit 194,fo "__init__" "State.__init__" sY "chancechoices.texts" 194 193) ::
 (nat_lit 196,(.mk (.type "dict") none (.dict #[(de P "__module__" 447 (.str "chancechoices.texts" 194)),(de P "__firstlineno__" 451 (.int 121 450)),(de P "__init__" 460 (.ref 194)),(de P "__static_attributes__" 463 (.ref 195)),(de P "__dict__" 465 (.ref 198)),(de P "__weakref__" 467 (.ref 199)),(de P "__doc__" 468 .none)] 4) #[])) ::
 (nat_lit 197,(.mk (.type "type") none (.cls (ClassData.mk "State" [(.type "object")] [(.ref 197),(.type "object")] 196 "State" true [] [] false none false)) #[none,none,(some (.str "State" 440)),(some (.str "State" 448)),(some (.builtin "object.__new__")),(some (.bool true))])) ::
 (nat_lit 205,cn "read_state" "read_state" 471 126 1 3 202 474 475) ::
 (nat_lit 206,fo "read_state" "read_state" sS "chancechoices.texts" 194 205) ::
 (nat_lit 210,cn "ways_to_places" "ways_to_places" 477 136 2 3 207 480 481) ::
 (nat_lit 211,fo "ways_to_places" "ways_to_places" n9 "chancechoices.texts" 194 210) ::
 (nat_lit 215,cn "read_states" "read_states" 483 139 1 3 212 486 487) ::
 (nat_lit 216,fo "read_states" "read_states" qR "chancechoices.texts" 194 215) ::
 (nat_lit 225,(.mk (.type "dict") none (.dict #[(de P "__module__" 519 (.str "chancechoices.chances" 489)),(de P "__firstlineno__" 523 (.int 160 522)),(de P "__static_attributes__" 524 (.ref 224)),(de P "__weakref__" 526 (.ref 227)),(de P "__doc__" 527 .none)] 3) #[])) ::
 (nat_lit 226,(.mk (.type "type") none (.cls (ClassData.mk "OutOfRange" [(.type "Exception")] [(.ref 226),(.type "Exception"),(.type "BaseException"),(.type "object")] 225 "OutOfRange" true [] [] false none false)) #[(some (.ref 217)),none,(some (.str "OutOfRange" 512)),(some (.str "OutOfRange" 520)),(some (.builtin "Exception.__new__")),(some (.bool true))])) ::
 (nat_lit 238,(.mk (.type "dict") none (.dict #[(de P "__module__" 539 (.str "chancechoices.chances" 489)),(de P "__firstlineno__" 543 (.int 162 542)),(de P "__static_attributes__" 544 (.ref 237)),(de P "__weakref__" 546 (.ref 240)),(de P "__doc__" 547 .none)] 3) #[])) ::
 (nat_lit 239,(.mk (.type "type") none (.cls (ClassData.mk "NoSuchGoal" [(.type "Exception")] [(.ref 239),(.type "Exception"),(.type "BaseException"),(.type "object")] 238 "NoSuchGoal" true [] [] false none false)) #[(some (.ref 230)),none,(some (.str "NoSuchGoal" 532)),(some (.str "NoSuchGoal" 540)),(some (.builtin "Exception.__new__")),(some (.bool true))])) ::
 (nat_lit 251,(.mk (.type "dict") none (.dict #[(de P "__module__" 559 (.str "chancechoices.chances" 489)),(de P "__firstlineno__" 563 (.int 164 562)),(de P "__static_attributes__" 564 (.ref 250)),(de P "__weakref__" 566 (.ref 253)),(de P "__doc__" 567 .none)] 3) #[])) ::
 (nat_lit 252,(.mk (.type "type") none (.cls (ClassData.mk "GainTooLow" [(.type "Exception")] [(.ref 252),(.type "Exception"),(.type "BaseException"),(.type "object")] 251 "GainTooLow" true [] [] false none false)) #[(some (.ref 243)),none,(some (.str "GainTooLow" 552)),(some (.str "GainTooLow" 560)),(some (.builtin "Exception.__new__")),(some (.bool true))])) ::
 (nat_lit 264,(.mk (.type "dict") none (.dict #[(de P "__module__" 579 (.str "chancechoices.chances" 489)),(de P "__firstlineno__" 583 (.int 166 582)),(de P "__static_attributes__" 584 (.ref 263)),(de P "__weakref__" 586 (.ref 266)),(de P "__doc__" 587 .none)] 3) #[])) ::
 (nat_lit 265,(.mk (.type "type") none (.cls (ClassData.mk "NoRoom" [(.type "Exception")] [(.ref 265),(.type "Exception"),(.type "BaseException"),(.type "object")] 264 "NoRoom" true [] [] false none false)) #[(some (.ref 256)),none,(some (.str "NoRoom" 572)),(some (.str "NoRoom" 580)),(some (.builtin "Exception.__new__")),(some (.bool true))])) ::
 (nat_lit 274,co "demand_range" "demand_range" 592 168 3 3 269 598 599) ::
 (nat_lit 275,fo "demand_range" "demand_range" p5 "chancechoices.chances" 489 274) ::
 (nat_lit 281,co "read_given" "read_given" 601 171 2 3 276 606 607) ::
 (nat_lit 282,fo "read_given" "read_given" sU "chancechoices.chances" 489 281) ::
 (nat_lit 288,co "read_given_goals" "read_given_goals" 609 175 3 3 283 616 617) ::
 (nat_lit 289,fo "read_given_goals" "read_given_goals" ny "chancechoices.chances" 489 288) ::
 (nat_lit 295,co "answer" "answer" 619 181 1 3 290 623 624) ::
 (nat_lit 296,fo "answer" "answer" xy "chancechoices.chances" 489 295) ::
 (nat_lit 302,co "common_divisor" "common_divisor" 626 194 2 3 297 632 633) ::
 (nat_lit 303,fo "common_divisor" "common_divisor" oh "chancechoices.chances" 489 302) ::
 (nat_lit 309,co "digits_of" "digits_of" 635 200 1 3 304 640 641) ::
 (nat_lit 310,fo "digits_of" "digits_of" uA "chancechoices.chances" 489 309) ::
 (nat_lit 316,co "fraction_told" "fraction_told" 643 206 2 3 311 650 651) ::
 (nat_lit 317,fo "fraction_told" "fraction_told" m9 "chancechoices.chances" 489 316) ::
 (nat_lit 323,co "tell" "tell" 653 212 3 3 318 662 663) ::
 (nat_lit 324,fo "tell" "tell" G1 "chancechoices.chances" 489 323) ::
 (nat_lit 337,co "__init__" "Values.__init__" 677 221 3 3 332 683 684) ::
 (nat_lit 338,fo "__init__" "Values.__init__" qW "chancechoices.chances" 489 337) ::
 (nat_lit 342,cn "negative" "Values.negative" 686 225 1 3 339 689 690) ::
 (nat_lit 343,fo "negative" "Values.negative" nP "chancechoices.chances" 489 342) ::
 (nat_lit 347,cn "told" "Values.told" 692 228 1 3 344 695 696) ::
 (nat_lit 348,fo "told" "Values.told" qX "chancechoices.chances" 489 347) ::
 (nat_lit 350,(.mk (.type "dict") none (.dict #[(de P "__module__" 672 (.str "chancechoices.chances" 489)),(de P "__firstlineno__" 676 (.int 219 675)),(de P "__init__" 685 (.ref 338)),(de P "negative" 691 (.ref 343)),(de P "told" 697 (.ref 348)),(de P "__static_attributes__" 700 (.ref 349)),(de P "__dict__" 702 (.ref 352)),(de P "__weakref__" 704 (.ref 353)),(de P "__doc__" 705 .none)] 4) #[])) ::
 (nat_lit 351,(.mk (.type "type") none (.cls (ClassData.mk "Values" [(.type "object")] [(.ref 351),(.type "object")] 350 "Values" true [] [] false none false)) #[none,none,(some (.str "Values" 665)),(some (.str "Values" 673)),(some (.builtin "object.__new__")),(some (.bool true))])) ::
 (nat_lit 359,cn "cleared" "cleared" 708 230 4 3 356 711 712) ::
 (nat_lit 360,fo "cleared" "cleared" yM "chancechoices.chances" 489 359) ::
 (nat_lit 364,cn "solve" "solve" 714 234 1 3 361 717 718) ::
 (nat_lit 365,fo "solve" "solve" Eg "chancechoices.chances" 489 364) ::
 (nat_lit 378,co "__init__" "Quest.__init__" 732 243 3 3 373 738 739) ::
 (nat_lit 379,fo "__init__" "Quest.__init__" sZ "chancechoices.chances" 489 378) ::
 (nat_lit 385,co "equation" "Quest.equation" 741 247 3 3 380 750 751) ::
 (nat_lit 386,fo "equation" "Quest.equation" oj "chancechoices.chances" 489 385) ::
 (nat_lit 390,cn "top_by" "Quest.top_by" 753 260 3 3 387 756 757) ::
 (nat_lit 391,fo "top_by" "Quest.top_by" p8 "chancechoices.chances" 489 390) ::
 (nat_lit 397,co "is_better" "Quest.is_better" 759 264 4 3 392 766 767) ::
 (nat_lit 398,fo "is_better" "Quest.is_better" nQ "chancechoices.chances" 489 397) ::
 (nat_lit 404,co "improved" "Quest.improved" 769 267 3 3 399 780 781) ::
 (nat_lit 405,fo "improved" "Quest.improved" om "chancechoices.chances" 489 404) ::
 (nat_lit 409,cn "greatest" "Quest.greatest" 783 275 2 3 406 786 787) ::
 (nat_lit 410,fo "greatest" "Quest.greatest" oq "chancechoices.chances" 489 409) ::
 (nat_lit 426,(.mk (.type "dict") none (.dict #[(de P "__module__" 727 (.str "chancechoices.chances" 489)),(de P "__firstlineno__" 731 (.int 241 730)),(de P "__init__" 740 (.ref 379)),(de P "equation" 752 (.ref 386)),(de P "top_by" 758 (.ref 391)),(de P "is_better" 768 (.ref 398)),(de P "improved" 782 (.ref 405)),(de P "greatest" 788 (.ref 410)),(de P "step_ahead" 796 (.ref 417)),(de P "choice_told" 805 (.ref 424)),(de P "__static_attributes__" 808 (.ref 425)),(de P "__dict__" 810 (.ref 428)),(de P "__weakref__" 812 (.ref 429)),(de P "__doc__" 813 .none)] 4) #[])) ::
 (nat_lit 427,(.mk (.type "type") none (.cls (ClassData.mk "Quest" [(.type "object")] [(.ref 427),(.type "object")] 426 "Quest" true [] [] false none false)) #[none,none,(some (.str "Quest" 720)),(some (.str "Quest" 728)),(some (.builtin "object.__new__")),(some (.bool true))])) ::
 (nat_lit 435,cn "goal_marks" "goal_marks" 816 288 2 3 432 819 820) ::
 (nat_lit 436,fo "goal_marks" "goal_marks" sV "chancechoices.chances" 489 435) ::
 (nat_lit 440,cn "gains_taken" "gains_taken" 822 290 2 3 437 825 826) ::
 (nat_lit 441,fo "gains_taken" "gains_taken" qS "chancechoices.chances" 489 440) ::
 (nat_lit 445,cn "options_till" "options_till" 828 292 3 3 442 831 832) ::
 (nat_lit 446,fo "options_till" "options_till" p6 "chancechoices.chances" 489 445) ::
 (nat_lit 450,cn "leads_into" "leads_into" 834 294 2 3 447 837 838) ::
 (nat_lit 451,fo "leads_into" "leads_into" sW "chancechoices.chances" 489 450) ::
 (nat_lit 455,cn "marks_ending" "marks_ending" 840 296 1 3 452 843 844) ::
 (nat_lit 456,fo "marks_ending" "marks_ending" p7 "chancechoices.chances" 489 455) ::
 (nat_lit 460,cn "options_where" "options_where" 846 303 2 3 457 849 850) ::
 (nat_lit 461,fo "options_where" "options_where" o9 "chancechoices.chances" 489 460) ::
 (nat_lit 465,cn "tell_worst" "tell_worst" 852 305 3 3 462 855 856) ::
 (nat_lit 466,fo "tell_worst" "tell_worst" sX "chancechoices.chances" 489 465) ::
 (nat_lit 472,co "worst" "worst" 858 312 3 3 467 867 868) ::
 (nat_lit 473,fo "worst" "worst" xA "chancechoices.chances" 489 472)::[]
def Ka:List Addr:=[3,22,31,32,41,42,48,49,55,56,62,63,69,70,83,84,90,91,97,98,104,105,111,112,118,119,125,126,132,133,135,136,146,147,153,154,167,168,170,171,179,180,193,194,196,197,205,206,210,211,215,216,225,226,238,239,251,252,264,265,274,275,281,282,288,289,295,296,302,303,309,310,316,317,323,324,337,338,342,343,347,348,350,351,359,360,364,365,378,379,385,386,390,391,397,398,404,405,409,410,426,427,435,436,440,441,445,446,450,451,455,456,460,461,465,466,472,473]
def Kh:Hook:=kHook Kt Ka (λ _=>by kernel_rfl)
abbrev WN:Shared->Bool:=λ s=>xlAt xZ [] s&&recOk [] s
theorem pre0(w:World):(λ os=>(topGo treeTable pg w 11 (some (.ref 6)) 12 ⟨boot_heap w.params,Array.mk [],boot_drawn,boot_toks,os⟩ (topStub pg)).map (·.2))=λ _=>some ⟨denote treeTable (.body S6 ev),.body S6 ev,p0,[topFrame p0]⟩:=by kernel_rfl
theorem blk0(w:World):(λ os=>(topGo treeTable pg w 11 (some (.ref 6)) 12 ⟨boot_heap w.params,Array.mk [],boot_drawn,boot_toks,os⟩ (topStub pg)).bind λ x=>segRun treeTable pg w 11 (some (.ref 6)) 1 1 x.1 (blockOf S6 ev (.body S6 ev) p0 [topFrame p0]))=λ os=>some (.next,(Yi w.params os).abs,.body S6 ev,p0):=by kernel_rfl
abbrev UB(w:World)(os:OsState):Option Shared:=J7 pg w 11 (some (.ref 6)) 3778 2 (Yi w.params os) S6 ev p0 p0
theorem run1(w:World):(λ os=>(UB w os).map λ s=>(staticsOk (importedModules pg.main.body) (boot_heap w.params) s.heap&&namesBound pg s.heap&&gensDone s&&laidKept (boot_heap w.params) s.heap,s.heap.bltView,tabsOk xZ s,pinSeenD xZ (drecsOf xZ) s,Kh.obs s))=λ _=>some (true,bltViewBooted,true,pinGoodD (drecsOf xZ),Kh.val w):=by kernel_rfl
theorem run2(w:World):(λ os=>(UB w os).map λ s=>seen ((recsOf xZ).map (·.name)) (ownsOf xZ) [] { s with gens:=#[] })=λ _=>some (expectedOf xZ):=by kernel_rfl
theorem run3(w:World):(λ os=>(UB w os).map λ s=>s.heap.keysOk (looseW xZ []) ((recsOf xZ).map (·.name)) ((litsOf xZ).map (·.1)) ((clssOf xZ (looseW xZ [])).map (·.name))&&s.heap.accountedOkI (importedModules pg.main.body))=λ _=>some true:=by kernel_rfl
theorem run4(w:World):(λ os=>(UB w os).map λ s=>s.heap.isNs mainGlobals&&s.heap.isNs builtinsNs&&tablesOk xZ s.heap&&WN s&&(s.gens.size==0))=λ _=>some true:=by kernel_rfl
theorem run5(w:World):(λ os=>(UB w os).map λ s=>(plainSeenE xZ (looseW xZ []) s,plainSeenD xZ [] s,wideSeen xZ s,clsSeenW xZ [] s))=λ _=>some (plainGoodE xZ (looseW xZ []),plainGoodD xZ [],wideGood xZ,clsGoodW xZ []):=by kernel_rfl
theorem UC:LeftO pg xZ [] WN Kh.obs Kh.val 7680:=
 J8 (boot_open (by kernel_rfl) (by decide) (λ _=>by kernel_rfl)) (λ _=>by kernel_rfl) pre0 blk0 run1 run2 run3 run4 run5 (by decide)
theorem j7{K:Frag}{h:Heap}{mg:Str->Option Value}{x q:Str}{d:Stmt}{ps:List Str}{a:Addr}(X:K.In h)(G:h.Ns mainGlobals mg)(m:Str)(t c:Nat)(e:nsIn K mainGlobals x=some (some (.ref a)))(l:K.lookup a=some (fo x q d m t c))(hc:codeIn K (.ref c) q=true)
  (b:∀(kV doc pm:Value) (an:Option Addr) (cdv ct:Value) (us:List Value),us.length=ps.length->bindArgs (fnOf x q (sP d) (qx d) (ji d) .none kV doc pm an cdv ct) ⟨us,[]⟩=pure (ps.zip us)):wH K mg x q d ps a (ff x q d m t c):=
 have F:=LY (st:=d) l hc (by unfold keepIn;dsimp only;rw[l])
 ⟨F,F.binds b,mg_of X G e⟩
theorem lZ{K:Frag}{x q:Str}{d:Stmt}{ps:List Str}{C a:Addr}(m:Str)(t c:Nat)(e:findIn K (.ref C) x=some (some (.ref a)))(l:K.lookup a=some (fo x q d m t c))(hc:codeIn K (.ref c) q=true)
  (b:∀(kV doc pm:Value) (an:Option Addr) (cdv ct:Value) (us:List Value),us.length=ps.length->bindArgs (fnOf x q (sP d) (qx d) (ji d) .none kV doc pm an cdv ct) ⟨us,[]⟩=pure (ps.zip us)):Met K x q d ps C a (ff x q d m t c):=
 have kp:keepIn K (.ref a)=true:=by unfold keepIn;dsimp only;rw[l]
 have F:=LY (st:=d) l hc kp
 ⟨F,F.binds b,⟨e,by unfold isFn typeIn;dsimp only;rw[l];rfl,kp⟩⟩
theorem t7{K:Frag}{C:Addr}{f:Str}(e:findIn K (.ref C) f=some none):lV K C f:=e
theorem jK{K:Frag}{C D:Addr}(h:(match K.lookup C with | some ⟨_,_,.cls cd,_⟩=>!cd.mro.contains (.ref D) | _=>false)=true):lB K C D:=by
 split at h
 ·rename_i l
  exact⟨_,_,_,_,l,by simpa using h⟩
 ·cases h
theorem kh{K:Frag}{h:Heap}{mg:Str->Option Value}{x:Str}{v:Int}(X:K.In h)(G:h.Ns mainGlobals mg)(e:(match nsIn K mainGlobals x with | some (some (.int i _))=>i==v | _=>false)=true):wI mg x (.int v):=by
 split at e
 ·rename_i l
  cases beq_iff_eq.mp e;exact⟨_,mg_of X G l,⟨_,rfl⟩⟩
 ·cases e
theorem txt{h:Heap}{mg:Str->Option Value}{P:Params}(X:(Kt P).In h)(G:h.Ns mainGlobals mg):∃t,Txt (Kt P) mg t:=
 ⟨⟨42,_,49,_,56,_,63,_,70,_,147,_,154,_,180,_,206,_,211,_,216,_,275,_,282,_,289,_,296,_,303,_,310,_,317,_,324,_,360,_,365,_,436,_,441,_,446,_,451,_,456,_,461,_,466,_,473,_,84,_,91,_,98,_,105,_,112,_,119,_,126,_,133,_,168,_,194,_,338,_,343,_,348,_,379,_,386,_,391,_,398,_,405,_,410,_,136,171,197,351,427,32,226,239,252,265,22⟩,
 ⟨j7 X G "chancechoices.texts" 194 41 (by kernel_rfl) (by kernel_rfl) (by kernel_rfl) (λ _ _ _ _ _ _ us hl=>match us,hl with | [_],_=>rfl),
 j7 X G "chancechoices.texts" 194 48 (by kernel_rfl) (by kernel_rfl) (by kernel_rfl) (λ _ _ _ _ _ _ us hl=>match us,hl with | [_],_=>rfl),
 j7 X G "chancechoices.texts" 194 55 (by kernel_rfl) (by kernel_rfl) (by kernel_rfl) (λ _ _ _ _ _ _ us hl=>match us,hl with | [_],_=>rfl),
 j7 X G "chancechoices.texts" 194 62 (by kernel_rfl) (by kernel_rfl) (by kernel_rfl) (λ _ _ _ _ _ _ us hl=>match us,hl with | [_],_=>rfl),
 j7 X G "chancechoices.texts" 194 69 (by kernel_rfl) (by kernel_rfl) (by kernel_rfl) (λ _ _ _ _ _ _ us hl=>match us,hl with | [_],_=>rfl),
 j7 X G "chancechoices.texts" 194 146 (by kernel_rfl) (by kernel_rfl) (by kernel_rfl) (λ _ _ _ _ _ _ us hl=>match us,hl with | [_],_=>rfl),
 j7 X G "chancechoices.texts" 194 153 (by kernel_rfl) (by kernel_rfl) (by kernel_rfl) (λ _ _ _ _ _ _ us hl=>match us,hl with | [_],_=>rfl),
 j7 X G "chancechoices.texts" 194 179 (by kernel_rfl) (by kernel_rfl) (by kernel_rfl) (λ _ _ _ _ _ _ us hl=>match us,hl with | [_],_=>rfl),
 j7 X G "chancechoices.texts" 194 205 (by kernel_rfl) (by kernel_rfl) (by kernel_rfl) (λ _ _ _ _ _ _ us hl=>match us,hl with | [_],_=>rfl),
 j7 X G "chancechoices.texts" 194 210 (by kernel_rfl) (by kernel_rfl) (by kernel_rfl) (λ _ _ _ _ _ _ us hl=>match us,hl with | [_,_],_=>rfl),
 j7 X G "chancechoices.texts" 194 215 (by kernel_rfl) (by kernel_rfl) (by kernel_rfl) (λ _ _ _ _ _ _ us hl=>match us,hl with | [_],_=>rfl),
 j7 X G "chancechoices.chances" 489 274 (by kernel_rfl) (by kernel_rfl) (by kernel_rfl) (λ _ _ _ _ _ _ us hl=>match us,hl with | [_,_,_],_=>rfl),
 j7 X G "chancechoices.chances" 489 281 (by kernel_rfl) (by kernel_rfl) (by kernel_rfl) (λ _ _ _ _ _ _ us hl=>match us,hl with | [_,_],_=>rfl),
 j7 X G "chancechoices.chances" 489 288 (by kernel_rfl) (by kernel_rfl) (by kernel_rfl) (λ _ _ _ _ _ _ us hl=>match us,hl with | [_,_,_],_=>rfl),
 j7 X G "chancechoices.chances" 489 295 (by kernel_rfl) (by kernel_rfl) (by kernel_rfl) (λ _ _ _ _ _ _ us hl=>match us,hl with | [_],_=>rfl),
 j7 X G "chancechoices.chances" 489 302 (by kernel_rfl) (by kernel_rfl) (by kernel_rfl) (λ _ _ _ _ _ _ us hl=>match us,hl with | [_,_],_=>rfl),
 j7 X G "chancechoices.chances" 489 309 (by kernel_rfl) (by kernel_rfl) (by kernel_rfl) (λ _ _ _ _ _ _ us hl=>match us,hl with | [_],_=>rfl),
 j7 X G "chancechoices.chances" 489 316 (by kernel_rfl) (by kernel_rfl) (by kernel_rfl) (λ _ _ _ _ _ _ us hl=>match us,hl with | [_,_],_=>rfl),
 j7 X G "chancechoices.chances" 489 323 (by kernel_rfl) (by kernel_rfl) (by kernel_rfl) (λ _ _ _ _ _ _ us hl=>match us,hl with | [_,_,_],_=>rfl),
 j7 X G "chancechoices.chances" 489 359 (by kernel_rfl) (by kernel_rfl) (by kernel_rfl) (λ _ _ _ _ _ _ us hl=>match us,hl with | [_,_,_,_],_=>rfl),
 j7 X G "chancechoices.chances" 489 364 (by kernel_rfl) (by kernel_rfl) (by kernel_rfl) (λ _ _ _ _ _ _ us hl=>match us,hl with | [_],_=>rfl),
 j7 X G "chancechoices.chances" 489 435 (by kernel_rfl) (by kernel_rfl) (by kernel_rfl) (λ _ _ _ _ _ _ us hl=>match us,hl with | [_,_],_=>rfl),
 j7 X G "chancechoices.chances" 489 440 (by kernel_rfl) (by kernel_rfl) (by kernel_rfl) (λ _ _ _ _ _ _ us hl=>match us,hl with | [_,_],_=>rfl),
 j7 X G "chancechoices.chances" 489 445 (by kernel_rfl) (by kernel_rfl) (by kernel_rfl) (λ _ _ _ _ _ _ us hl=>match us,hl with | [_,_,_],_=>rfl),
 j7 X G "chancechoices.chances" 489 450 (by kernel_rfl) (by kernel_rfl) (by kernel_rfl) (λ _ _ _ _ _ _ us hl=>match us,hl with | [_,_],_=>rfl),
 j7 X G "chancechoices.chances" 489 455 (by kernel_rfl) (by kernel_rfl) (by kernel_rfl) (λ _ _ _ _ _ _ us hl=>match us,hl with | [_],_=>rfl),
 j7 X G "chancechoices.chances" 489 460 (by kernel_rfl) (by kernel_rfl) (by kernel_rfl) (λ _ _ _ _ _ _ us hl=>match us,hl with | [_,_],_=>rfl),
 j7 X G "chancechoices.chances" 489 465 (by kernel_rfl) (by kernel_rfl) (by kernel_rfl) (λ _ _ _ _ _ _ us hl=>match us,hl with | [_,_,_],_=>rfl),
 j7 X G "chancechoices.chances" 489 472 (by kernel_rfl) (by kernel_rfl) (by kernel_rfl) (λ _ _ _ _ _ _ us hl=>match us,hl with | [_,_,_],_=>rfl),
 lZ "chancechoices.texts" 194 83 (by kernel_rfl) (by kernel_rfl) (by kernel_rfl) (λ _ _ _ _ _ _ us hl=>match us,hl with | [_,_],_=>rfl),
 lZ "chancechoices.texts" 194 90 (by kernel_rfl) (by kernel_rfl) (by kernel_rfl) (λ _ _ _ _ _ _ us hl=>match us,hl with | [_],_=>rfl),
 lZ "chancechoices.texts" 194 97 (by kernel_rfl) (by kernel_rfl) (by kernel_rfl) (λ _ _ _ _ _ _ us hl=>match us,hl with | [_],_=>rfl),
 lZ "chancechoices.texts" 194 104 (by kernel_rfl) (by kernel_rfl) (by kernel_rfl) (λ _ _ _ _ _ _ us hl=>match us,hl with | [_],_=>rfl),
 lZ "chancechoices.texts" 194 111 (by kernel_rfl) (by kernel_rfl) (by kernel_rfl) (λ _ _ _ _ _ _ us hl=>match us,hl with | [_],_=>rfl),
 lZ "chancechoices.texts" 194 118 (by kernel_rfl) (by kernel_rfl) (by kernel_rfl) (λ _ _ _ _ _ _ us hl=>match us,hl with | [_,_],_=>rfl),
 lZ "chancechoices.texts" 194 125 (by kernel_rfl) (by kernel_rfl) (by kernel_rfl) (λ _ _ _ _ _ _ us hl=>match us,hl with | [_],_=>rfl),
 lZ "chancechoices.texts" 194 132 (by kernel_rfl) (by kernel_rfl) (by kernel_rfl) (λ _ _ _ _ _ _ us hl=>match us,hl with | [_],_=>rfl),
 lZ "chancechoices.texts" 194 167 (by kernel_rfl) (by kernel_rfl) (by kernel_rfl) (λ _ _ _ _ _ _ us hl=>match us,hl with | [_,_,_,_,_],_=>rfl),
 lZ "chancechoices.texts" 194 193 (by kernel_rfl) (by kernel_rfl) (by kernel_rfl) (λ _ _ _ _ _ _ us hl=>match us,hl with | [_,_,_],_=>rfl),
 lZ "chancechoices.chances" 489 337 (by kernel_rfl) (by kernel_rfl) (by kernel_rfl) (λ _ _ _ _ _ _ us hl=>match us,hl with | [_,_,_],_=>rfl),
 lZ "chancechoices.chances" 489 342 (by kernel_rfl) (by kernel_rfl) (by kernel_rfl) (λ _ _ _ _ _ _ us hl=>match us,hl with | [_],_=>rfl),
 lZ "chancechoices.chances" 489 347 (by kernel_rfl) (by kernel_rfl) (by kernel_rfl) (λ _ _ _ _ _ _ us hl=>match us,hl with | [_],_=>rfl),
 lZ "chancechoices.chances" 489 378 (by kernel_rfl) (by kernel_rfl) (by kernel_rfl) (λ _ _ _ _ _ _ us hl=>match us,hl with | [_,_,_],_=>rfl),
 lZ "chancechoices.chances" 489 385 (by kernel_rfl) (by kernel_rfl) (by kernel_rfl) (λ _ _ _ _ _ _ us hl=>match us,hl with | [_,_,_],_=>rfl),
 lZ "chancechoices.chances" 489 390 (by kernel_rfl) (by kernel_rfl) (by kernel_rfl) (λ _ _ _ _ _ _ us hl=>match us,hl with | [_,_,_],_=>rfl),
 lZ "chancechoices.chances" 489 397 (by kernel_rfl) (by kernel_rfl) (by kernel_rfl) (λ _ _ _ _ _ _ us hl=>match us,hl with | [_,_,_,_],_=>rfl),
 lZ "chancechoices.chances" 489 404 (by kernel_rfl) (by kernel_rfl) (by kernel_rfl) (λ _ _ _ _ _ _ us hl=>match us,hl with | [_,_,_],_=>rfl),
 lZ "chancechoices.chances" 489 409 (by kernel_rfl) (by kernel_rfl) (by kernel_rfl) (λ _ _ _ _ _ _ us hl=>match us,hl with | [_,_],_=>rfl),
 ⟨⟨by kernel_rfl,by kernel_rfl,by kernel_rfl,by kernel_rfl⟩,mg_of X G (by kernel_rfl),by kernel_rfl,by kernel_rfl⟩,
 t7 (by kernel_rfl),
 t7 (by kernel_rfl),
 ⟨⟨by kernel_rfl,by kernel_rfl,by kernel_rfl,by kernel_rfl⟩,mg_of X G (by kernel_rfl),by kernel_rfl,by kernel_rfl⟩,
 t7 (by kernel_rfl),
 t7 (by kernel_rfl),
 t7 (by kernel_rfl),
 t7 (by kernel_rfl),
 ⟨⟨by kernel_rfl,by kernel_rfl,by kernel_rfl,by kernel_rfl⟩,mg_of X G (by kernel_rfl),by kernel_rfl,by kernel_rfl⟩,
 t7 (by kernel_rfl),
 t7 (by kernel_rfl),
 ⟨⟨by kernel_rfl,by kernel_rfl,by kernel_rfl,by kernel_rfl⟩,mg_of X G (by kernel_rfl),by kernel_rfl,by kernel_rfl⟩,
 t7 (by kernel_rfl),
 t7 (by kernel_rfl),
 ⟨⟨by kernel_rfl,by kernel_rfl,by kernel_rfl,by kernel_rfl⟩,mg_of X G (by kernel_rfl),by kernel_rfl,by kernel_rfl⟩,
 t7 (by kernel_rfl),
 t7 (by kernel_rfl),
 ⟨mg_of X G (by kernel_rfl),by kernel_rfl⟩,
 ⟨mg_of X G (by kernel_rfl),by kernel_rfl⟩,
 ⟨mg_of X G (by kernel_rfl),by kernel_rfl⟩,
 ⟨mg_of X G (by kernel_rfl),by kernel_rfl⟩,
 ⟨mg_of X G (by kernel_rfl),by kernel_rfl⟩,
 kh X G (by kernel_rfl),
 kh X G (by kernel_rfl),
 kh X G (by kernel_rfl),
 kh X G (by kernel_rfl),
 kh X G (by kernel_rfl),
 kh X G (by kernel_rfl),
 kh X G (by kernel_rfl),
 kh X G (by kernel_rfl),
 kh X G (by kernel_rfl),
 kh X G (by kernel_rfl),
 kh X G (by kernel_rfl),
 kh X G (by kernel_rfl),
 kh X G (by kernel_rfl),
 kh X G (by kernel_rfl),
 kh X G (by kernel_rfl),
 kh X G (by kernel_rfl),
 kh X G (by kernel_rfl),
 kh X G (by kernel_rfl),
 kh X G (by kernel_rfl),
 kh X G (by kernel_rfl),
 mg_of X G (by kernel_rfl),
 λ H=>.inr ⟨_,_,_,(show (Kt P).lookup 22=some ⟨.type "tuple",none,.seq #[(.int 115 236),(.int 116 237),(.int 97 238),(.int 116 239),(.int 101 240)] 0,#[]⟩ by kernel_rfl),rfl,rfl,(by show (5:Nat)<=sizeLine;decide),.cons ⟨_,rfl⟩ (.cons ⟨_,rfl⟩ (.cons ⟨_,rfl⟩ (.cons ⟨_,rfl⟩ (.cons ⟨_,rfl⟩ (.nil)))))⟩,
 kh X G (by kernel_rfl),
 kh X G (by kernel_rfl),
 kh X G (by kernel_rfl),
 kh X G (by kernel_rfl),
 kh X G (by kernel_rfl),
 kh X G (by kernel_rfl),
 kh X G (by kernel_rfl),
 kh X G (by kernel_rfl),
 mg_none_of X G (by kernel_rfl),
 mg_none_of X G (by kernel_rfl),
 mg_none_of X G (by kernel_rfl),
 mg_none_of X G (by kernel_rfl),
 mg_none_of X G (by kernel_rfl),
 mg_none_of X G (by kernel_rfl),
 mg_none_of X G (by kernel_rfl),
 mg_none_of X G (by kernel_rfl),
 mg_none_of X G (by kernel_rfl),
 mg_none_of X G (by kernel_rfl),
 mg_none_of X G (by kernel_rfl),
 mg_none_of X G (by kernel_rfl),
 jK (by kernel_rfl),
 jK (by kernel_rfl),
 jK (by kernel_rfl),
 jK (by kernel_rfl),
 jK (by kernel_rfl),
 jK (by kernel_rfl),
 jK (by kernel_rfl),
 jK (by kernel_rfl),
 jK (by kernel_rfl),
 jK (by kernel_rfl),
 jK (by kernel_rfl),
 jK (by kernel_rfl),
 jK (by kernel_rfl),
 jK (by kernel_rfl),
 jK (by kernel_rfl),
 jK (by kernel_rfl),
 jK (by kernel_rfl),
 jK (by kernel_rfl),
 jK (by kernel_rfl),
 jK (by kernel_rfl)⟩⟩
end Ck
end
noncomputable section
namespace Fq
open Ra61
def Is(x:Fr)(a b:Int):Prop:=0<x.den/\0<b/\x.num*b=a*(x.den:Int)
theorem M5{z:Int}{d:Nat}(h:0<d):0<(fr z d).den:=by
 show 0<d/max 1 (br z.natAbs d)
 have hg:0<br z.natAbs d:=cW _ h
 rw[Nat.max_eq_right hg]
 exact Nat.div_pos (Nat.le_of_dvd h (gC _ _)) hg
theorem UD{z:Int}{d:Nat}(h:0<d):Is (fr z d) z d:=by
 refine⟨M5 h,by omega,?_⟩
 have hg:0<br z.natAbs d:=cW _ h
 show z/((max 1 (br z.natAbs d):Nat):Int)*(d:Int)=z*((d/max 1 (br z.natAbs d):Nat):Int)
 rw[Nat.max_eq_right hg]
 have h1:((br z.natAbs d:Nat):Int) ∣ z:=Int.ofNat_dvd_left.mpr (Nat.gcd_dvd_left _ _)
 obtain⟨k,hk⟩:=h1
 obtain⟨m,hm⟩:=gC z.natAbs d
 generalize br z.natAbs d=g at hk hm hg
 subst hk
 have hg':(g:Int)≠0:=by omega
 rw[Int.mul_ediv_cancel_left _ hg',hm,Nat.mul_div_cancel_left _ hg]
 push_cast
 rw[Int.mul_comm (g:Int) k,Int.mul_assoc]
theorem Bb(z:Int){d k:Nat}(hk:0<k):frac (z*(k:Int)) (d*k)=frac z d:=by
 have e1:(z*(k:Int)).natAbs=z.natAbs*k:=by rw[gu];rfl
 have e2:(z*(k:Int)<0)↔z<0:=by
  constructor
  ·intro h
   rcases Int.lt_or_le z 0 with q | q
   ·exact q
   ·have:=Int.mul_nonneg q (show (0:Int)<=(k:Int) by omega);omega
  ·intro h;exact Int.mul_neg_of_neg_of_pos h (by omega)
 unfold frac
 simp only[e1,e2,Nat.gcd_mul_right,Nat.mul_div_mul_right _ _ hk]
theorem Px{z z':Int}{d d':Nat}(hd:0<d)(hd':0<d')(e:z*(d':Int)=z'*(d:Int)):frac z d=frac z' d':=by
 rw[<-Bb z (d:=d) hd',<-Bb z' (d:=d') hd,e,gR d d']
theorem Is.told{x:Fr}{a b:Int}(h:Is x a b):toldFr x=frac a b.toNat:=by
 obtain⟨h1,h2,h3⟩:=h
 refine Px h1 (by omega) ?_
 rw[f9 (by omega)]
 exact h3
def M6(v:Row)(jc:List Int)(bot:Int):Prop:=v.length=jc.length/\∀i:Nat,i<jc.length->Is (at_ v i) (jc.getD i 0) bot
theorem M6.at{v:Row}{jc:List Int}{bot:Int}(h:M6 v jc bot){i:Nat}(hi:i<jc.length):Is (at_ v i) (jc.getD i 0) bot:=h.2 i hi
def ahead(ws:List (Nat×Nat))(jc:List Int):Int:=(ws.map λ w=>(w.2:Int)*jc.getD w.1 0).sum
structure kX where
 name:List Nat
 gain:Int
 ways:List (Nat×Nat)
 tot:Int
def kX.top(o:kX)(jc:List Int)(bot:Int):Int:=o.gain*o.tot*bot+ahead o.ways jc
def kX.better(o p:kX)(jc:List Int)(bot:Int):Bool:=decide (p.top jc bot*o.tot<o.top jc bot*p.tot)
def jD:kX:=⟨[],0,[],1⟩
def kI(os:List kX)(jc:List Int)(bot:Int):Nat->List kX->Nat->Nat
 |_,[],b=>b
 |i,o::r,b=>kI os jc bot (i+1) r (if o.better (os.getD b jD) jc bot=true then i else b)
def pick(os:List kX)(jc:List Int)(bot:Int)(b:Nat):Nat:=kI os jc bot 0 os b
def Iu(o p:kX)(jc:List Int)(bot:Int):Prop:=o.top jc bot*p.tot<=p.top jc bot*o.tot
theorem Dw{o p q:kX}{jc:List Int}{bot:Int}(ho:0<o.tot)(hp:0<p.tot)(hq:0<q.tot)(h:Iu o p jc bot)(k:Iu p q jc bot):Iu o q jc bot:=by
 unfold Iu at *
 have h1:=bP h (fB hq)
 have h2:=bP k (fB ho)
 generalize o.top jc bot=a at *
 generalize p.top jc bot=b at *
 generalize q.top jc bot=c at *
 have e1:a*p.tot*q.tot=a*q.tot*p.tot:=by grind
 have e2:b*o.tot*q.tot=b*q.tot*o.tot:=by grind
 have e3:c*p.tot*o.tot=c*o.tot*p.tot:=by grind
 have e:a*q.tot*p.tot<=c*o.tot*p.tot:=by omega
 exact Int.le_of_mul_le_mul_right e hp
theorem zZ{os:List kX}{jc:List Int}{bot:Int}(ht:∀o∈os,0<o.tot):∀(r:List kX) (i b:Nat),os.drop i=r->b<os.length ->
  kI os jc bot i r b<os.length/\Iu (os.getD b jD) (os.getD (kI os jc bot i r b) jD) jc bot/\∀o∈r,Iu o (os.getD (kI os jc bot i r b) jD) jc bot
 |[],i,b,_,hb=>⟨hb,Int.le_refl _,by simp⟩
 |o::r,i,b,hd,hb=>by
  have hil:i<os.length:=by
   have:=congrArg fc hd;rw[fK] at this;simp at this;omega
  have UE:os[i]=o:=by
   rw[bC hil] at hd;exact (gI hd).1
  have hdr:os.drop (i+1)=r:=by
   rw[bC hil] at hd;exact (gI hd).2
  have gD:∀{j:Nat} (hj:j<os.length),os.getD j jD=os[j]:=λ hj=>by rw[aa,af hj];rfl
  have tD:∀{j:Nat} (hj:j<os.length),0<(os.getD j jD).tot:=λ hj=>by rw[gD hj];exact ht _ (aV hj)
  show kI os jc bot (i+1) r (if o.better (os.getD b jD) jc bot=true then i else b)<os.length/\Iu _ (os.getD (kI os jc bot (i+1) r (if o.better (os.getD b jD) jc bot=true then i else b)) jD) jc bot/\_
  by_cases q:o.better (os.getD b jD) jc bot=true
  ·rw[if_pos q];obtain⟨i1,i2,i3⟩:=zZ ht r (i+1) i hdr hil;unfold kX.better at q;rw[decide_eq_true_eq] at q;rw[gD hil,UE] at i2;refine⟨i1,?_,λ p hp=>?_⟩
   ·exact Dw (tD hb) (UE ▸ ht _ (aV hil)) (tD i1) (fB q) i2
   ·show Iu p (os.getD (kI os jc bot (i+1) r (if o.better (os.getD b jD) jc bot=true then i else b)) jD) jc bot;rw[if_pos (by unfold kX.better;rw[decide_eq_true_eq];exact q)]
    rcases aA.mp hp with rfl | hp
    ·exact i2
    ·exact i3 p hp
  ·rw[if_neg q];obtain⟨i1,i2,i3⟩:=zZ ht r (i+1) b hdr hb;have q':=q;unfold kX.better at q';rw[decide_eq_true_eq,Int.not_lt] at q';refine⟨i1,i2,λ p hp=>?_⟩;show Iu p (os.getD (kI os jc bot (i+1) r (if o.better (os.getD b jD) jc bot=true then i else b)) jD) jc bot;rw[if_neg q]
   rcases aA.mp hp with rfl | hp
   ·exact Dw (UE ▸ ht _ (aV hil)) (tD hb) (tD i1) q' i2
   ·exact i3 p hp
theorem Bc{os:List kX}{jc:List Int}{bot:Int}{b:Nat}(ht:∀o∈os,0<o.tot)(hb:b<os.length):pick os jc bot b<os.length/\∀o∈os,Iu o (os.getD (pick os jc bot b) jD) jc bot:=
 let ⟨a,_,c⟩:=zZ ht os 0 b rfl hb
 ⟨a,c⟩
structure Good(N:Net):Prop where
 len:1<=N.length/\N.length<=16
 few:∀s∈N,s.choices.length<=8
 ways:∀s∈N,∀c∈s.choices,c.ways≠[]/\c.ways.length<=16/\(∀w∈c.ways,w.1<N.length/\1<=w.2/\w.2<=1000)/\-1000<=c.gain/\c.gain<=1000
theorem qK{N:Net}{s:Nat}{c:Choice}(h:c∈choicesOf N s):∃x∈N,c∈x.choices:=by
 unfold choicesOf at h
 cases e:N[s]? with
 |none=>rw[e] at h;simp at h
 |some x=>rw[e] at h;exact⟨x,au e,by simpa using h⟩
theorem Bd{c:Choice}(hn:c.ways≠[])(h:∀w∈c.ways,1<=w.2):0<c.weight:=by
 unfold Choice.weight
 cases e:c.ways with
 |nil=>exact absurd e hn
 |cons w r=>
  rw[aT,cV];have:=h w (by rw[e];exact aO);omega
def lX(times:Int)(c:Choice):kX:=⟨c.name,c.gain*times,c.ways,(c.weight:Int)⟩
def tK(N:Net)(g:Nat)(times:Int):List (List kX):=(aB N.length).map λ s=>if isGoal g s=true then [] else (choicesOf N s).map (lX times)
def Eo(N:Net)(g:Nat):List Int:=(aB N.length).map λ s=>if isGoal g s=true then 1 else 0
end Fq
end
noncomputable section
namespace Rd
open Ra61
theorem yT{α:Type}[DecidableEq α]:∀(l m:List α),l.Nodup->(∀x∈l,x∈m)->l.length<=m.length
 |[],_,_,_=>bf _
 |x::l,m,hn,hs=>by
  rw[cR] at hn;have hx:=hs x aO;have ih:=yT l (m.erase x) hn.2 λ y hy=>by
   have ne:y≠x:=λ e=>hn.1 (by rw[<-e];exact hy)
   exact (ig ne).mpr (hs y (aL _ hy))
  rw[gG hx] at ih;have:0<m.length:=gW hx;rw[aJ];omega
theorem Dy{b:B}{x}(h:m8 b=some x):1<=x.1.2/\x.1.2<=1000:=by
 obtain⟨a,_,h⟩:=bind_some h
 obtain⟨y,_,h⟩:=bind_some h
 obtain⟨n,_,h⟩:=bind_some h
 obtain⟨q,h⟩:=jj h
 cases h
 exact q
theorem UG:∀(n:Nat) (b:B),b.length<n->∀r,MW b=some r->∀w∈r.1,1<=w.2/\w.2<=1000
 |0,b,h,_,_=>by omega
 |n+1,b,h,r,e=>by
  rw[xu] at e;have hp:=ju 44 b
  split at e
  ·rename_i hx
   have hl:=vn (m:=44) (by decide) hx;obtain⟨w,e1,e⟩:=bind_some e;obtain⟨z,e2,rfl⟩:=map_some e;have:=kP e1;intro v hv
   rcases aA.mp hv with rfl | hv
   ·exact Dy e1
   ·exact UG n w.2 (by omega) z e2 v hv
  ·cases e;simp
theorem zy{b:B}{x}(h:jP b=some x):x.1.length<=16:=by
 unfold jP at h
 dsimp only at h
 obtain⟨_,h⟩:=jj h
 obtain⟨l,h⟩:=jj h
 cases h
 exact l
structure Iv(c:RawChoice):Prop where
 ne:c.ways≠[]
 w:∀w∈c.ways,1<=w.2/\w.2<=1000
 nd:(c.ways.map λ w=>w.1).Nodup
 g:-1000<=c.gain/\c.gain<=1000
 nm:c.name.length<=16
theorem G5{b:B}{x}(h:oS b=some x):-1000<=x.1/\x.1<=1000:=by
 obtain⟨y,_,h⟩:=bind_some h
 obtain⟨n,_,h⟩:=bind_some h
 obtain⟨q,h⟩:=jj h
 cases h
 show -1000<=(if y.1=true then -(n.1:Int) else (n.1:Int))/\(if y.1=true then -(n.1:Int) else (n.1:Int))<=1000
 split<;>omega
theorem Ep{b:B}{x}(h:kO b=some x):Iv x.1:=by
 rw[mV] at h
 obtain⟨a,h1,h⟩:=bind_some h
 obtain⟨g,h2,h⟩:=bind_some h
 obtain⟨_,h⟩:=jj h
 obtain⟨y,h4,h⟩:=bind_some h
 obtain⟨r,h5,h⟩:=bind_some h
 obtain⟨_,h⟩:=jj h
 obtain⟨nd,h⟩:=jj h
 cases h
 refine⟨by simp,λ w hw=>?_,nd,G5 h2,zy h1⟩
 rcases aA.mp hw with rfl | hw
 ·exact Dy h4
 ·exact UG _ _ (aD _) _ h5 w hw
theorem UH:∀(n:Nat) (b:B),b.length<n->∀r,MC b=some r->∀c∈r.1,Iv c
 |0,b,h,_,_=>by omega
 |n+1,b,h,r,e=>by
  rw[xw] at e;have hp:=ju 125 b
  split at e
  ·cases e;simp
  ·obtain⟨w,e1,e⟩:=bind_some e;obtain⟨z,e2,rfl⟩:=map_some e;have:=lQ e1;intro c hc
   rcases aA.mp hc with rfl | hc
   ·exact Ep e1
   ·exact UH n w.2 (by omega) z e2 c hc
theorem FH{b:B}{x}(h:readState b=some x):x.1.choices.length<=8/\∀c∈x.1.choices,Iv c:=by
 rw[nO] at h
 obtain⟨a,h1,h⟩:=bind_some h
 obtain⟨_,h⟩:=jj h
 obtain⟨y,h4,h⟩:=bind_some h
 obtain⟨_,h⟩:=jj h
 obtain⟨r,h5,h⟩:=bind_some h
 obtain⟨l,h⟩:=jj h
 obtain⟨_,h⟩:=jj h
 cases h
 exact⟨l,UH _ _ (aD _) _ h5⟩
theorem UI:∀(n:Nat) (b:B),b.length<n->∀r,MS b=some r->∀s∈r,s.choices.length<=8/\∀c∈s.choices,Iv c
 |0,b,h,_,_=>by omega
 |n+1,b,h,r,e=>by
  rw[xx] at e;have hp:=kD false b
  split at e
  ·cases e;simp
  ·obtain⟨w,e1,e⟩:=bind_some e;obtain⟨z,e2,rfl⟩:=map_some e;have:=lY e1;intro s hs
   rcases aA.mp hs with rfl | hs
   ·exact FH e1
   ·exact UI n w.2 (by omega) z e2 s hs
theorem G6{names:List B}{x:B}(h:names.contains x=true):placeOf names x<names.length:=by
 have hm:x∈names:=by simpa using h
 unfold placeOf
 cases e:names.findIdx? (λ y=>y==x) with
 |none=>
  rw[eH] at e;have:=e x hm;simp at this
 |some j=>
  rw[bX] at e;obtain⟨h1,_⟩:=e;exact h1
theorem FI{b:B}{N:Net}(h:ku b=some N):Fq.Good N:=by
 rw[qP] at h
 obtain⟨raw,h1,h⟩:=bind_some h
 obtain⟨hl,h⟩:=jj h
 obtain⟨hn,h⟩:=jj h
 obtain⟨hc,h⟩:=jj h
 cases h
 have hg:=UI _ _ (aD _) _ h1
 have len:(placed raw).length=raw.length:=by unfold placed;simp
 have mem:∀s∈placed raw,∃r∈raw,s=⟨r.name,r.choices.map λ c=>⟨c.name,c.gain,c.ways.map λ w=>(placeOf (raw.map λ s=>s.name) w.1,w.2)⟩⟩:=λ s hs=>by
  obtain⟨r,hr,e⟩:=az.mp hs;exact⟨r,hr,e.symm⟩
 refine⟨by rw[len];exact hl,λ s hs=>?_,λ s hs c O1=>?_⟩
 ·obtain⟨r,hr,rfl⟩:=mem s hs
  have:=(hg r hr).1
  simpa using this
 ·obtain⟨r,hr,rfl⟩:=mem s hs
  obtain⟨c',hc',rfl⟩:=az.mp O1;have G:=(hg r hr).2 c' hc';have QM:∀w∈c'.ways,(raw.map λ s=>s.name).contains w.1=true:=λ w hw=>by
   have z1:=aY.mp hc r hr;have z2:=aY.mp z1 c' hc';exact aY.mp z2 w hw
  have nl:(raw.map λ s=>s.name).length=raw.length:=by simp
  refine⟨λ z=>G.ne (by simpa using z),?_,λ w hw=>?_,G.g⟩
  ·have:=yT (c'.ways.map λ w=>w.1) (raw.map λ s=>s.name) G.nd λ x hx=>by
    obtain⟨w,hw,rfl⟩:=az.mp hx
    simpa using QM w hw
   simp only[ah] at this ⊢
   omega
  ·obtain⟨w',vp,rfl⟩:=az.mp hw;refine⟨?_,G.w w' vp⟩;rw[len,<-nl];exact G6 (QM w' vp)
end Rd
end
noncomputable section
namespace Rd
open Ra61
theorem FJ{b:B}{x}(h:readState b=some x):x.1.name.length<=16:=by
 rw[nO] at h
 obtain⟨a,h1,h⟩:=bind_some h
 obtain⟨_,h⟩:=jj h
 obtain⟨y,h4,h⟩:=bind_some h
 obtain⟨_,h⟩:=jj h
 obtain⟨r,h5,h⟩:=bind_some h
 obtain⟨l,h⟩:=jj h
 obtain⟨_,h⟩:=jj h
 cases h
 exact zy h4
theorem UJ:∀(n:Nat) (b:B),b.length<n->∀r,MS b=some r->∀s∈r,s.name.length<=16
 |0,b,h,_,_=>by omega
 |n+1,b,h,r,e=>by
  rw[xx] at e;have hp:=kD false b
  split at e
  ·cases e;simp
  ·obtain⟨w,e1,e⟩:=bind_some e;obtain⟨z,e2,rfl⟩:=map_some e;have:=lY e1;intro s hs
   rcases aA.mp hs with rfl | hs
   ·exact FJ e1
   ·exact UJ n w.2 (by omega) z e2 s hs
theorem Km{b:B}{N:Net}(h:ku b=some N):∀s∈N,s.name.length<=16:=by
 rw[qP] at h
 obtain⟨raw,h1,h⟩:=bind_some h
 obtain⟨hl,h⟩:=jj h
 obtain⟨hn,h⟩:=jj h
 obtain⟨hc,h⟩:=jj h
 cases h
 intro s hs
 obtain⟨r,hr,rfl⟩:=az.mp hs
 exact UJ _ _ (aD _) _ h1 r hr
end Rd
end
noncomputable section
namespace La
def sm:Nat->(Nat->Rat)->Rat
 |0,_=>0
 |n+1,f=>sm n f+f n
theorem kQ{n:Nat}{f g:Nat->Rat}(h:∀i,i<n->f i=g i):sm n f=sm n g:=by
 induction n with
 |zero=>rfl
 |succ n ih=>simp only[sm];rw[ih λ i hi=>h i (bZ hi),h n (aD n)]
theorem G7(n:Nat)(f g:Nat->Rat):sm n (λ i=>f i+g i)=sm n f+sm n g:=by
 induction n with
 |zero=>simp only[sm];grind
 |succ n ih=>simp only[sm];rw[ih];grind
theorem wO(n:Nat)(k:Rat)(f:Nat->Rat):sm n (λ i=>k*f i)=k*sm n f:=by
 induction n with
 |zero=>simp[sm]
 |succ n ih=>simp only[sm];rw[ih];grind
theorem G8(n:Nat)(k:Rat)(f g:Nat->Rat):sm n (λ i=>f i-k*g i)=sm n f-k*sm n g:=by
 induction n with
 |zero=>simp only[sm];grind
 |succ n ih=>simp only[sm];rw[ih];grind
theorem z4{n:Nat}{f:Nat->Rat}(h:∀i,i<n->f i=0):sm n f=0:=by
 induction n with
 |zero=>rfl
 |succ n ih=>simp only[sm];rw[ih λ i hi=>h i (bZ hi),h n (aD n)];grind
theorem yU{n i:Nat}{f:Nat->Rat}(hi:i<n)(h:∀j,j<n->j≠i->f j=0):sm n f=f i:=by
 induction n with
 |zero=>omega
 |succ n ih=>
  simp only[sm]
  by_cases e:i=n
  ·subst e;rw[z4 λ j hj=>h j (bZ hj) (aW hj)];grind
  ·rw[ih (by omega) λ j hj hn=>h j (bZ hj) hn,h n (aD n) λ z=>e z.symm];grind
theorem QN{n:Nat}{f g:Nat->Rat}(h:∀i,i<n->f i<=g i):sm n f<=sm n g:=by
 induction n with
 |zero=>simp[sm]
 |succ n ih=>
  simp only[sm]
  have a:=ih λ i hi=>h i (bZ hi)
  have b:=h n (aD n);grind
theorem Kn{n i:Nat}{f:Nat->Rat}(hi:i<n)(h:∀j,j<n->j≠i->f j<=0):sm n f<=f i:=by
 have a:sm n f<=sm n (λ j=>if j=i then f j else 0):=QN λ j hj=>by
  by_cases e:j=i
  ·simp[e]
  ·simp only[e,if_false];exact h j hj e
 have b:sm n (λ j=>if j=i then f j else 0)=(if i=i then f i else 0):=yU (f:=λ j=>if j=i then f j else 0) hi λ j _ e=>by simp only[e,if_false]
 rw[b,if_pos rfl] at a
 exact a
theorem WO{n m:Nat}(h:n<=m){f:Nat->Rat}(z:∀i,n<=i->i<m->f i=0):sm m f=sm n f:=by
 induction m with
 |zero=>
   have:n=0:=by omega
   subst this;rfl
 |succ m ih=>
  by_cases e:n=m+1
  ·subst e;rfl
  ·simp only[sm]
   rw[ih (by omega) λ i a b=>z i a (by omega),z m (by omega) (by omega)];grind
def G(A:Nat->Nat->Rat):Nat->Nat->Nat->Rat
 |0=>A
 |k+1=>λ i j=>if i=k then G A k k j/G A k k k else G A k i j-G A k i k*(G A k k j/G A k k k)
section
variable{A:Nat->Nat->Rat}{n:Nat}
theorem RY(hp:∀k,k<n->G A k k k≠0):∀k,k<=n->∀i m,m<k->G A k i m=if i=m then 1 else 0
 |0,_,i,m,h=>absurd h (g7 _)
 |k+1,hk,i,m,h=>by
  have p:=hp k hk;have I:=RY hp k (aZ hk);simp only[G]
  by_cases e:m=k
  ·subst e
   by_cases e2:i=m
   ·simp only[e2,if_true];grind
   ·simp only[e2,if_false];grind
  ·have hm:m<k:=by omega
   have z:=I k m hm;rw[if_neg (by omega)] at z;rw[z,I i m hm]
   by_cases e2:i=k
   ·subst e2;simp only[if_true];rw[if_neg (by omega)];grind
   ·simp only[e2,if_false];grind
theorem Bf(hp:∀k,k<n->G A k k k≠0):∀k,k<=n->∀i j,A i j=sm k (λ m=>A i m*G A k m j)+(if k<=i then G A k i j else 0)
 |0,_,i,j=>by simp only[sm,G,bf,if_true];grind
 |k+1,hk,i,j=>by
  have p:=hp k hk;have I:=Bf hp k (aZ hk) i;have Ij:=I j;have Ik:=I k;have e1:sm k (λ m=>A i m*G A (k+1) m j)=sm k (λ m=>A i m*G A k m j)-(G A k k j/G A k k k)*sm k (λ m=>A i m*G A k m k):=by
   rw[<-G8];refine kQ λ m hm=>?_
   simp only[G,show m≠k from aW hm,if_false]
   grind
  simp only[sm]
  rw[e1];have e2:G A (k+1) k j=G A k k j/G A k k k:=by simp[G]
  rw[e2]
  by_cases h:k+1<=i
  ·have h2:k<=i:=by omega
   simp only[h,h2,if_true] at Ij Ik ⊢
   have e3:G A (k+1) i j=G A k i j-G A k i k*(G A k k j/G A k k k):=by simp[G,show i≠k by omega]
   rw[e3];generalize G A k k j/G A k k k=x at *
   grind
  ·simp only[h,if_false]
   by_cases h2:k<=i
   ·have:i=k:=by omega
    subst this;simp only[aq,if_true] at Ij Ik
    have:G A i i i*(G A i i j/G A i i i)=G A i i j:=by grind
    generalize G A i i j/G A i i i=x at *
    grind
   ·simp only[h2,if_false] at Ij Ik
    generalize G A k k j/G A k k k=x at *
    grind
structure Dom(A:Nat->Nat->Rat)(n:Nat)(u:Nat->Rat):Prop where
 off:∀i j,i<n->j<n->j≠i->A i j<=0
 pos:∀i,i<n->0<u i
 sum:∀i,i<n->0<sm n (λ j=>A i j*u j)
theorem M7{u:Nat->Rat}{k:Nat}{B:Nat->Rat}(hk:k<n)(pos:∀i,i<n->0<u i)(off:∀j,j<n->j≠k->B j<=0)(s:0<sm n (λ j=>B j*u j)):0<B k:=by
 have a:sm n (λ j=>B j*u j)<=B k*u k:=Kn (f:=λ j=>B j*u j) hk λ j hj e=>by
  have b:=off j hj e;have c:=pos j hj;have:0<=(-B j)*u j:=bq (by grind) (by grind);grind
 have b:0<B k*u k:=by grind
 have c:=pos k hk
 by_cases h:0<B k
 ·exact h
 ·have:0<=(-B k)*u k:=bq (by grind) (by grind)
  grind
theorem Iw{u:Nat->Rat}(D:Dom A n u):∀k,k<=n->(∀m,m<k->0<G A m m m)/\(∀i,k<=i->i<n->(∀j,j<n->j≠i->G A k i j<=0)/\0<sm n (λ j=>G A k i j*u j))
 |0,_=>⟨λ _ h=>absurd h (g7 _),λ i _ hi=>⟨λ j hj e=>D.off i j hi hj e,D.sum i hi⟩⟩
 |k+1,hk=>by
  obtain⟨P,Q⟩:=Iw D k (aZ hk);obtain⟨qo,qs⟩:=Q k (aq k) hk;have pk:0<G A k k k:=M7 (u:=u) hk D.pos qo qs;refine⟨λ m hm=>?_,λ i hi hin=>?_⟩
  ·by_cases e:m=k
   ·subst e;exact pk
   ·exact P m (by omega)
  ·obtain⟨ro,rs⟩:=Q i (by omega) hin;have f:=ro k hk (by omega);have x:0<=(-G A k i k)/G A k k k:=by
    rw[iy];exact bq (by grind) (bQ (Rat.inv_pos.mpr pk))
   have step:∀j,G A (k+1) i j=G A k i j+((-G A k i k)/G A k k k)*G A k k j:=λ j=>by
    simp only[G,show i≠k by omega,if_false];grind
   refine⟨λ j hj e=>?_,?_⟩
   ·rw[step j]
    by_cases ej:j=k
    ·subst ej;grind
    ·have a:=ro j hj e;have b:=qo j hj ej;have:0<=((-G A k i k)/G A k k k)*(-G A k k j):=bq x (by grind);grind
   ·have e:sm n (λ j=>G A (k+1) i j*u j)=sm n (λ j=>G A k i j*u j)+((-G A k i k)/G A k k k)*sm n (λ j=>G A k k j*u j):=by
     rw[<-wO,<-G7];refine kQ λ j _=>?_
     rw[step j];grind
    rw[e];have:0<=((-G A k i k)/G A k k k)*sm n (λ j=>G A k k j*u j):=bq x (by grind);grind
end
theorem Dom.mono{A:Nat->Nat->Rat}{n:Nat}{u:Nat->Rat}(D:Dom A n u){x:Nat->Rat}(h:∀i,i<n->0<=sm n (λ j=>A i j*x j)):∀i,i<n->0<=x i:=by
 have least:∀m,m<=n->0<m->∃i,i<m/\∀j,j<m->x i*u j<=x j*u i:=by
  intro m
  induction m with
  |zero=>intro _ h;omega
  |succ m ih=>
   intro hm _
   by_cases e:m=0
   ·subst e;exact⟨0,by omega,λ j hj=>by
     have:j=0:=by omega
     subst this;exact bK⟩
   ·obtain⟨i,hi,hl⟩:=ih (by omega) (by omega);have ui:=D.pos i (by omega);have um:=D.pos m (by omega)
    by_cases c:x i*u m<=x m*u i
    ·refine⟨i,by omega,λ j hj=>?_⟩
     by_cases ej:j=m
     ·subst ej;exact c
     ·exact hl j (by omega)
    ·refine⟨m,by omega,λ j hj=>?_⟩
     by_cases ej:j=m
     ·subst ej;exact bK
     ·have a:=hl j (by omega);have uj:=D.pos j (by omega);have b:x m*u i*u j<=x i*u m*u j:=cD (by grind) (by grind);have d:x i*u j*u m<=x j*u i*u m:=cD a (by grind);have f:(x m*u j)*u i<=(x j*u m)*u i:=by grind
      exact Rat.le_of_mul_le_mul_right f ui
 intro i hi
 obtain⟨l,hl,low⟩:=least n (aq n) (by omega)
 have ul:=D.pos l hl
 have key:0<=x l:=by
  by_cases c:0<=x l
  ·exact c
  ·exfalso
   have a:=h l hl;have s:=D.sum l hl;have b:sm n (λ j=>u l*(A l j*x j))<=sm n (λ j=>x l*(A l j*u j)):=QN λ j hj=>by
    by_cases e:j=l
    ·subst e;grind
    ·have o:=D.off l j hl hj e;have q:=low j hj;have:0<=(-A l j)*(x j*u l-x l*u j):=bq (by grind) (by grind);grind
   rw[wO,wO] at b;have t1:0<=u l*sm n (λ j=>A l j*x j):=bq (by grind) a;have t2:0<(-x l)*sm n (λ j=>A l j*u j):=fV (by grind) s;grind
 have ui:=D.pos i hi
 have:=low i hi
 have t:0<=x l*u i:=bq key (by grind)
 have t2:0<=x i*u l:=by grind
 by_cases c:0<=x i
 ·exact c
 ·have:0<(-x i)*u l:=fV (by grind) ul
  grind
def S(f:Nat->List Nat->Rat):List Nat->Rat
 |[]=>0
 |c::cs=>f c cs-S (λ d ds=>f d (c::ds)) cs
theorem qL{f g:Nat->List Nat->Rat}(h:∀c cs,f c cs=g c cs)(C:List Nat):S f C=S g C:=by
 have:f=g:=funext λ c=>funext λ cs=>h c cs
 rw[this]
theorem Iz:∀(C:List Nat) (f g:Nat->List Nat->Rat),S (λ c cs=>f c cs+g c cs) C=S f C+S g C
 |[],f,g=>by simp only[S];grind
 |a::C,f,g=>by simp only[S];rw[Iz C];grind
theorem M8:∀(C:List Nat) (f:Nat->List Nat->Rat),S (λ c cs=>- f c cs) C = - S f C
 |[],f=>by simp only[S];grind
 |a::C,f=>by simp only[S];rw[M8 C];grind
theorem M9:∀(C:List Nat) (f:Nat->List Nat->Rat),(∀c cs,f c cs=0)->S f C=0
 |[],f,h=>rfl
 |a::C,f,h=>by simp only[S];rw[h,M9 C _ λ c cs=>h c _];grind
theorem QO:∀(C:List Nat) (h:Nat->Nat->List Nat->Rat),(∀c d cs,h c d cs=h d c cs)->S (λ c C'=>S (h c) C') C=0
 |[],h,sym=>rfl
 |a::C,h,sym=>by
  have e:∀c C',S (h c) (a::C')=h c a C' + - S (λ d ds=>h c d (a::ds)) C':=λ c C'=>by simp only[S];grind
  have e2:S (λ c C'=>S (h c) (a::C')) C=S (λ c C'=>h c a C') C + - S (λ c C'=>S (λ d ds=>h c d (a::ds)) C') C:=by
   rw[qL e,Iz,M8]
  show S (h a) C-S (λ c C'=>S (h c) (a::C')) C=0;rw[e2,QO C (λ c d ds=>h c d (a::ds)) λ c d cs=>sym c d _,qL (f:=h a) (g:=λ c C'=>h c a C') λ c cs=>sym a c cs];grind
def D:List (Nat->Rat)->List Nat->Rat
 |[],_=>1
 |v::V,R=>S (λ r R'=>v r*D V R') R
theorem G9(v u:Nat->Rat)(V:List (Nat->Rat))(R:List Nat):D (v::u::V) R = - D (u::v::V) R:=by
 have z:=QO R (λ c d cs=>(v c*u d+u c*v d)*D V cs) λ c d cs=>by grind
 have pull:∀(a b:Nat->Rat) c C',S (λ d cs=>a c*b d*D V cs) C'=a c*S (λ d cs=>b d*D V cs) C':=by
  intro a b c C';have:∀(k:Rat) (g:Nat->List Nat->Rat) (C:List Nat),S (λ d cs=>k*g d cs) C=k*S g C:=by
   intro k g C
   induction C generalizing g with
   |nil=>simp only[S];grind
   |cons x C ih=>simp only[S];rw[ih];grind
  rw[<-this];exact qL (λ d cs=>by grind) C'
 have e:∀c C',S (λ d cs=>(v c*u d+u c*v d)*D V cs) C'=v c*S (λ d cs=>u d*D V cs) C'+u c*S (λ d cs=>v d*D V cs) C':=λ c C'=>by
  rw[<-pull v u,<-pull u v,<-Iz];exact qL (λ d cs=>by grind) C'
 rw[qL e,Iz] at z
 show S _ R = - S _ R
 simp only[D] at z ⊢
 grind
theorem IA(v:Nat->Rat):∀(V₁ V₂:List (Nat->Rat)) (R:List Nat),D (v::(V₁++v::V₂)) R=0
 |[],V₂,R=>by have:=G9 v v V₂ R;rw[dH];grind
 |u::V₁,V₂,R=>by
  rw[fO,G9];have:D (u::v::(V₁++v::V₂)) R=0:=M9 _ _ λ c cs=>by rw[IA v V₁ V₂];grind
  grind
theorem Hg(v:Nat->Rat):∀(V₁ V₂:List (Nat->Rat)),∃σ:Rat,(σ = 1\/σ = -1)/\∀R,D (v::(V₁++V₂)) R = σ*D (V₁++v::V₂) R
 |[],V₂=>⟨1,.inl rfl,λ R=>by rw[dH,dH];grind⟩
 |u::V₁,V₂=>by
  obtain⟨σ,hs,h⟩:=Hg v V₁ V₂;refine⟨-σ,by rcases hs with rfl | rfl<;>grind,λ R=>?_⟩;rw[fO,G9];have e:D (u::v::(V₁++V₂)) R=S (λ r R'=>(σ*(u r*D (V₁++v::V₂) R'))) R:=qL (λ c cs=>by rw[h];grind) R;have e2:S (λ r R'=>(σ*(u r*D (V₁++v::V₂) R'))) R = σ*D (u::(V₁++v::V₂)) R:=by
   rcases hs with rfl | rfl
   ·rw[qL (g:=λ r R'=>u r*D (V₁++v::V₂) R') λ c cs=>by grind];simp only[D];grind
   ·rw[qL (g:=λ r R'=>- (u r*D (V₁++v::V₂) R')) λ c cs=>by grind,M8];simp only[D];grind
  rw[e,e2,fO];grind
def Bg(x:Rat):Prop:=∃z:Int,x=(z:Rat)
theorem Bg.mul{x y:Rat}(a:Bg x)(b:Bg y):Bg (x*y):=by
 obtain⟨p,rfl⟩:=a;obtain⟨q,rfl⟩:=b
 exact⟨p*q,by rw[aK]⟩
theorem Bg.sub{x y:Rat}(a:Bg x)(b:Bg y):Bg (x-y):=by
 obtain⟨p,rfl⟩:=a;obtain⟨q,rfl⟩:=b
 exact⟨p-q,by rw[fX]⟩
theorem Bg.neg{x:Rat}(a:Bg x):Bg (-x):=by
 obtain⟨p,rfl⟩:=a
 exact⟨-p,by rw[eX]⟩
theorem IB:∀(C:List Nat) (f:Nat->List Nat->Rat),(∀c cs,Bg (f c cs))->Bg (S f C)
 |[],f,h=>⟨0,rfl⟩
 |a::C,f,h=>(h a C).sub (IB C _ λ c cs=>h c _)
theorem z5:∀(V:List (Nat->Rat)) (R:List Nat),(∀v∈V,∀r,Bg (v r))->Bg (D V R)
 |[],R,h=>⟨1,rfl⟩
 |v::V,R,h=>IB R _ λ c cs=>(h v (by simp) c).mul (z5 V cs λ u hu=>h u (by simp[hu]))
theorem IC{k:Nat}:∀(R:List Nat),(∀r∈R,r<k)->∀F:Nat->List Nat->Rat,∃c:Nat->Rat,∀a:Nat->Rat,S (λ r R'=>a r*F r R') R=sm k (λ m=>a m*c m)
 |[],_,F=>⟨λ _=>0,λ a=>by simp only[S];rw[z4 λ i _=>by grind]⟩
 |r::R,h,F=>by
  obtain⟨c,hc⟩:=IC R (λ x hx=>h x (by simp[hx])) λ d ds=>F d (r::ds)
  refine⟨λ m=>(if m=r then F r R else 0)-c m,λ a=>?_⟩;simp only[S]
  rw[hc];have e:sm k (λ m=>a m*((if m=r then F r R else 0)-c m))=sm k (λ m=>a m*(if m=r then F r R else 0))-1*sm k (λ m=>a m*c m):=by
   rw[<-G8];exact kQ λ m _=>by grind
  have e3:sm k (λ m=>a m*(if m=r then F r R else 0))=a r*(if r=r then F r R else 0):=yU (f:=λ m=>a m*(if m=r then F r R else 0)) (h r (by simp)) λ j _ hj=>by simp only[hj,if_false];grind
  rw[e,e3,if_pos rfl];grind
theorem Py(n m:Nat)(f:Nat->Nat->Rat):sm n (λ i=>sm m (λ j=>f i j))=sm m (λ j=>sm n (λ i=>f i j)):=by
 induction n with
 |zero=>simp only[sm];rw[z4 λ _ _=>rfl]
 |succ n ih=>simp only[sm];rw[ih,<-G7]
def desc:Nat->List Nat
 |0=>[]
 |k+1=>k::desc k
theorem mZ:∀{k i:Nat},i∈desc k↔i<k
 |0,i=>by simp[desc]
 |k+1,i=>by simp only[desc,aA,mZ];omega
def col(A:Nat->Nat->Rat)(j:Nat):Nat->Rat:=λ r=>A r j
def dd(A:Nat->Nat->Rat):Nat->Rat
 |0=>1
 |k+1=>dd A k*G A k k k
section
variable{A:Nat->Nat->Rat}{n:Nat}
theorem Bh(hp:∀k,k<n->G A k k k≠0){k:Nat}(hk:k<=n)(c:Nat->Rat)(j:Nat):sm k (λ m=>A m j*c m)=sm k (λ l=>sm k (λ m=>A m l*c m)*G A k l j):=by
 have e:∀m,m<k->A m j*c m=sm k (λ l=>A m l*c m*G A k l j):=λ m hm=>by
  have b:=Bf hp k hk m j;rw[if_neg (by omega)] at b;have:sm k (λ l=>A m l*c m*G A k l j)=c m*sm k (λ l=>A m l*G A k l j):=by
   rw[<-wO];exact kQ λ l _=>by grind
  rw[this];grind
 rw[kQ e,Py]
 refine kQ λ l _=>?_
 rw[show sm k (λ m=>A m l*c m)*G A k l j=G A k l j*sm k (λ m=>A m l*c m) by grind,<-wO]
 exact kQ λ m _=>by grind
theorem Na(hp:∀k,k<n->G A k k k≠0):∀k,k<=n->D ((desc k).map (col A)) (desc k)=dd A k/\∀i j,k<=i->D (col A j::(desc k).map (col A)) (i::desc k)=dd A k*G A k i j:=by
 intro k
 have two:∀k,k<=n->D ((desc k).map (col A)) (desc k)=dd A k->∀i j,k<=i->D (col A j::(desc k).map (col A)) (i::desc k)=dd A k*G A k i j:=by
  intro k hk one i j hi;obtain⟨c,hc⟩:=IC (k:=k) (desc k) (λ r hr=>mZ.mp hr) λ r R'=>D ((desc k).map (col A)) (i::R')
  have y:∀l,D (col A l::(desc k).map (col A)) (i::desc k)=A i l*dd A k-sm k (λ m=>A m l*c m):=λ l=>by
   show S (λ r R'=>col A l r*D ((desc k).map (col A)) R') (i::desc k)=_;simp only[S]
   rw[one];have:=hc (col A l);simp only[col] at this ⊢
   rw[this]
  have z:∀l,l<k->sm k (λ m=>A m l*c m)=A i l*dd A k:=λ l hl=>by
   obtain⟨s,t,e⟩:=dD (mZ.mpr hl);have q:=IA (col A l) (s.map (col A)) (t.map (col A)) (i::desc k);have e2:s.map (col A)++col A l::t.map (col A)=(desc k).map (col A):=by rw[e];simp
   rw[e2,y] at q;grind
  rw[y,Bh hp hk c j,kQ (g:=λ l=>dd A k*(A i l*G A k l j)) λ l hl=>by rw[z l hl];grind,wO];have b:=Bf hp k hk i j;rw[if_pos hi] at b;grind
 induction k with
 |zero=>exact λ hk=>⟨rfl,two 0 hk rfl⟩
 |succ k ih=>
  intro hk;have h1:D ((desc (k+1)).map (col A)) (desc (k+1))=dd A (k+1):=(ih (by omega)).2 k k (aq k);exact⟨h1,two (k+1) hk h1⟩
theorem whole(hp:∀k,k<n->G A k k k≠0)(hz:∀i j,Bg (A i j))(k:Nat)(hk:k<=n):Bg (dd A k)/\∀i j,Bg (dd A k*G A k i j):=by
 have RZ:∀(l:List Nat),∀v∈l.map (col A),∀r,Bg (v r):=λ l v hv r=>by
  obtain⟨j,_,rfl⟩:=az.mp hv;exact hz r j
 obtain⟨one,two⟩:=Na hp k hk
 have dz:Bg (dd A k):=by rw[<-one];exact z5 _ _ (RZ _)
 refine⟨dz,λ i j=>?_⟩
 by_cases hi:k<=i
 ·rw[<-two i j hi];exact z5 _ _ (RZ (j::desc k))
 ·have hi:i<k:=by omega
  obtain⟨s,t,e⟩:=dD (mZ.mpr hi);obtain⟨c,hc⟩:=IC (k:=k) (desc k) (λ r hr=>mZ.mp hr) λ r R'=>D ((s++t).map (col A)) R'
  have y:∀l,D (col A l::(s++t).map (col A)) (desc k)=sm k (λ m=>A m l*c m):=λ l=>hc (col A l)
  obtain⟨σ,hs,mv⟩:=Hg (col A i) (s.map (col A)) (t.map (col A));have yi:sm k (λ m=>A m i*c m) = σ*dd A k:=by
   rw[<-y,bw,mv,<-one,e];simp
  have y0:∀l,l<k->l≠i->sm k (λ m=>A m l*c m)=0:=λ l hl hne=>by
   rw[<-y];have hm:l∈s++t:=by
    have:=mZ.mpr hl;rw[e] at this;simp only[bu,aA] at this ⊢
    rcases this with h | h | h
    ·exact .inl h
    ·exact absurd h hne
    ·exact .inr h
   obtain⟨a,b,e2⟩:=dD hm;rw[e2,bw,aT];exact IA _ _ _ _
  have yj:Bg (D (col A j::(s++t).map (col A)) (desc k)):=z5 _ _ (RZ (j::(s++t)));rw[y,Bh hp hk c j,yU (i:=i) hi λ l hl hne=>by rw[y0 l hl hne];grind,yi] at yj
  rcases hs with rfl | rfl
  ·have:(1:Rat)*dd A k*G A k i j=dd A k*G A k i j:=by grind
   rwa [this] at yj
  ·have:dd A k*G A k i j = - (-1*dd A k*G A k i j):=by grind
   rw[this];exact yj.neg
theorem Bj(hp:∀k,k<n->0<G A k k k):∀k,k<=n->0<dd A k
 |0,_=>by simp only[dd];decide
 |k+1,h=>fV (Bj hp k (aZ h)) (hp k h)
theorem turn(hp:∀k,k<n->0<G A k k k){k:Nat}(hk:k<n)(i j:Nat):(dd A (k+1)*(dd A k*G A k i j)-(dd A k*G A k i k)*(dd A k*G A k k j))=dd A k*(if i=k then 0 else dd A (k+1)*G A (k+1) i j)/\dd A k*G A k k j=dd A (k+1)*G A (k+1) k j:=by
 have p:=hp k hk
 have d:=Bj hp k (aZ hk)
 have e:G A k k k*(G A k k j/G A k k k)=G A k k j:=by grind
 constructor
 ·by_cases h:i=k
  ·subst h;simp only[if_true,dd];grind
  ·simp only[h,if_false,dd,G]
   generalize G A k k j/G A k k k=x at *
   grind
 ·simp only[dd,G,if_true];grind
end
def wj:List (Nat×Rat)->Nat->Rat
 |[],_=>0
 |w::ws,j=>(if j=w.1 then w.2 else 0)+wj ws j
def wd:List (Nat×Rat)->(Nat->Rat)->Rat
 |[],_=>0
 |w::ws,x=>w.2*x w.1+wd ws x
theorem QR{n:Nat}{x:Nat->Rat}:∀{ws:List (Nat×Rat)},(∀w∈ws,w.1<n)->sm n (λ j=>wj ws j*x j)=wd ws x
 |[],_=>z4 λ j _=>by simp only[wj];grind
 |w::ws,h=>by
  simp only[wd]
  rw[<-QR (ws:=ws) λ u hu=>h u (by simp[hu])];have e:sm n (λ j=>wj (w::ws) j*x j)=sm n (λ j=>(if j=w.1 then w.2 else 0)*x j)+sm n (λ j=>wj ws j*x j):=by
   rw[<-G7];exact kQ λ j _=>by simp only[wj];grind
  have e2:sm n (λ j=>(if j=w.1 then w.2 else 0)*x j)=(if w.1=w.1 then w.2 else 0)*x w.1:=yU (f:=λ j=>(if j=w.1 then w.2 else 0)*x j) (h w (by simp)) λ j _ hj=>by simp only[hj,if_false];grind
  rw[e,e2,if_pos rfl]
theorem Dz:∀{ws:List (Nat×Rat)},(∀w∈ws,0<=w.2)->∀j,0<=wj ws j
 |[],_,j=>by simp only[wj];exact bK
 |w::ws,h,j=>by
  have a:=Dz (ws:=ws) (λ u hu=>h u (by simp[hu])) j;have b:=h w (by simp);simp only[wj]
  split<;>grind
theorem x6{x y:Nat->Rat}{n:Nat}(h:∀i,i<n->x i<=y i):∀{ws:List (Nat×Rat)},(∀w∈ws,w.1<n)->(∀w∈ws,0<=w.2)->wd ws x<=wd ws y
 |[],_,_=>bK
 |w::ws,a,b=>by
  have i:=x6 h (ws:=ws) (λ u hu=>a u (by simp[hu])) λ u hu=>b u (by simp[hu])
  have c:=bB (h w.1 (a w (by simp))) (b w (by simp));simp only[wd];grind
theorem Nb{x y:Nat->Rat}:∀(ws:List (Nat×Rat)),wd ws (λ i=>x i-y i)=wd ws x-wd ws y
 |[]=>by simp only[wd];grind
 |w::ws=>by simp only[wd];rw[Nb ws];grind
structure nK where
 tot:Rat
 ways:List (Nat×Rat)
 rhs:Rat
def nK.lhs(r:nK)(s:Nat)(x:Nat->Rat):Rat:=r.tot*x s-wd r.ways x
def nK.am(r:nK)(s j:Nat):Rat:=(if j=s then r.tot else 0)-wj r.ways j
theorem nK.dot{n s:Nat}{r:nK}{x:Nat->Rat}(hs:s<n)(h:∀w∈r.ways,w.1<n):sm n (λ j=>r.am s j*x j)=r.lhs s x:=by
 have e:sm n (λ j=>r.am s j*x j)=sm n (λ j=>(if j=s then r.tot else 0)*x j)-1*sm n (λ j=>wj r.ways j*x j):=by
  rw[<-G8];exact kQ λ j _=>by simp only[nK.am];grind
 have e2:sm n (λ j=>(if j=s then r.tot else 0)*x j)=(if s=s then r.tot else 0)*x s:=yU (f:=λ j=>(if j=s then r.tot else 0)*x j) hs λ j _ hj=>by simp only[hj,if_false];grind
 rw[e,e2,if_pos rfl,QR h]
 simp only[nK.lhs];grind
structure Keeps(R:Nat->nK)(n:Nat)(u:Nat->Rat):Prop where
 to:∀s,s<n->∀w∈(R s).ways,w.1<n
 nn:∀s,s<n->∀w∈(R s).ways,0<=w.2
 pos:∀s,s<n->0<u s
 sum:∀s,s<n->0<(R s).lhs s u
theorem Keeps.dom{R:Nat->nK}{n:Nat}{u:Nat->Rat}(K:Keeps R n u):Dom (λ s j=>(R s).am s j) n u where
 off:=λ i j hi hj e=>by
  have:=Dz (K.nn i hi) j;simp only[nK.am,e,if_false];grind
 pos:=K.pos
 sum:=λ i hi=>by rw[nK.dot hi (K.to i hi)];exact K.sum i hi
theorem Keeps.up{R:Nat->nK}{n:Nat}{u:Nat->Rat}(K:Keeps R n u){x:Nat->Rat}(h:∀s,s<n->0<=(R s).lhs s x):∀s,s<n->0<=x s:=
 K.dom.mono λ i hi=>by rw[nK.dot hi (K.to i hi)];exact h i hi
theorem nK.Pz(r:nK)(s:Nat)(x y:Nat->Rat):r.lhs s (λ i=>x i-y i)=r.lhs s x-r.lhs s y:=by
 simp only[nK.lhs];rw[Nb];grind
theorem Keeps.le{R:Nat->nK}{n:Nat}{u:Nat->Rat}(K:Keeps R n u){x y:Nat->Rat}(h:∀s,s<n->(R s).lhs s x<=(R s).lhs s y):∀s,s<n->x s<=y s:=λ s hs=>by
 have:=K.up (x:=λ i=>y i-x i) (λ s hs=>by rw[nK.Pz];have:=h s hs;grind) s hs
 grind
theorem Keeps.PB{R:Nat->nK}{n:Nat}{u:Nat->Rat}(K:Keeps R n u){s:Nat}(hs:s<n):0<(R s).tot:=by
 have a:=K.sum s hs
 have b:=K.pos s hs
 have c:0<=wd (R s).ways u:=by
  have:=x6 (x:=λ _=>0) (y:=u) (n:=n) (λ i hi=>bQ (K.pos i hi)) (K.to s hs) (K.nn s hs);have z:∀ws:List (Nat×Rat),wd ws (λ _=>0)=0:=λ ws=>by
   induction ws with
   |nil=>rfl
   |cons w ws ih=>simp only[wd];rw[ih];grind
  rw[z] at this;exact this
 simp only[nK.lhs] at a
 by_cases h:0<(R s).tot
 ·exact h
 ·have:0<=(-(R s).tot)*u s:=bq (by grind) (by grind)
  grind
theorem Keeps.better{R:Nat->nK}{n:Nat}{u:Nat->Rat}(K:Keeps R n u){x v:Nat->Rat}(hv:∀s,s<n->(R s).lhs s v=(R s).rhs)(hx:∀s,s<n->(R s).lhs s x<=(R s).rhs) :
  (∀s,s<n->x s<=v s)/\∀s,s<n->(R s).lhs s x<(R s).rhs->x s<v s:=by
 have le:=K.le (x:=x) (y:=v) λ s hs=>by rw[hv s hs];exact hx s hs
 refine⟨le,λ s hs h=>?_⟩
 have t:=K.PB hs
 have m:=x6 le (K.to s hs) (K.nn s hs)
 have e:=hv s hs
 simp only[nK.lhs] at e h
 have:0<(R s).tot*(v s-x s):=by grind
 by_cases c:x s<v s
 ·exact c
 ·have:0<=(R s).tot*(x s-v s):=bq (by grind) (by grind)
  grind
def iter{α:Type}(f:α->α):Nat->α->α
 |0,x=>x
 |k+1,x=>iter f k (f x)
theorem oz{α:Type}(f:α->α):∀(k:Nat) (x:α),iter f (k+1) x=f (iter f k x)
 |0,x=>rfl
 |k+1,x=>oz f k (f x)
theorem Bl{α:Type}[DecidableEq α](f:α->α)(P:α->Prop)(lt:α->α->Prop)(L:List α)(x₀:α)(h₀:P x₀)(hP:∀x,P x->P (f x))(hL:∀x,P x->x∈L)
  (up:∀x,P x->f x≠x->lt x (f x)) (tr:∀x y z,P x->P y->P z->lt x y->lt y z->lt x z) (ir:∀x,P x->¬lt x x):∃k,k<=L.length/\f (iter f k x₀)=iter f k x₀:=by
 have Pi:∀k,P (iter f k x₀):=λ k=>by
  induction k with
  |zero=>exact h₀
  |succ k ih=>rw[oz];exact hP _ ih
 by_cases h:∃k,k<=L.length/\f (iter f k x₀)=iter f k x₀
 ·exact h
 ·exfalso
  have ne:∀k,k<=L.length->f (iter f k x₀)≠iter f k x₀:=λ k hk e=>h ⟨k,hk,e⟩
  have ZX:∀b a,a<b->b<=L.length+1->lt (iter f a x₀) (iter f b x₀):=by
   intro b
   induction b with
   |zero=>intro a h;omega
   |succ b ih=>
    intro a hab hb;have s:=up _ (Pi b) (ne b (by omega));rw[<-oz f] at s
    by_cases e:a=b
    ·subst e;exact s
    ·exact tr _ _ _ (Pi a) (Pi b) (Pi (b+1)) (ih a (by omega) (by omega)) s
  have nd:((aB (L.length+1)).map λ k=>iter f k x₀).Nodup:=by
   rw[List.Nodup,cS];refine eU ?_ (gX (n:=L.length+1));intro a b ha hb hab e;have:=ZX b a hab (by have:=aX.mp hb;omega);rw[e] at this;exact ir _ (Pi b) this
  have:=Rd.yT _ L nd λ x hx=>by
   obtain⟨k,_,rfl⟩:=az.mp hx;exact hL _ (Pi k)
  simp only[ah,cH] at this
  omega
def su:List Nat->List (List Nat)
 |[]=>[[]]
 |b::bs=>(su bs).flatMap λ r=>(aB (max 1 b)).map λ i=>i::r
theorem yV:∀{bs p:List Nat},p.length=bs.length->(∀s,s<bs.length->p.getD s 0<max 1 (bs.getD s 0))->p∈su bs
 |[],[],_,_=>by simp[su]
 |b::bs,i::p,hl,h=>by
  simp only[su,fP,az,aX]
  exact⟨p,yV (by simpa using hl) λ s hs=>by have:=h (s+1) (by simp;omega);simpa using this,i,by have:=h 0 (by simp);simpa using this,rfl⟩
theorem DA:∀{bs:List Nat}{m:Nat},1<=m->(∀b∈bs,b<=m)->(su bs).length<=m^bs.length
 |[],_,_,_=>by simp[su]
 |b::bs,m,hm,h=>by
  have i:=DA (bs:=bs) hm λ x hx=>h x (by simp[hx])
  have hb:=h b (by simp);have e:(su (b::bs)).length=(su bs).length*max 1 b:=by
   simp only[su,List.length_flatMap,ah,cH]
   generalize su bs=l
   induction l with
   |nil=>simp
   |cons x l ih=>simp only[aT,cV,aJ,ih,Nat.succ_mul];omega
  rw[e,aJ,b9];exact Nat.mul_le_mul i (by omega)
end La
end
noncomputable section
namespace La
open Ra61
def lM(row nF:List Int)(t:Nat)(before:Int):List Int:=iT (λ x y=>(nF.getD t 0*x-row.getD t 0*y).fdiv before) row nF
def ID(t:Nat)(st:List (List Int)×Int):List (List Int)×Int:=
 (st.1.zipIdx.map λ x=>if x.2=t then x.1 else lM x.1 (st.1.getD t []) t st.2,(st.1.getD t []).getD t 0)
def jv(rows:List (List Int)):Nat->List (List Int)×Int
 |0=>(rows,1)
 |k+1=>ID k (jv rows k)
def ent(rows:List (List Int))(i j:Nat):Rat:=(((rows.getD i []).getD j 0:Int):Rat)
theorem Ko(rows:List (List Int))(i j:Nat):Bg (ent rows i j):=⟨_,rfl⟩
theorem Nf{f:Int->Int->Int}{a b:List Int}{j:Nat}(ha:j<a.length)(hb:j<b.length):(iT f a b).getD j 0=f (a.getD j 0) (b.getD j 0):=by
 simp[aa,fG,af ha,af hb]
theorem Kq{a b:Int}{y:Rat}(hb:(0:Rat)<(b:Rat))(hy:Bg y)(h:((a:Int):Rat)=(b:Rat)*y):((a.fdiv b:Int):Rat)=y:=by
 obtain⟨z,rfl⟩:=hy
 have e:a=b*z:=by rw[<-aK] at h;exact dJ.mp h
 have hb':b≠0:=λ q=>by rw[q] at hb;exact absurd hb (by decide)
 rw[e,Int.mul_fdiv_cancel_left _ hb']
theorem qm{rows:List (List Int)}{n:Nat}(hl:rows.length=n)(hw:∀r∈rows,r.length=n+1)(hp:∀k,k<n->0<G (ent rows) k k k) :
  ∀k,k<=n->(jv rows k).1.length=n/\(∀r∈(jv rows k).1,r.length=n+1)/\(((jv rows k).2:Int):Rat)=dd (ent rows) k/\∀i j,i<n->j<=n->ent (jv rows k).1 i j=dd (ent rows) k*G (ent rows) k i j
 |0,_=>⟨hl,hw,rfl,λ i j _ _=>by simp only[jv,dd,G];grind⟩
 |k+1,hk=>by
  obtain⟨a,b,c,d⟩:=qm hl hw hp k (aZ hk);have GN:∀k,k<n->G (ent rows) k k k≠0:=λ k hk=>by have:=hp k hk;grind
  have dk:=Bj hp k (aZ hk);have Ng:∀i,i<n->((jv rows k).1.getD i []).length=n+1:=λ i hi=>by
   have:i<(jv rows k).1.length:=by omega
   rw[aa,af this];exact b _ (aV this)
  have Ol:∀i,i<n->(jv rows (k+1)).1.getD i []=if i=k then (jv rows k).1.getD i [] else lM ((jv rows k).1.getD i []) ((jv rows k).1.getD k []) k (jv rows k).2:=λ i hi=>by
   have h:i<(jv rows k).1.length:=by omega
   simp only[jv,ID]
   simp[aa,d7,af h]
  have Yj:((((jv rows k).1.getD k []).getD k 0:Int):Rat)=dd (ent rows) (k+1):=by
   have:=d k k hk (aZ hk);simp only[ent] at this
   rw[this];rfl
  refine⟨by simp only[jv,ID];simp[a],λ r hr=>?_,Yj,λ i j hi hj=>?_⟩
  ·obtain⟨i,hi,rfl⟩:=bR hr;have hi':i<n:=by simp only[jv,ID] at hi;simp[a] at hi;exact hi
   have e:=Ol i hi';rw[aa,af hi] at e;rw[show (jv rows (k+1)).1[i]=_ from e]
   split
   ·exact Ng i hi'
   ·simp only[lM,eS,Ng i hi',Ng k hk];omega
  ·have T:=turn hp hk i j;simp only[ent]
   rw[Ol i hi]
   by_cases e:i=k
   ·subst e;rw[if_pos rfl];have:=d i j hi hj;simp only[ent] at this
    rw[this];exact T.2
   ·rw[if_neg e];simp only[lM]
    rw[Nf (by rw[Ng i hi];omega) (by rw[Ng k hk];omega)];have t1:=T.1;rw[if_neg e] at t1;refine Kq (by rw[c];exact dk) ((whole GN (Ko rows) (k+1) hk).2 i j) ?_;rw[c,<-t1,fX,aK,aK,Yj];have q1:=d i j hi hj;have q2:=d i k hi (by omega);have q3:=d k j hk hj;simp only[ent] at q1 q2 q3
    rw[q1,q2,q3]
def lE(rows:List (List Int)):List Int×Int:=((jv rows rows.length).1.map λ r=>r.getD rows.length 0,(jv rows rows.length).2)
theorem Nh{rows:List (List Int)}{n:Nat}(hl:rows.length=n)(hw:∀r∈rows,r.length=n+1){u:Nat->Rat}(K:Dom (ent rows) n u) :
  (0:Rat)<((lE rows).2:Rat)/\(lE rows).1.length=n/\∀i,i<n->sm n (λ m=>ent rows i m*(((lE rows).1.getD m 0:Int):Rat))=((lE rows).2:Rat)*ent rows i n:=by
 have hp:=(Iw K n (aq n)).1
 have GN:∀k,k<n->G (ent rows) k k k≠0:=λ k hk=>by have:=hp k hk;grind
 obtain⟨a,b,c,d⟩:=qm hl hw hp n (aq n)
 subst hl
 refine⟨by show (0:Rat)<((jv rows rows.length).2:Rat);rw[c];exact Bj hp _ (aq _),by simp[lE,a],λ i hi=>?_⟩
 have Ol:∀m,m<rows.length->(((lE rows).1.getD m 0:Int):Rat)=dd (ent rows) rows.length*G (ent rows) rows.length m rows.length:=λ m hm=>by
  have:=d m rows.length hm (aq _);rw[<-this];have hm':m<(jv rows rows.length).1.length:=by omega
  simp[lE,ent,aa,af hm']
 have bk:=Bf GN rows.length (aq _) i rows.length
 rw[if_neg (by omega)] at bk
 rw[kQ (g:=λ m=>dd (ent rows) rows.length*(ent rows i m*G (ent rows) rows.length m rows.length)) λ m hm=>by rw[Ol m hm];grind,wO]
 show _=((jv rows rows.length).2:Rat)*_
 rw[c];grind
end La
end
noncomputable section
namespace La
open Ra61 Fq
def sA(ws:List (Nat×Nat))(row:List Int):List Int:=ws.foldl (λ row w=>row.set w.1 (row.getD w.1 0-(w.2:Int))) row
def IE(n place:Nat)(os:List kX)(e:Int)(k:Nat):List Int:=
 if os.length=0 then ((aF (n+1) (0:Int)).set place 1).set n e
 else (sA (os.getD k jD).ways ((aF (n+1) (0:Int)).set place (os.getD k jD).tot)).set n ((os.getD k jD).gain*(os.getD k jD).tot)
def nZ(ws:List (Nat×Nat)):List (Nat×Rat):=ws.map λ w=>(w.1,(w.2:Rat))
def qp(o:kX):nK:=⟨(o.tot:Rat),nZ o.ways,((o.gain*o.tot:Int):Rat)⟩
def x8(os:List kX)(e:Int)(k:Nat):nK:=if os.length=0 then ⟨1,[],(e:Rat)⟩ else qp (os.getD k jD)
theorem kR{row:List Int}{i j:Nat}{x:Int}(hi:i<row.length):(row.set i x).getD j 0=if j=i then x else row.getD j 0:=by
 by_cases e:j=i
 ·subst e;simp[aa,fC,hi]
 ·rw[if_neg e];simp[aa,fC,show i≠j from λ z=>e z.symm]
theorem sC:∀(ws:List (Nat×Nat)) (row:List Int),(sA ws row).length=row.length
 |[],row=>rfl
 |w::ws,row=>by show (sA ws _).length=_;rw[sC ws];simp
theorem IF:∀(ws:List (Nat×Nat)) (row:List Int),(∀w∈ws,w.1<row.length)->∀j,(((sA ws row).getD j 0:Int):Rat)=((row.getD j 0:Int):Rat)-wj (nZ ws) j
 |[],row,_,j=>by simp only[sA,gv,nZ,bO,wj];grind
 |w::ws,row,h,j=>by
  show (((sA ws (row.set w.1 (row.getD w.1 0-(w.2:Int)))).getD j 0:Int):Rat)=_;rw[IF ws _ (λ u hu=>by rw[cy];exact h u (by simp[hu])) j,kR (h w (by simp))];simp only[nZ,aT,wj]
  by_cases e:j=w.1
  ·subst e;simp only[if_true]
   rw[fX,bh];grind
  ·simp only[e,if_false];grind
theorem R0(n place:Nat)(os:List kX)(e:Int)(k:Nat):(IE n place os e k).length=n+1:=by
 unfold IE;split<;>simp[sC]
theorem QS{n place:Nat}{os:List kX}{e:Int}{k:Nat}(hp:place<n)(hw:∀w∈(os.getD k jD).ways,w.1<n) :
  (∀j,j<n->(((IE n place os e k).getD j 0:Int):Rat)=(x8 os e k).am place j)/\(((IE n place os e k).getD n 0:Int):Rat)=(x8 os e k).rhs:=by
 have rz:∀j,(aF (n+1) (0:Int)).getD j 0=0:=λ j=>by
  rw[aa,fh];split<;>rfl
 by_cases h:os.length=0
 ·simp only[IE,x8,h,if_true]
  constructor
  ·intro j hj;rw[kR (by simp),if_neg (by omega),kR (by simp;omega),rz];simp only[nK.am,wj]
   split<;>simp<;>grind
  ·rw[kR (by simp),if_pos rfl]
 ·simp only[IE,x8,h,if_false]
  constructor
  ·intro j hj;rw[kR (by rw[sC];simp),if_neg (by omega),IF _ _ (λ w vp=>by simp;have:=hw w vp;omega),kR (by simp;omega),rz];simp only[nK.am,qp]
   split<;>simp
  ·rw[kR (by rw[sC];simp),if_pos rfl];rfl
section
variable(iX:List (List kX))(ends:List Int)(n:Nat)
def lF(jg:List Int)(s:Nat):nK:=x8 (iX.getD s []) (ends.getD s 0) (jg.getD s 0).toNat
def m6(jg:List Int):List (List Int):=(aB n).map λ s=>IE n s (iX.getD s []) (ends.getD s 0) (jg.getD s 0).toNat
def kr(jg:List Int):List Int×Int:=lE (m6 iX ends n jg)
def mE(jg jc:List Int)(bot:Int):List Int:=(aB n).map λ s=>if (iX.getD s []).length=0 then jg.getD s 0 else ((pick (iX.getD s []) jc bot (jg.getD s 0).toNat:Nat):Int)
def nextM(jg:List Int):List Int:=mE iX n jg (kr iX ends n jg).1 (kr iX ends n jg).2
def jC(v:List Int×Int)(s:Nat):Rat:=((v.1.getD s 0:Int):Rat)/((v.2:Int):Rat)
end
structure Fits(iX:List (List kX))(n:Nat)(jg:List Int):Prop where
 len:jg.length=n
 at_:∀s,s<n->(iX.getD s []).length≠0->0<=jg.getD s 0/\(jg.getD s 0).toNat<(iX.getD s []).length
theorem getD_mem{os:List kX}{k:Nat}(h:k<os.length):os.getD k jD∈os:=by
 rw[aa,af h];exact aV h
section
variable{iX:List (List kX)}{ends:List Int}{n:Nat}{jg:List Int}
theorem IG(hw:∀os∈iX,∀o∈os,∀w∈o.ways,w.1<n)(F:Fits iX n jg):∀s,s<n->∀w∈((iX.getD s []).getD (jg.getD s 0).toNat jD).ways,w.1<n:=λ s hs w vp=>by
 by_cases h:(iX.getD s []).length=0
 ·have:iX.getD s []=[]:=dh.mp h
  rw[this] at vp;simp[jD] at vp
 ·have hk:=(F.at_ s hs h).2
  have hs':s<iX.length:=by
   by_cases q:s<iX.length
   ·exact q
   ·rw[aa,cB (by omega)] at h;exact absurd rfl h
  have m:iX.getD s []∈iX:=by rw[aa,af hs'];exact aV hs'
  exact hw _ m _ (getD_mem hk) w vp
theorem Er{i:Nat}(hi:i<n):(m6 iX ends n jg).getD i []=IE n i (iX.getD i []) (ends.getD i 0) (jg.getD i 0).toNat:=by
 simp[m6,aa,ai,aN hi]
theorem z7:(m6 iX ends n jg).length=n/\∀r∈m6 iX ends n jg,r.length=n+1:=
 ⟨by simp[m6],λ r hr=>by
  obtain⟨s,_,rfl⟩:=az.mp hr;exact R0 _ _ _ _ _⟩
theorem Es(hw:∀os∈iX,∀o∈os,∀w∈o.ways,w.1<n)(F:Fits iX n jg){i j:Nat}(hi:i<n)(hj:j<n):ent (m6 iX ends n jg) i j=(lF iX ends jg i).am i j:=by
 unfold ent
 rw[Er hi];exact (QS hi (IG hw F i hi)).1 j hj
theorem II(hw:∀os∈iX,∀o∈os,∀w∈o.ways,w.1<n)(F:Fits iX n jg){u:Nat->Rat}(K:Keeps (lF iX ends jg) n u):Dom (ent (m6 iX ends n jg)) n u where
 off:=λ i j hi hj e=>by rw[Es hw F hi hj];exact K.dom.off i j hi hj e
 pos:=K.pos
 sum:=λ i hi=>by
  rw[kQ (g:=λ j=>(lF iX ends jg i).am i j*u j) λ j hj=>by rw[Es hw F hi hj]];exact K.dom.sum i hi
end
theorem Bm{iX:List (List kX)}{ends:List Int}{n:Nat}{jg:List Int}(hw:∀os∈iX,∀o∈os,∀w∈o.ways,w.1<n)(F:Fits iX n jg){u:Nat->Rat}(K:Keeps (lF iX ends jg) n u) :
  0<(kr iX ends n jg).2/\(kr iX ends n jg).1.length=n/\∀s,s<n->(lF iX ends jg s).lhs s (jC (kr iX ends n jg))=(lF iX ends jg s).rhs:=by
 obtain⟨a,b,c⟩:=Nh z7.1 z7.2 (II hw F K)
 have pos:0<(kr iX ends n jg).2:=by
  have:((0:Int):Rat)<((lE (m6 iX ends n jg)).2:Rat):=a;exact cK.mp this
 refine⟨pos,b,λ s hs=>?_⟩
 have c':=c s hs
 unfold ent at c'
 rw[Er hs,(QS hs (IG hw F s hs)).2,kQ (g:=λ m=>(lF iX ends jg s).am s m*(((lE (m6 iX ends n jg)).1.getD m 0:Int):Rat)) λ m hm=>by have:=Es (ends:=ends) hw F hs hm;unfold ent at this;rw[Er hs] at this;rw[this],nK.dot hs (K.to s hs)] at c'
 have sc:∀(r:nK) (x:Nat->Rat) (k:Rat),r.lhs s (λ t=>x t/k)=r.lhs s x/k:=λ r x k=>by
  have ZY:∀ws:List (Nat×Rat),wd ws (λ t=>x t/k)=wd ws x/k:=λ ws=>by
   induction ws with
   |nil=>simp only[wd];grind
   |cons w ws ih=>simp only[wd];rw[ih];grind
  simp only[nK.lhs];rw[ZY];grind
 show (lF iX ends jg s).lhs s (λ t=>(((lE (m6 iX ends n jg)).1.getD t 0:Int):Rat)/((lE (m6 iX ends n jg)).2:Rat))=_
 rw[sc,c']
 show _*(lF iX ends jg s).rhs/_=_
 grind
theorem Kr{o p q:kX}{jc:List Int}{bot:Int}(ho:0<o.tot)(hp:0<p.tot)(hq:0<q.tot)(h:o.top jc bot*p.tot<p.top jc bot*o.tot)(k:Iu p q jc bot):o.top jc bot*q.tot<q.top jc bot*o.tot:=by
 unfold Iu at k
 have h1:=Int.mul_lt_mul_of_pos_right h hq
 have h2:=bP k (fB ho)
 generalize o.top jc bot=a at *
 generalize p.top jc bot=b at *
 generalize q.top jc bot=c at *
 have e1:a*p.tot*q.tot=a*q.tot*p.tot:=by grind
 have e2:b*o.tot*q.tot=b*q.tot*o.tot:=by grind
 have e3:c*p.tot*o.tot=c*o.tot*p.tot:=by grind
 have e:a*q.tot*p.tot<c*o.tot*p.tot:=by omega
 exact Int.lt_of_mul_lt_mul_right e (fB hp)
theorem uW{os:List kX}{jc:List Int}{bot:Int}(ht:∀o∈os,0<o.tot):∀(r:List kX) (i b:Nat),os.drop i=r->b<os.length ->
  kI os jc bot i r b=b\/(os.getD b jD).top jc bot*(os.getD (kI os jc bot i r b) jD).tot<(os.getD (kI os jc bot i r b) jD).top jc bot*(os.getD b jD).tot
 |[],i,b,_,hb=>.inl rfl
 |o::r,i,b,hd,hb=>by
  have hil:i<os.length:=by
   have:=congrArg fc hd;rw[fK] at this;simp at this;omega
  have UE:os[i]=o:=by
   rw[bC hil] at hd;exact (gI hd).1
  have hdr:os.drop (i+1)=r:=by
   rw[bC hil] at hd;exact (gI hd).2
  have gD:∀{j:Nat} (hj:j<os.length),os.getD j jD=os[j]:=λ hj=>by rw[aa,af hj];rfl
  have tD:∀{j:Nat} (hj:j<os.length),0<(os.getD j jD).tot:=λ hj=>by rw[gD hj];exact ht _ (aV hj)
  have un:kI os jc bot i (o::r) b=kI os jc bot (i+1) r (if o.better (os.getD b jD) jc bot=true then i else b):=rfl;rw[un]
  by_cases q:o.better (os.getD b jD) jc bot=true
  ·rw[if_pos q];obtain⟨i1,i2,i3⟩:=zZ ht r (i+1) i hdr hil;unfold kX.better at q;rw[decide_eq_true_eq] at q;exact .inr (Kr (tD hb) (tD hil) (tD i1) (by rw[gD hil,UE];exact q) i2)
  ·rw[if_neg q];exact uW ht r (i+1) b hdr hb
theorem DB{jc:List Int}{bot:Int}(hb:0<bot):∀ws:List (Nat×Nat),((ahead ws jc:Int):Rat)=(bot:Rat)*wd (nZ ws) (jC (jc,bot))
 |[]=>by show ((0:Int):Rat)=_;simp only[nZ,bO,wd];grind
 |w::ws=>by
  have i:=DB (jc:=jc) hb ws;have e:ahead (w::ws) jc=(w.2:Int)*jc.getD w.1 0+ahead ws jc:=by simp[ahead]
  rw[e,fY,aK,i];have hb':(bot:Rat)≠0:=λ z=>by
   have:((bot:Int):Rat)=((0:Int):Rat):=z;rw[dJ] at this;omega
  simp only[nZ,aT,wd,jC,bh]
  grind
def Ca(o:kX)(v:Nat->Rat):Rat:=(qp o).rhs+wd (nZ o.ways) v
theorem IJ{o:kX}{jc:List Int}{bot:Int}(hb:0<bot):((o.top jc bot:Int):Rat)=(bot:Rat)*Ca o (jC (jc,bot)):=by
 unfold kX.top Ca
 rw[fY,DB hb,aK]
 simp only[qp];grind
theorem mF{z:Int}(h:0<z):(0:Rat)<(z:Rat):=by
 have:((0:Int):Rat)<(z:Rat):=cK.mpr h
 exact this
theorem Et{o p:kX}{jc:List Int}{bot:Int}(hb:0<bot):(o.top jc bot*p.tot<p.top jc bot*o.tot↔Ca o (jC (jc,bot))*(p.tot:Rat)<Ca p (jC (jc,bot))*(o.tot:Rat)) /\
  (Iu o p jc bot↔Ca o (jC (jc,bot))*(p.tot:Rat)<=Ca p (jC (jc,bot))*(o.tot:Rat)):=by
 have hb':=mF hb
 have e1:((o.top jc bot*p.tot:Int):Rat)=(bot:Rat)*(Ca o (jC (jc,bot))*(p.tot:Rat)):=by rw[aK,IJ hb];grind
 have e2:((p.top jc bot*o.tot:Int):Rat)=(bot:Rat)*(Ca p (jC (jc,bot))*(o.tot:Rat)):=by rw[aK,IJ hb];grind
 constructor
 ·rw[<-cK,e1,e2]
  exact⟨λ h=>eL h (bQ hb'),λ h=>d8 h hb'⟩
 ·unfold Iu
  rw[<-cM,e1,e2];exact⟨λ h=>bD h hb',λ h=>bB h (bQ hb')⟩
section
variable{iX:List (List kX)}{ends:List Int}{n:Nat}
theorem Bo{s:Nat}(h:(iX.getD s []).length≠0):iX.getD s []∈iX:=by
 have hs':s<iX.length:=by
  by_cases q:s<iX.length
  ·exact q
  ·rw[aa,cB (by omega)] at h;exact absurd rfl h
 rw[aa,af hs'];exact aV hs'
theorem x9{jg:List Int}{s:Nat}(hs:s<n):(nextM iX ends n jg).getD s 0=if (iX.getD s []).length=0 then jg.getD s 0 else ((pick (iX.getD s []) (kr iX ends n jg).1 (kr iX ends n jg).2 (jg.getD s 0).toNat:Nat):Int):=by
 simp[nextM,mE,aa,ai,aN hs]
theorem Ks(ht:∀os∈iX,∀o∈os,0<o.tot){jg:List Int}(F:Fits iX n jg):Fits iX n (nextM iX ends n jg) where
 len:=by simp[nextM,mE]
 at_:=λ s hs h=>by
  rw[x9 hs,if_neg h];exact⟨by omega,by rw[bM];exact (Bc (ht _ (Bo h)) (F.at_ s hs h).2).1⟩
theorem DC(hw:∀os∈iX,∀o∈os,∀w∈o.ways,w.1<n)(ht:∀os∈iX,∀o∈os,0<o.tot){jg:List Int}(F:Fits iX n jg){u:Nat->Rat}(K:Keeps (lF iX ends jg) n u)(s:Nat)(hs:s<n) :
  (lF iX ends (nextM iX ends n jg) s).lhs s (jC (kr iX ends n jg))<=(lF iX ends (nextM iX ends n jg) s).rhs /\
  ((nextM iX ends n jg).getD s 0≠jg.getD s 0->(lF iX ends (nextM iX ends n jg) s).lhs s (jC (kr iX ends n jg))<(lF iX ends (nextM iX ends n jg) s).rhs):=by
 obtain⟨hb,hl,hv⟩:=Bm hw F K
 have v:=hv s hs
 by_cases h:(iX.getD s []).length=0
 ·have e:(nextM iX ends n jg).getD s 0=jg.getD s 0:=by rw[x9 hs,if_pos h]
  have e2:lF iX ends (nextM iX ends n jg) s=lF iX ends jg s:=by simp only[lF];rw[e]
  rw[e2,v];exact⟨bK,λ q=>absurd e q⟩
 ·have fit:=F.at_ s hs h
  have m:=Bo h;have nx:=x9 (iX:=iX) (ends:=ends) (n:=n) (jg:=jg) hs;rw[if_neg h] at nx;obtain⟨p1,p2⟩:=Bc (jc:=(kr iX ends n jg).1) (bot:=(kr iX ends n jg).2) (ht _ m) fit.2;have st:=uW (jc:=(kr iX ends n jg).1) (bot:=(kr iX ends n jg).2) (ht _ m) (iX.getD s []) 0 (jg.getD s 0).toNat rfl fit.2;generalize hk:pick (iX.getD s []) (kr iX ends n jg).1 (kr iX ends n jg).2 (jg.getD s 0).toNat=k at *
  have hk':kI (iX.getD s []) (kr iX ends n jg).1 (kr iX ends n jg).2 0 (iX.getD s []) (jg.getD s 0).toNat=k:=hk;rw[hk'] at st;have cur:=ht _ m _ (getD_mem fit.2);have new:=ht _ m _ (getD_mem p1);have sy:lF iX ends jg s=qp ((iX.getD s []).getD (jg.getD s 0).toNat jD):=by simp only[lF,x8,h,if_false]
  have ZZ:lF iX ends (nextM iX ends n jg) s=qp ((iX.getD s []).getD k jD):=by simp only[lF,x8,h,if_false];rw[nx,bM]
  rw[sy] at v;rw[ZZ,nx];generalize hc:(iX.getD s []).getD (jg.getD s 0).toNat jD=c at *
  generalize hd:(iX.getD s []).getD k jD=d at *
  have le:=(Et hb).2.mp (p2 c (by rw[<-hc];exact getD_mem fit.2));have cq:=mF cur;have dq:=mF new;have vv:jC ((kr iX ends n jg).1,(kr iX ends n jg).2)=jC (kr iX ends n jg):=rfl;rw[vv] at le;have bc:Ca c (jC (kr iX ends n jg))=(c.tot:Rat)*jC (kr iX ends n jg) s:=by
   unfold Ca;simp only[nK.lhs,qp] at v;simp only[qp];grind
  have bd:(qp d).lhs s (jC (kr iX ends n jg))=(d.tot:Rat)*jC (kr iX ends n jg) s-Ca d (jC (kr iX ends n jg))+(qp d).rhs:=by
   unfold Ca;simp only[nK.lhs,qp];grind
  constructor
  ·rw[bd];have:(c.tot:Rat)*((d.tot:Rat)*jC (kr iX ends n jg) s)<=(c.tot:Rat)*Ca d (jC (kr iX ends n jg)):=by rw[bc] at le;grind
   have:=bD this cq;grind
  ·intro q;have ne:k≠(jg.getD s 0).toNat:=λ z=>q (by rw[z];omega)
   have lt:=(Et hb).1.mp (st.resolve_left ne);rw[vv,bc] at lt;rw[bd];have:(c.tot:Rat)*((d.tot:Rat)*jC (kr iX ends n jg) s)<(c.tot:Rat)*Ca d (jC (kr iX ends n jg)):=by grind
   have:=eL this (bQ cq);grind
theorem Kv(hw:∀os∈iX,∀o∈os,∀w∈o.ways,w.1<n)(ht:∀os∈iX,∀o∈os,0<o.tot){jg:List Int}(F:Fits iX n jg){u:Nat->Rat}(K:Keeps (lF iX ends jg) n u)(e:nextM iX ends n jg=jg)(s:Nat)(hs:s<n) :
  ∀o∈iX.getD s [],Ca o (jC (kr iX ends n jg))<=(o.tot:Rat)*jC (kr iX ends n jg) s:=by
 intro o ho
 obtain⟨hb,hl,hv⟩:=Bm hw F K
 have v:=hv s hs
 have h:(iX.getD s []).length≠0:=λ z=>by rw[dh.mp z] at ho;cases ho
 have fit:=F.at_ s hs h
 have m:=Bo h
 have nx:=x9 (iX:=iX) (ends:=ends) (n:=n) (jg:=jg) hs
 rw[if_neg h,e] at nx
 obtain⟨p1,p2⟩:=Bc (jc:=(kr iX ends n jg).1) (bot:=(kr iX ends n jg).2) (ht _ m) fit.2
 have nx':(jg.getD s 0).toNat=pick (iX.getD s []) (kr iX ends n jg).1 (kr iX ends n jg).2 (jg.getD s 0).toNat:=by omega
 have le:=p2 o ho
 rw[<-nx'] at le
 have sy:lF iX ends jg s=qp ((iX.getD s []).getD (jg.getD s 0).toNat jD):=by simp only[lF,x8,h,if_false]
 rw[sy] at v
 have cq:=mF (ht _ m _ (getD_mem fit.2))
 generalize hc:(iX.getD s []).getD (jg.getD s 0).toNat jD=c at *
 have le:=(Et hb).2.mp le
 have bc:Ca c (jC (kr iX ends n jg))=(c.tot:Rat)*jC (kr iX ends n jg) s:=by
  unfold Ca;simp only[nK.lhs,qp] at v;simp only[qp];grind
 have le':Ca o (jC (kr iX ends n jg))*(c.tot:Rat)<=Ca c (jC (kr iX ends n jg))*(o.tot:Rat):=le
 rw[bc] at le'
 have:(c.tot:Rat)*Ca o (jC (kr iX ends n jg))<=(c.tot:Rat)*((o.tot:Rat)*jC (kr iX ends n jg) s):=by grind
 exact bD this cq
theorem FL(hw:∀os∈iX,∀o∈os,∀w∈o.ways,w.1<n)(ht:∀os∈iX,∀o∈os,0<o.tot){π₀:List Int}(P:List Int->Prop)(h₀:P π₀)(hF:∀π,P π->Fits iX n π)(hE:∀π,P π->∀s,s<n->(iX.getD s []).length=0->π.getD s 0 = π₀.getD s 0)
  (hK:∀π,P π->∃u,Keeps (lF iX ends π) n u) (hN:∀π,P π->P (nextM iX ends n π)) :
  ∃k,nextM iX ends n (iter (nextM iX ends n) k π₀)=iter (nextM iX ends n) k π₀/\P (iter (nextM iX ends n) k π₀):=by
 let V:=λ π=>jC (kr iX ends n π)
 have Pi:∀k,P (iter (nextM iX ends n) k π₀):=λ k=>by
  induction k with
  |zero=>exact h₀
  |succ k ih=>rw[oz];exact hN _ ih
 obtain⟨k,_,e⟩:=Bl (nextM iX ends n) P (λ a b=>(∀s,s<n->V a s<=V b s)/\∃s,s<n/\V a s<V b s)
  ((su ((aB n).map λ s=>(iX.getD s []).length)).map λ p=>(aB n).map λ s=>if (iX.getD s []).length=0 then π₀.getD s 0 else ((p.getD s 0:Nat):Int)) π₀ h₀ hN
  (λ π hp=>by
   have F:=hF π hp;refine az.mpr ⟨(aB n).map λ s=>if (iX.getD s []).length=0 then 0 else (π.getD s 0).toNat,yV (by simp) λ s hs=>?_,?_⟩
   ·have hs:s<n:=by simpa using hs
    by_cases h:(iX.getD s []).length=0
    ·simp[aa,ai,aN hs] at h ⊢
     simp[h]
    ·have:=(F.at_ s hs h).2;simp[aa,ai,aN hs] at h this ⊢
     simp[h];omega
   ·refine fQ (by simp[F.len]) λ s h1 h2=>?_
    have hs:s<n:=by simpa using h1
    have gp:π.getD s 0 = π[s]:=by rw[aa,af h2];rfl
    rw[<-gp]
    by_cases h:(iX.getD s []).length=0
    ·have:=hE π hp s hs h;simp only[List.getElem_map,List.getElem_range,h,if_true];exact this.symm
    ·have:=(F.at_ s hs h).1;have e:((aB n).map λ s=>if (iX.getD s []).length=0 then 0 else (π.getD s 0).toNat).getD s 0=(π.getD s 0).toNat:=by
      rw[aa,ai,aN hs];simp only[bE,di,h,if_false]
     simp only[List.getElem_map,List.getElem_range,h,if_false]
     rw[e];omega)
  (λ π hp ne=>by
   obtain⟨u,K⟩:=hK π hp;obtain⟨u',K'⟩:=hK _ (hN π hp);obtain⟨hb',hl',hv'⟩:=Bm hw (hF _ (hN π hp)) K';obtain⟨g1,g2⟩:=K'.better (x:=V π) hv' λ s hs=>(DC hw ht (hF π hp) K s hs).1
   refine⟨g1,?_⟩;have:∃s,s<n/\(nextM iX ends n π).getD s 0≠π.getD s 0:=by
    by_cases q:∃s,s<n/\(nextM iX ends n π).getD s 0≠π.getD s 0
    ·exact q
    ·exfalso
     refine ne (fQ (by rw[(hF π hp).len,(hF _ (hN π hp)).len]) λ s h1 h2=>?_);have hs:s<n:=by rw[(hF π hp).len] at h2;exact h2
     have gp:π.getD s 0 = π[s]:=by rw[aa,af h2];rfl
     have gq:(nextM iX ends n π).getD s 0=(nextM iX ends n π)[s]:=by rw[aa,af h1];rfl
     rw[<-gp,<-gq]
     by_cases z:(nextM iX ends n π).getD s 0 = π.getD s 0
     ·exact z
     ·exact absurd ⟨s,hs,z⟩ q
   obtain⟨s,hs,z⟩:=this;exact⟨s,hs,g2 s hs ((DC hw ht (hF π hp) K s hs).2 z)⟩)
  (λ a b c _ _ _ h k=>⟨λ s hs=>iU (h.1 s hs) (k.1 s hs),by
   obtain⟨s,hs,lt⟩:=h.2;have:=k.1 s hs;exact⟨s,hs,by grind⟩⟩)
  (λ a _ h=>by obtain⟨s,_,lt⟩:=h.2;exact absurd lt Rat.lt_irrefl)
 exact⟨k,e,Pi k⟩
end
def val(x:Fr):Rat:=(x.num:Rat)/((x.den:Int):Rat)
structure CA(x:Fr):Prop where
 pos:0<x.den
 cop:br x.num.natAbs x.den=1
theorem l6{x:Fr}(h:0<x.den):(0:Rat)<((x.den:Int):Rat):=mF (by omega)
theorem CA.eq{x y:Fr}(hx:CA x)(hy:CA y)(h:val x=val y):x=y:=by
 have dx:=l6 hx.pos
 have dy:=l6 hy.pos
 have e:x.num*(y.den:Int)=y.num*(x.den:Int):=by
  unfold val at h;have:(x.num:Rat)*((y.den:Int):Rat)=(y.num:Rat)*((x.den:Int):Rat):=by
   have a:(x.num:Rat)=(x.num:Rat)/((x.den:Int):Rat)*((x.den:Int):Rat):=by grind
   have b:(y.num:Rat)=(y.num:Rat)/((y.den:Int):Rat)*((y.den:Int):Rat):=by grind
   rw[h] at a;grind
  rw[<-aK,<-aK] at this;exact dJ.mp this
 have e2:x.num.natAbs*y.den=y.num.natAbs*x.den:=by
  have:=congrArg Int.natAbs e
  rwa [gu,gu,gw,gw] at this
 have d1:x.den ∣ y.den:=by
  have:x.den ∣ x.num.natAbs*y.den:=⟨y.num.natAbs,by rw[e2,gR]⟩
  exact (Nat.Coprime.symm hx.cop).dvd_of_dvd_mul_left this
 have d2:y.den ∣ x.den:=by
  have:y.den ∣ y.num.natAbs*x.den:=⟨x.num.natAbs,by rw[<-e2,gR]⟩
  exact (Nat.Coprime.symm hy.cop).dvd_of_dvd_mul_left this
 have de:x.den=y.den:=Nat.dvd_antisymm d1 d2
 have ne:x.num=y.num:=by
  rw[de] at e;exact Int.eq_of_mul_eq_mul_right (by have:=hy.pos;omega) e
 cases x;cases y;simp only at de ne;rw[de,ne]
theorem Bp{z:Int}{d:Nat}(h:0<d):CA (fr z d):=by
 have g0:0<br z.natAbs d:=cW _ h
 have gm:max 1 (br z.natAbs d)=br z.natAbs d:=by omega
 refine⟨M5 h,?_⟩
 unfold fr
 simp only[gm]
 have:(z/((br z.natAbs d:Nat):Int)).natAbs=z.natAbs/br z.natAbs d:=by
  have dv:((br z.natAbs d:Nat):Int) ∣ z:=by
   have:=Nat.gcd_dvd_left z.natAbs d;exact Int.ofNat_dvd_left.mpr this
  rw[Int.natAbs_ediv_of_dvd dv,gw]
 rw[this]
 exact Nat.gcd_div_gcd_div_gcd_of_pos_right h
theorem R5{x:Fr}{a b:Int}(h:Is x a b):val x=(a:Rat)/(b:Rat):=by
 have dx:=l6 h.1
 have db:=mF h.2.1
 have e:(x.num:Rat)*(b:Rat)=(a:Rat)*((x.den:Int):Rat):=by rw[<-aK,<-aK,h.2.2]
 unfold val
 have:(x.num:Rat)=(a:Rat)*((x.den:Int):Rat)/(b:Rat):=by grind
 rw[this];grind
theorem R8{x:Fr}{a b:Int}(hx:0<x.den)(hb:0<b)(h:val x=(a:Rat)/(b:Rat)):Is x a b:=by
 have dx:=l6 hx
 have db:=mF hb
 refine⟨hx,hb,?_⟩
 unfold val at h
 have:(x.num:Rat)*(b:Rat)=(a:Rat)*((x.den:Int):Rat):=by
  have a1:(x.num:Rat)=(x.num:Rat)/((x.den:Int):Rat)*((x.den:Int):Rat):=by grind
  rw[h] at a1;grind
 rw[<-aK,<-aK] at this
 exact dJ.mp this
theorem wQ{z:Int}{d:Nat}(h:0<d):val (fr z d)=(z:Rat)/((d:Int):Rat):=R5 (UD h)
theorem IK{x y:Fr}(hx:0<x.den)(hy:0<y.den):CA (x.add y):=Bp (ef hx hy)
theorem IL{x y:Fr}(hx:0<x.den)(hy:0<y.den):CA (x.sub y):=Bp (ef hx hy)
theorem Eu{x y:Fr}(hx:0<x.den)(hy:0<y.den):CA (x.mul y):=Bp (ef hx hy)
theorem val_add{x y:Fr}(hx:0<x.den)(hy:0<y.den):val (x.add y)=val x+val y:=by
 have a:=l6 hx;have b:=l6 hy
 unfold Fr.add
 rw[wQ (ef hx hy),fY,aK,aK,fZ,aK]
 unfold val;grind
theorem val_sub{x y:Fr}(hx:0<x.den)(hy:0<y.den):val (x.sub y)=val x-val y:=by
 have a:=l6 hx;have b:=l6 hy
 unfold Fr.sub
 rw[wQ (ef hx hy),fX,aK,aK,fZ,aK]
 unfold val;grind
theorem val_mul{x y:Fr}(hx:0<x.den)(hy:0<y.den):val (x.mul y)=val x*val y:=by
 have a:=l6 hx;have b:=l6 hy
 unfold Fr.mul
 rw[wQ (ef hx hy),aK,fZ,aK]
 unfold val;grind
theorem Bq{x:Fr}(hx:0<x.den):x.num=0↔val x=0:=by
 have a:=l6 hx
 unfold val
 constructor
 ·intro h;rw[h];show ((0:Int):Rat)/_=0;grind
 ·intro h
  have:(x.num:Rat)=((0:Int):Rat):=by
   have e:(x.num:Rat)=(x.num:Rat)/((x.den:Int):Rat)*((x.den:Int):Rat):=by grind
   rw[h] at e;rw[e];show 0*_=(0:Rat);grind
  exact dJ.mp this
theorem IM{x y:Fr}(hx:0<x.den)(hy:0<y.den)(h:val y≠0):CA (x.div y):=by
 have:y.num≠0:=λ z=>h ((Bq hy).mp z)
 exact Bp (ef hx (by omega))
theorem IP{x y:Fr}(hx:0<x.den)(hy:0<y.den)(h:val y≠0):val (x.div y)=val x/val y:=by
 have n0:y.num≠0:=λ z=>h ((Bq hy).mp z)
 have a:=l6 hx;have b:=l6 hy
 unfold Fr.div
 rw[wQ (ef hx (by omega)),fZ,aK,aK,aK]
 have n1:(y.num:Rat)≠0:=λ z=>n0 (by have:(y.num:Rat)=((0:Int):Rat):=z;exact dJ.mp this)
 rcases Int.lt_trichotomy y.num 0 with l | l | l
 ·rw[Int.sign_eq_neg_one_of_neg l,show ((y.num.natAbs:Nat):Int) = - y.num by omega,eX]
  show _*((-1:Int):Rat)/_=_;rw[show ((-1:Int):Rat) = -1 from rfl];unfold val;grind
 ·exact absurd l n0
 ·rw[Int.sign_eq_one_of_pos l,show ((y.num.natAbs:Nat):Int)=y.num by omega]
  show _*((1:Int):Rat)/_=_;rw[show ((1:Int):Rat)=1 from rfl];unfold val;grind
theorem Ni{x y:Fr}(hx:0<x.den)(hy:0<y.den):x.less y=decide (val x<val y):=by
 have a:=l6 hx;have b:=l6 hy
 unfold Fr.less
 refine decide_eq_decide.mpr ?_
 rw[<-cK,aK,aK]
 have ex:(x.num:Rat)=val x*((x.den:Int):Rat):=by unfold val;grind
 have ey:(y.num:Rat)=val y*((y.den:Int):Rat):=by unfold val;grind
 rw[ex,ey]
 have pq:(0:Rat)<((x.den:Int):Rat)*((y.den:Int):Rat):=fV a b
 constructor
 ·intro h
  have:(((x.den:Int):Rat)*((y.den:Int):Rat))*val x<(((x.den:Int):Rat)*((y.den:Int):Rat))*val y:=by grind
  exact eL this (bQ pq)
 ·intro h
  have:=d8 h pq;grind
theorem sD:CA none_:=⟨by decide,by decide⟩
theorem IQ:CA one_:=⟨by decide,by decide⟩
theorem sE:val none_=0:=by unfold val none_;show ((0:Int):Rat)/_=0;grind
theorem val_one:val one_=1:=by
 unfold val one_
 show ((1:Int):Rat)/((1:Int):Rat)=1
 rw[show ((1:Int):Rat)=1 from rfl];grind
def pP(m:List Row)(i j:Nat):Rat:=val (at_ (m.getD i []) j)
def oK(m:List Row)(n:Nat):Prop:=m.length=n/\∀r∈m,r.length=n+1/\∀x∈r,CA x
theorem Sa{r:Row}{j:Nat}(h:j<r.length):at_ r j∈r:=by
 unfold at_
 rw[aa,af h];exact aV h
theorem oK.row{m:List Row}{n i:Nat}(L:oK m n)(hi:i<n):m.getD i []∈m:=by
 have:i<m.length:=by rw[L.1];exact hi
 rw[aa,af this];exact aV this
theorem oK.low{m:List Row}{n i j:Nat}(L:oK m n)(hi:i<n)(hj:j<=n):CA (at_ (m.getD i []) j):=by
 obtain⟨a,b⟩:=L.2 _ (L.row hi)
 exact b _ (Sa (by omega))
theorem Kw{p:Nat->Bool}{n i:Nat}(hi:i<n)(h1:p i=true)(h2:∀j,j<i->p j=false):(aB n).find? p=some i:=by
 rw[gF]
 exact⟨h1,by simpa using hi,λ j hj=>by rw[h2 j hj];rfl⟩
theorem Sd{f:Fr->Fr->Fr}{a b:Row}{j:Nat}(ha:j<a.length)(hb:j<b.length):at_ (iT f a b) j=f (at_ a j) (at_ b j):=by
 simp[at_,aa,fG,af ha,af hb]
theorem Nj{f:Fr->Fr}{a:Row}{j:Nat}(ha:j<a.length):at_ (a.map f) j=f (at_ a j):=by
 simp[at_,aa,ai,af ha]
theorem Hh{m:List Row}{n k:Nat}(L:oK m n)(hk:k<n)(hp:pP m k k≠0) :
  oK (cleared m k) n/\∀i j,i<n->j<=n->pP (cleared m k) i j=if i=k then pP m k j/pP m k k else pP m i j-pP m i k*(pP m k j/pP m k k):=by
 have lk:=L.low hk (aZ hk)
 have Nk:=(L.2 _ (L.row hk)).1
 have fd:((aB m.length).find? λ j=>decide (k<=j)&&(at_ (m.getD j []) k).num != 0)=some k:=by
  rw[L.1];refine Kw hk ?_ λ j hj=>?_
  ·have:(at_ (m.getD k []) k).num≠0:=λ z=>hp ((Bq lk.pos).mp z)
   simp only[aq,decide_true,bY,bne_iff_ne,ne_eq];exact this
  ·simp;omega
 have un:cleared m k=(((m.set k (m.getD k [])).set k ((m.getD k []).map λ a=>a.div (at_ (m.getD k []) k))).zipIdx.map λ x=>if x.2=k then x.1 else less x.1 (at_ x.1 k) ((m.getD k []).map λ a=>a.div (at_ (m.getD k []) k))):=by
  unfold cleared;rw[fd]
 have Ol:∀i,i<n->(cleared m k).getD i []=if i=k then (m.getD k []).map λ a=>a.div (at_ (m.getD k []) k) else less (m.getD i []) (at_ (m.getD i []) k) ((m.getD k []).map λ a=>a.div (at_ (m.getD k []) k)):=λ i hi=>by
  have hm:i<m.length:=by rw[L.1];exact hi
  have hkm:k<m.length:=by rw[L.1];exact hk
  rw[un]
  by_cases e:i=k
  ·subst e;simp[aa,d7,fC,hm]
  ·have e':k≠i:=λ z=>e z.symm
   simp[aa,d7,fC,hm,e,e']
 have UK:(cleared m k).length=n:=by rw[un];simp[L.1]
 refine⟨⟨UK,λ r hr=>?_⟩,λ i j hi hj=>?_⟩
 ·obtain⟨i,hi,rfl⟩:=bR hr
  have hi':i<n:=by rw[UK] at hi;exact hi
  have e:=Ol i hi';rw[aa,af hi] at e;rw[show (cleared m k)[i]=_ from e];have ql:∀x∈(m.getD k []).map λ a=>a.div (at_ (m.getD k []) k),CA x:=λ x hx=>by
   obtain⟨a,ha,rfl⟩:=az.mp hx;exact IM ((L.2 _ (L.row hk)).2 a ha).pos lk.pos hp
  split
  ·exact⟨by rw[ah,Nk],ql⟩
  ·have li:=L.2 _ (L.row hi');refine⟨by simp only[less,eS,ah,li.1,Nk];omega,λ x hx=>?_⟩;obtain⟨t,ht,rfl⟩:=bR hx;have Z0:CA ((less (m.getD i []) (at_ (m.getD i []) k) ((m.getD k []).map λ a=>a.div (at_ (m.getD k []) k)))[t]):=by
    simp only[less,List.getElem_zipWith]
    have ht':=ht;simp only[less,eS,ah] at ht'
    have l1:=li.2 _ (aV (show t<(m.getD i []).length by omega));have l2:=ql _ (aV (show t<((m.getD k []).map λ a=>a.div (at_ (m.getD k []) k)).length by rw[ah];omega));exact IL l1.pos (Eu (L.low hi' (aZ hk)).pos l2.pos).pos
   exact Z0
 ·simp only[pP]
  rw[Ol i hi]
  by_cases e:i=k
  ·rw[if_pos e,if_pos e,Nj (by rw[Nk];omega),IP (L.low hk hj).pos lk.pos hp]
  ·rw[if_neg e,if_neg e];have li:=(L.2 _ (L.row hi)).1;unfold less;rw[Sd (by rw[li];omega) (by rw[ah,Nk];omega),Nj (by rw[Nk];omega)];have dv:=IM (L.low hk hj).pos lk.pos hp;rw[val_sub (L.low hi hj).pos (Eu (L.low hi (aZ hk)).pos dv.pos).pos,val_mul (L.low hi (aZ hk)).pos dv.pos,IP (L.low hk hj).pos lk.pos hp]
theorem DE{m:List Row}{n:Nat}(L:oK m n)(hp:∀k,k<n->G (pP m) k k k≠0):∀k,k<=n->oK ((aB k).foldl cleared m) n/\∀i j,i<n->j<=n->pP ((aB k).foldl cleared m) i j=G (pP m) k i j
 |0,_=>⟨L,λ _ _ _ _=>rfl⟩
 |k+1,hk=>by
  obtain⟨a,b⟩:=DE L hp k (aZ hk);rw[List.range_succ,dU,dG,gv];obtain⟨c,d⟩:=Hh a hk (by rw[b k k hk (aZ hk)];exact hp k hk);refine⟨c,λ i j hi hj=>?_⟩;rw[d i j hi hj,b k j hk hj,b k k hk (aZ hk),b i j hi hj,b i k hi (aZ hk)];rfl
theorem Ky{m:List Row}{n:Nat}(L:oK m n){u:Nat->Rat}(K:Dom (pP m) n u):(solved m).length=n/\(∀i,i<n->CA (at_ (solved m) i))/\∀i,i<n->sm n (λ t=>pP m i t*val (at_ (solved m) t))=pP m i n:=by
 have hp:=(Iw K n (aq n)).1
 have GN:∀k,k<n->G (pP m) k k k≠0:=λ k hk=>by have:=hp k hk;grind
 obtain⟨a,b⟩:=DE L GN n (aq n)
 have sv:∀i,i<n->at_ (solved m) i=at_ (((aB n).foldl cleared m).getD i []) n:=λ i hi=>by
  have:i<((aB n).foldl cleared m).length:=by rw[a.1];exact hi
  unfold solved;rw[L.1];simp[at_,aa,ai,af this]
 refine⟨by unfold solved;rw[L.1,ah,a.1],λ i hi=>by rw[sv i hi];exact a.low hi (aq n),λ i hi=>?_⟩
 have bk:=Bf GN n (aq n) i n
 rw[if_neg (by omega)] at bk
 rw[kQ (g:=λ t=>pP m i t*G (pP m) n t n) λ t ht=>by
  have:=b t n ht (aq n);simp only[pP] at this ⊢
  rw[sv t ht,this]]
 grind
def Br(x:Fr×List (Nat×Fr)):nK:=⟨1,x.2.map λ y=>(y.1,val y.2),val x.1⟩
theorem ya{t:Nat}:∀(ys:List (Nat×Fr)) (a:Fr),0<a.den->(∀y∈ys,0<y.2.den)->0<((ys.filter λ y=>y.1==t).foldl (λ a y=>a.add y.2) a).den/\val ((ys.filter λ y=>y.1==t).foldl (λ a y=>a.add y.2) a)=val a+wj (ys.map λ y=>(y.1,val y.2)) t
 |[],a,ha,_=>⟨ha,by simp only[List.filter_nil,gv,bO,wj];grind⟩
 |y::ys,a,ha,h=>by
  have hy:=h y (by simp)
  by_cases e:(y.1==t)=true
  ·rw[List.filter_cons_of_pos (p:=λ y:Nat×Fr=>y.1==t) e,dG];obtain⟨p,q⟩:=ya (t:=t) ys (a.add y.2) (IK ha hy).pos λ z hz=>h z (by simp[hz])
   refine⟨p,?_⟩;rw[q,val_add ha hy];simp only[aT,wj]
   rw[if_pos (beq_iff_eq.mp e).symm];grind
  ·rw[List.filter_cons_of_neg (p:=λ y:Nat×Fr=>y.1==t) e];obtain⟨p,q⟩:=ya (t:=t) ys a ha λ z hz=>h z (by simp[hz])
   refine⟨p,?_⟩;rw[q];simp only[aT,wj]
   rw[if_neg (λ z=>e (beq_iff_eq.mpr z.symm))];grind
theorem FN{n:Nat}{f:Nat->Fr×List (Nat×Fr)}{u:Nat->Rat}(hl:∀s,s<n->CA (f s).1/\∀y∈(f s).2,0<y.2.den)(K:Keeps (λ s=>Br (f s)) n u) :
  (standing n f).length=n/\(∀s,s<n->CA (at_ (standing n f) s))/\∀s,s<n->(Br (f s)).lhs s (λ t=>val (at_ (standing n f) t))=(Br (f s)).rhs:=by
 let m:List Row:=(aB n).map λ s=>((aB n).map λ t=>(if t=s then one_ else none_).sub (((f s).2.filter λ y=>y.1==t).foldl (λ a y=>a.add y.2) none_))++[(f s).1]
 have hst:standing n f=solved m:=rfl
 have rowAt:∀s,s<n->m.getD s []=((aB n).map λ t=>(if t=s then one_ else none_).sub (((f s).2.filter λ y=>y.1==t).foldl (λ a y=>a.add y.2) none_))++[(f s).1]:=λ s hs=>by
  simp[m,aa,ai,aN hs]
 have e0:∀t s:Nat,CA (if t=s then one_ else none_):=λ t s=>by split;exact IQ;exact sD
 have L:oK m n:=by
  refine⟨by simp[m],λ r hr=>?_⟩;obtain⟨s,hs,rfl⟩:=az.mp hr;have hs:=aX.mp hs;refine⟨by simp,λ x hx=>?_⟩
  rcases bu.mp hx with h | h
  ·obtain⟨t,_,rfl⟩:=az.mp h;exact IL (e0 t s).pos (ya _ _ sD.pos (hl s hs).2).1
  ·rw[List.mem_singleton.mp h];exact (hl s hs).1
 have eA:∀s t,s<n->t<n->pP m s t=(Br (f s)).am s t:=λ s t hs ht=>by
  simp only[pP]
  rw[rowAt s hs];have:at_ (((aB n).map λ t=>(if t=s then one_ else none_).sub (((f s).2.filter λ y=>y.1==t).foldl (λ a y=>a.add y.2) none_))++[(f s).1]) t=(if t=s then one_ else none_).sub (((f s).2.filter λ y=>y.1==t).foldl (λ a y=>a.add y.2) none_):=by
   unfold at_;rw[aa,bL (by simpa using ht),ai,aN ht];rfl
  obtain⟨p,q⟩:=ya (t:=t) _ _ sD.pos (hl s hs).2;rw[this,val_sub (e0 t s).pos p,q,sE];simp only[nK.am,Br]
  by_cases e:t=s
  ·simp only[e,if_true,val_one];grind
  ·simp only[e,if_false,sE];grind
 have eN:∀s,s<n->pP m s n=(Br (f s)).rhs:=λ s hs=>by
  simp only[pP]
  rw[rowAt s hs];have:at_ (((aB n).map λ t=>(if t=s then one_ else none_).sub (((f s).2.filter λ y=>y.1==t).foldl (λ a y=>a.add y.2) none_))++[(f s).1]) n=(f s).1:=by
   unfold at_;rw[aa,cP (by simp)];simp
  rw[this];rfl
 have D:Dom (pP m) n u:={
  off:=λ i j hi hj e=>by rw[eA i j hi hj];exact K.dom.off i j hi hj e
  pos:=K.pos
  sum:=λ i hi=>by
   rw[kQ (g:=λ j=>(Br (f i)).am i j*u j) λ j hj=>by rw[eA i j hi hj]];exact K.dom.sum i hi }
 obtain⟨a,b,c⟩:=Ky L D
 rw[hst]
 refine⟨a,b,λ s hs=>?_⟩
 have c':=c s hs
 rw[eN s hs,kQ (g:=λ t=>(Br (f s)).am s t*val (at_ (solved m) t)) λ t ht=>by rw[eA s t hs ht],nK.dot hs (K.to s hs)] at c'
 exact c'
theorem wR{α:Type}{f:α->α}{x:α}(h:f x=x):∀k,iter f k x=x
 |0=>rfl
 |k+1=>by show iter f k (f x)=x;rw[h];exact wR h k
theorem zz(value:Plan->Row)(change:Plan->Row->Plan):∀(fuel k:Nat) (p:Plan),k<=fuel->change (iter (λ p=>change p (value p)) k p) (value (iter (λ p=>change p (value p)) k p))=iter (λ p=>change p (value p)) k p ->
  improved value change fuel p=value (iter (λ p=>change p (value p)) k p)
 |0,k,p,hk,_=>by
  have:k=0:=by omega
  subst this;rfl
 |fuel+1,0,p,_,h=>by
  have h':change p (value p)=p:=h;show (if change p (value p)=p then value p else improved value change fuel (change p (value p)))=value p;rw[if_pos h']
 |fuel+1,k+1,p,hk,h=>by
  show (if change p (value p)=p then value p else improved value change fuel (change p (value p)))=_
  by_cases e:change p (value p)=p
  ·rw[if_pos e,wR (f:=λ p=>change p (value p)) e]
  ·rw[if_neg e];exact zz value change fuel k (change p (value p)) (by omega) h
theorem Bs{v:Row}{n:Nat}(hv:∀s,s<n->0<(at_ v s).den):∀(ps:List (Nat×Fr)) (a:Fr),0<a.den->(∀y∈ps,0<y.2.den/\y.1<n) ->
  0<(ps.foldl (λ a w=>a.add (w.2.mul (at_ v w.1))) a).den/\val (ps.foldl (λ a w=>a.add (w.2.mul (at_ v w.1))) a)=val a+wd (ps.map λ y=>(y.1,val y.2)) (λ t=>val (at_ v t))
 |[],a,ha,_=>⟨ha,by simp only[gv,bO,wd];grind⟩
 |y::ys,a,ha,h=>by
  obtain⟨h1,h2⟩:=h y (by simp);have hm:=Eu h1 (hv y.1 h2);obtain⟨p,q⟩:=Bs hv ys (a.add (y.2.mul (at_ v y.1))) (IK ha hm.pos).pos λ z hz=>h z (by simp[hz])
  rw[dG];refine⟨p,?_⟩;rw[q,val_add ha hm.pos,val_mul h1 (hv y.1 h2)];simp only[aT,wd];grind
theorem DF{c:Choice}(hW:0<c.weight):∀y∈c.parts,CA y.2:=λ y hy=>by
 obtain⟨w,_,rfl⟩:=az.mp hy
 exact Bp hW
theorem Bt{c:Choice}(hW:0<c.weight)(x:Nat->Rat):(((c.weight:Nat):Int):Rat)*wd (c.parts.map λ y=>(y.1,val y.2)) x=wd (nZ c.ways) x:=by
 have hq:=mF (show (0:Int)<(c.weight:Int) by omega)
 have:∀ws:List (Nat×Nat),(((c.weight:Nat):Int):Rat)*wd ((ws.map λ w=>(w.1,fr (w.2:Nat) c.weight)).map λ y=>(y.1,val y.2)) x=wd (nZ ws) x:=λ ws=>by
  induction ws with
  |nil=>simp only[bO,wd,nZ];grind
  |cons w ws ih=>
   simp only[aT,wd,nZ] at ih ⊢
   rw[<-ih,wQ hW,bh,bh];rw[bh] at hq;grind
 exact this c.ways
theorem IR{c:Choice}(hW:0<c.weight):wd (c.parts.map λ y=>(y.1,val y.2)) (λ _=>1)=1:=by
 have hq:=mF (show (0:Int)<(c.weight:Int) by omega)
 have e:=Bt hW (λ _=>1)
 have:∀ws:List (Nat×Nat),wd (nZ ws) (λ _=>1)=((((ws.map λ w=>w.2).sum:Nat):Int):Rat):=λ ws=>by
  induction ws with
  |nil=>simp only[nZ,bO,wd,List.sum_nil];rfl
  |cons w ws ih=>
   simp only[nZ,aT,wd,cV] at ih ⊢
   rw[ih,Int.natCast_add,fY,bh w.2];grind
 rw[this] at e
 have e':(((c.weight:Nat):Int):Rat)*wd (c.parts.map λ y=>(y.1,val y.2)) (λ _=>1)=(((c.weight:Nat):Int):Rat):=e
 clear e this
 generalize wd (c.parts.map λ y=>(y.1,val y.2)) (λ _=>1)=x at *
 generalize (((c.weight:Nat):Int):Rat)=a at *
 have h1:a*x<=a*1:=by grind
 have h2:a*1<=a*x:=by grind
 have:=bD h1 hq
 have:=bD h2 hq
 grind
section
variable{N:Net}{p q:Nat}
theorem pQ(G:Good N){s:Nat}{c:Choice}(h:c∈choicesOf N s):0<c.weight/\(∀w∈c.ways,w.1<N.length)/\(choicesOf N s).length<=8:=by
 obtain⟨x,hx,hc⟩:=qK h
 obtain⟨a,b,d,_⟩:=G.ways x hx c hc
 refine⟨Bd a λ w hw=>(d w hw).2.1,λ w hw=>(d w hw).1,?_⟩
 unfold choicesOf at h ⊢
 cases e:N[s]? with
 |none=>simp
 |some y=>simp only[bE,di];exact G.few y (au e)
end
section
variable{N:Net}{p q:Nat}
end
theorem Kz{a b c:Rat}(h:a+b<=c):a<=c-b:=by grind
section
variable{N:Net}{p q:Nat}
def zeros(n:Nat):List Int:=(aB n).map λ _=>0
theorem Bu(n s:Nat):(zeros n).getD s 0=0:=by
 simp only[zeros,aa,ai]
 cases (aB n)[s]? <;> rfl
end
end La
end
noncomputable section
namespace La
def In(x b:Rat):Prop:=-b<=x/\x<=b
theorem In.mul{x y a b:Rat}(ha:In x a)(hb:In y b)(a0:0<=a)(b0:0<=b):In (x*y) (a*b):=by
 obtain⟨p,q⟩:=ha
 obtain⟨r,s⟩:=hb
 have h1:0<=(a-x)*(b+y):=bq (by grind) (by grind)
 have h2:0<=(a+x)*(b-y):=bq (by grind) (by grind)
 have h3:0<=(a-x)*(b-y):=bq (by grind) (by grind)
 have h4:0<=(a+x)*(b+y):=bq (by grind) (by grind)
 constructor<;>grind
theorem UL{X:Rat}:∀(C:List Nat) (f:Nat->List Nat->Rat),(∀c cs,c∈C->(∀x∈cs,x∈C)->cs.length+1=C.length->In (f c cs) X)->In (S f C) ((C.length:Rat)*X)
 |[],f,_=>by
  show In 0 (((0:Nat):Rat)*X);have:((0:Nat):Rat)=0:=rfl;rw[this]
  constructor<;>grind
 |a::C,f,h=>by
  have i:=UL C (λ d ds=>f d (a::ds)) λ c cs hc hcs hl=>h c (a::cs) (by simp[hc]) (λ x hx=>by
   rcases aA.mp hx with rfl | hx
   ·simp
   ·simp[hcs x hx]) (by simp[hl])
  have j:=h a C (by simp) (λ x hx=>by simp[hx]) rfl;have e:(((a::C).length:Nat):Rat)=(C.length:Rat)+1:=by rw[aJ,Rat.natCast_add];rfl
  simp only[S]
  rw[e];obtain⟨p,q⟩:=i;obtain⟨r,s⟩:=j
  constructor<;>grind
theorem PD{M L:Rat}(hM:0<=M)(hL:0<=L)(h1:1<=L*M):∀(V:List (Nat->Rat)) (R:List Nat),(R.length:Rat)<=L->(∀v∈V,∀r∈R,In (v r) M)->In (D V R) ((L*M)^V.length)
 |[],R,_,_=>by
  show In 1 ((L*M)^0);rw[gg]
  constructor<;>grind
 |v::V,R,hR,h=>by
  have X0:0<=(L*M)^V.length:=by
   have:0<L*M:=by grind
   induction V.length with
   |zero=>rw[gg];grind
   |succ k ih=>rw[dF];exact bq ih (by grind)
  have s:=UL (X:=M*(L*M)^V.length) R (λ r R'=>v r*D V R') λ c cs hc hcs hl=>by
   refine In.mul (h v (by simp) c hc) (PD hM hL h1 V cs ?_ λ u hu r hr=>h u (by simp[hu]) r (hcs r hr)) hM X0;have:(cs.length:Rat)<=(R.length:Rat):=cg.mpr (by omega);grind
  rw[aJ,dF];have m:(R.length:Rat)*(M*(L*M)^V.length)<=L*(M*(L*M)^V.length):=cD hR (bq hM X0);show In (S (λ r R'=>v r*D V R') R) _;obtain⟨p,q⟩:=s
  constructor<;>grind
theorem qt:∀k,(desc k).length=k
 |0=>rfl
 |k+1=>by simp[desc,qt k]
section
variable{A:Nat->Nat->Rat}{n:Nat}
theorem KA{x:Rat}(h:1<=x):∀{a b:Nat},a<=b->x^a<=x^b:=λ {a b} hab=>by
 induction b with
 |zero=>
   have:a=0:=by omega
   subst this;exact bK
 |succ b ih=>
  by_cases e:a=b+1
  ·subst e;exact bK
  ·have i:=ih (by omega);have p:0<=x^b:=by
    clear i ih hab e
    induction b with
    |zero=>rw[gg];grind
    |succ b ih=>rw[dF];exact bq ih (by grind)
   have q:=bB h p;rw[dF];grind
theorem PF{M L:Rat}(hM:0<=M)(hL:0<=L)(h1:1<=L*M)(hn:((n+1:Nat):Rat)<=L)(hA:∀i j,i<n->j<=n->In (A i j) M)(hp:∀k,k<n->G A k k k≠0)(k:Nat)(hk:k<=n) :
  In (dd A k) ((L*M)^(n+1))/\∀i j,i<n->j<=n->In (dd A k*G A k i j) ((L*M)^(n+1)):=by
 have up:∀{x:Rat} {a:Nat},a<=n+1->In x ((L*M)^a)->In x ((L*M)^(n+1)):=λ {x a} ha h=>by
  have:=KA h1 ha;obtain⟨p,q⟩:=h
  constructor<;>grind
 have len:∀m:Nat,m<=n+1->((m:Nat):Rat)<=L:=λ m hm=>iU (cg.mpr hm) hn
 obtain⟨one,two⟩:=Na hp k hk
 have Se:∀(l:List Nat),(∀x∈l,x<=n)->∀(R:List Nat),(∀r∈R,r<n)->∀v∈l.map (col A),∀r∈R,In (v r) M:=λ l hl R hR v hv r hr=>by
  obtain⟨j,hj,rfl⟩:=az.mp hv;exact hA r j (hR r hr) (hl j hj)
 have dk:∀x∈desc k,x<n:=λ x hx=>aH (mZ.mp hx) hk
 refine⟨?_,λ i j hi hj=>?_⟩
 ·rw[<-one]
  refine up (a:=((desc k).map (col A)).length) (by rw[ah,qt];omega) (PD hM hL h1 _ _ (by rw[qt];exact len k (by omega)) (Se _ (λ x hx=>aZ (dk x hx)) _ dk))
 ·by_cases hik:k<=i
  ·rw[<-two i j hik];refine up (a:=(col A j::(desc k).map (col A)).length) (by rw[aJ,ah,qt];omega) (PD hM hL h1 _ _ (by rw[aJ,qt];exact len (k+1) (by omega)) (Se (j::desc k) (λ x hx=>?_) _ λ r hr=>?_))
   ·rcases aA.mp hx with rfl | hx
    ·exact hj
    ·exact aZ (dk x hx)
   ·rcases aA.mp hr with rfl | hr
    ·exact hi
    ·exact dk r hr
  ·have hi':i<k:=by omega
   obtain⟨s,t,e⟩:=dD (mZ.mpr hi');obtain⟨c,hc⟩:=IC (k:=k) (desc k) (λ r hr=>mZ.mp hr) λ r R'=>D ((s++t).map (col A)) R'
   have y:∀l,D (col A l::(s++t).map (col A)) (desc k)=sm k (λ m=>A m l*c m):=λ l=>hc (col A l)
   obtain⟨σ,hs,mv⟩:=Hg (col A i) (s.map (col A)) (t.map (col A));have yi:sm k (λ m=>A m i*c m) = σ*dd A k:=by
    rw[<-y,bw,mv,<-one,e];simp
   have y0:∀l,l<k->l≠i->sm k (λ m=>A m l*c m)=0:=λ l hl hne=>by
    rw[<-y];have hm:l∈s++t:=by
     have:=mZ.mpr hl;rw[e] at this;simp only[bu,aA] at this ⊢
     rcases this with h | h | h
     ·exact .inl h
     ·exact absurd h hne
     ·exact .inr h
    obtain⟨a,b,e2⟩:=dD hm;rw[e2,bw,aT];exact IA _ _ _ _
   have Z1:∀x∈s++t,x∈desc k:=λ x hx=>by
    rw[e]
    rcases bu.mp hx with h | h
    ·exact bu.mpr (.inl h)
    ·exact bu.mpr (.inr (aL _ h))
   have ln:(s++t).length+1=k:=by
    have:=congrArg fc e;rw[qt] at this;simp at this ⊢;omega
   have yj:In (D (col A j::(s++t).map (col A)) (desc k)) ((L*M)^(n+1)):=by
    refine up (a:=(col A j::(s++t).map (col A)).length) (by rw[aJ,ah,ln];omega) (PD hM hL h1 _ _ (by rw[qt];exact len k (by omega)) (Se (j::(s++t)) (λ x hx=>?_) _ dk))
    rcases aA.mp hx with rfl | hx
    ·exact hj
    ·exact aZ (dk x (Z1 x hx))
   rw[y,Bh hp hk c j,yU (i:=i) hi' λ l hl hne=>by rw[y0 l hl hne];grind,yi] at yj
   rcases hs with rfl | rfl
   ·have:(1:Rat)*dd A k*G A k i j=dd A k*G A k i j:=by grind
    rwa [this] at yj
   ·have:dd A k*G A k i j = - (-1*dd A k*G A k i j):=by grind
    rw[this];obtain⟨p,q⟩:=yj
    constructor<;>grind
end
theorem FO{rows:List (List Int)}{n:Nat}(hl:rows.length=n)(hw:∀r∈rows,r.length=n+1)(hn:n<=16)(hA:∀i j,i<n->j<=n->((rows.getD i []).getD j 0).natAbs<2^40)(hp:∀k,k<n->0<G (ent rows) k k k)(k:Nat)(hk:k<=n) :
  (jv rows k).2.natAbs<2^1000/\∀i j,i<n->j<=n->(((jv rows k).1.getD i []).getD j 0).natAbs<2^1000:=by
 obtain⟨a,b,c,d⟩:=qm hl hw hp k hk
 have GN:∀k,k<n->G (ent rows) k k k≠0:=λ k hk=>by have:=hp k hk;grind
 have WQ:∀{z:Int} {m:Nat},z.natAbs<m->In (z:Rat) ((m:Nat):Rat):=λ {z m} h=>by
  constructor
  ·have:(((-(m:Int)):Int):Rat)<=(z:Rat):=cM.mpr (by omega);rw[eX,bh] at this;exact this
  ·have:(z:Rat)<=(((m:Nat):Int):Rat):=cM.mpr (by omega);rw[bh] at this;exact this
 have Nl:∀{z:Int} {m:Nat},In (z:Rat) ((m:Nat):Rat)->z.natAbs<=m:=λ {z m} h=>by
  obtain⟨p,q⟩:=h;rw[<-bh] at p q;rw[<-eX] at p;have:=cM.mp p;have:=cM.mp q;omega
 obtain⟨e,f⟩:=PF (A:=ent rows) (n:=n) (M:=((2^40:Nat):Rat)) (L:=((17:Nat):Rat)) gx gx (by
  rw[<-eY];have:((1:Nat):Rat)<=((17*2^40:Nat):Rat):=cg.mpr (by decide);exact this) (cg.mpr (by omega)) (λ i j hi hj=>WQ (hA i j hi hj)) GN k hk
 have pw:(((17:Nat):Rat)*((2^40:Nat):Rat))^(n+1)=(((17*2^40)^(n+1):Nat):Rat):=by
  rw[<-eY];generalize 17*2^40=q
  induction (n+1) with
  |zero=>rw[gg,Nat.pow_zero];rfl
  |succ m ih=>rw[dF,b9,eY,ih]
 rw[pw] at e f
 have small:(17*2^40)^(n+1)<2^1000:=by
  have:(17*2^40)^(n+1)<=(17*2^40)^17:=dY (by decide) (by omega);exact bF this (by decide +kernel)
 rw[<-c] at e
 refine⟨bF (Nl e) small,λ i j hi hj=>?_⟩
 have g:=f i j hi hj
 rw[<-d i j hi hj] at g
 exact bF (Nl g) small
theorem QT{n:Nat}{u:Nat->Rat}{U d:Rat}:∀{ws:List (Nat×Rat)}{w₀:Nat×Rat},w₀∈ws->(∀w∈ws,w.1<n/\0<=w.2)->(∀t,t<n->u t<=U)->u w₀.1<=U-d->wd ws u<=wd ws (λ _=>1)*U-w₀.2*d
 |w::ws,w₀,h,a,b,c=>by
  have rest:wd ws u<=wd ws (λ _=>1)*U:=by
   have e:wd ws (λ _=>U)=wd ws (λ _=>1)*U:=by
    clear a h
    induction ws with
    |nil=>simp only[wd];grind
    |cons x ws ih=>simp only[wd];rw[ih];grind
   rw[<-e];exact x6 (n:=n) b (λ x hx=>(a x (by simp[hx])).1) λ x hx=>(a x (by simp[hx])).2
  have w0:=(a w (by simp)).2;simp only[wd]
  by_cases e:w₀ = w
  ·subst e;have:=bB c w0;grind
  ·have hm:w₀∈ws:=by
    rcases aA.mp h with z | z
    ·exact absurd z e
    ·exact z
   have i:=QT hm (λ x hx=>a x (by simp[hx])) b c;have:=bB (b w.1 (a w (by simp)).1) w0;grind
structure PJ(R:Nat->nK)(n K:Nat):Prop where
 row:∀s,s<n->((R s).tot=1/\(R s).ways=[])\/((R s).ways≠[]/\0<(R s).tot/\wd (R s).ways (λ _=>1)=(R s).tot)
 way:∀s,s<n->∀w∈(R s).ways,w.1<n/\0<w.2/\(R s).tot<=(K:Rat)*w.2
theorem Bv{x:Rat}(h:0<x):∀k:Nat,0<x^k
 |0=>by rw[gg];decide
 |k+1=>by rw[dF];exact fV (Bv h k) h
theorem Hi{R:Nat->nK}{n K B:Nat}(L:PJ R n K)(rk:Nat->Nat)(hB:∀s,s<n->rk s<=B)(hr:∀s,s<n->(R s).ways≠[]->∃w∈(R s).ways,rk w.1<rk s) :
  ∃u,Keeps R n u:=by
 let x:Rat:=(K:Rat)+1
 have k0:(0:Rat)<=(K:Rat):=gx
 have x0:0<x:=by show 0<(K:Rat)+1;grind
 have x1:1<=x:=by show 1<=(K:Rat)+1;grind
 let g:Nat->Rat:=λ s=>x^(B-rk s)
 have g0:∀s,0<g s:=λ s=>Bv x0 _
 have mono:∀a b:Nat,a<=b->x^a<=x^b:=λ a b h=>by
  induction b with
  |zero=>
    have:a=0:=by omega
    subst this;exact bK
  |succ b ih=>
   by_cases e:a=b+1
   ·subst e;exact bK
   ·have:=ih (by omega);rw[dF];have q:=bB x1 (bQ (Bv x0 b));grind
 let U:Rat:=x^B+1
 have gU:∀s,g s<U:=λ s=>by
  have:=mono (B-rk s) B (by omega);show x^(B-rk s)<x^B+1;grind
 refine⟨λ s=>U-g s,λ s hs w hw=>(L.way s hs w hw).1,λ s hs w hw=>bQ (L.way s hs w hw).2.1,λ s _=>by have:=gU s;grind,λ s hs=>?_⟩
 rcases L.row s hs with ⟨e1,e2⟩ | ⟨ne,t0,e1⟩
 ·simp only[nK.lhs]
  rw[e1,e2];have:=gU s;simp only[wd];grind
 ·obtain⟨w,hw,lt⟩:=hr s hs ne
  obtain⟨wn,wp,wk⟩:=L.way s hs w hw;have b:=QT (n:=n) (u:=λ s=>U-g s) (U:=U) (d:=g w.1) hw (λ y hy=>⟨(L.way s hs y hy).1,bQ (L.way s hs y hy).2.1⟩) (λ t _=>by have:=g0 t;grind) bK;rw[e1] at b;simp only[nK.lhs]
  have step:(K:Rat)*g s<g w.1:=by
   have h1:x^(B-rk s+1)<=x^(B-rk w.1):=mono _ _ (by have:=hB s hs;omega);rw[dF] at h1;have:=g0 s;show (K:Rat)*x^(B-rk s)<x^(B-rk w.1);have e:x^(B-rk s)*x=(K:Rat)*x^(B-rk s)+x^(B-rk s):=by show _*((K:Rat)+1)=_;grind
   have:0<x^(B-rk s):=g0 s;grind
  have s1:=d8 step wp;have s2:(R s).tot*g s<=((K:Rat)*w.2)*g s:=cD wk (bQ (g0 s));grind
def Bw(R:Nat->nK)(n:Nat):Prop:=∀C:Nat->Prop,(∃s,C s)->(∀s,C s->s<n/\(R s).ways≠[])->∃s,C s/\∃w∈(R s).ways,¬C w.1
theorem least{p:Nat->Prop}:∀k,p k->∃j,p j/\∀i,i<j->¬p i:=by
 intro k
 induction k using g6 with
 |_ k ih=>
  intro h
  by_cases e:∃i,i<k/\p i
  ·obtain⟨i,hi,hp⟩:=e;exact ih i hi hp
  ·exact⟨k,h,λ i hi hp=>e ⟨i,hi,hp⟩⟩
def Nn(R:Nat->nK):Nat->Nat->Prop
 |0,s=>(R s).ways=[]
 |k+1,s=>Nn R k s\/∃w∈(R s).ways,Nn R k w.1
theorem PK{R:Nat->nK}{n:Nat}(P:Bw R n)(hw:∀s,s<n->∀w∈(R s).ways,w.1<n):∃(rk:Nat->Nat) (B:Nat),(∀s,s<n->rk s<=B)/\∀s,s<n->(R s).ways≠[]->∃w∈(R s).ways,rk w.1<rk s:=by
 have all:∀s,s<n->∃k,Nn R k s:=by
  by_cases h:∃s,s<n/\∀k,¬Nn R k s
  ·exfalso
   obtain⟨s₀,h0,h1⟩:=h;obtain⟨s,⟨hs,hc⟩,w,vp,hn⟩:=P (λ s=>s<n/\∀k,¬Nn R k s) ⟨s₀,h0,h1⟩ λ s hs=>⟨hs.1,λ z=>hs.2 0 z⟩
   refine hn ⟨hw s hs w vp,λ k hk=>hc (k+1) (.inr ⟨w,vp,hk⟩)⟩
  ·intro s hs
   by_cases e:∃k,Nn R k s
   ·exact e
   ·exact absurd ⟨s,hs,λ k hk=>e ⟨k,hk⟩⟩ h
 have pick:∀s,∃j,s<n->Nn R j s/\∀i,i<j->¬Nn R i s:=λ s=>by
  by_cases hs:s<n
  ·obtain⟨k,hk⟩:=all s hs;obtain⟨j,a,b⟩:=least (p:=λ k=>Nn R k s) k hk;exact⟨j,λ _=>⟨a,b⟩⟩
  ·exact⟨0,λ h=>absurd h hs⟩
 let rk:Nat->Nat:=λ s=>gP (pick s)
 have hrk:∀s,s<n->Nn R (rk s) s/\∀i,i<rk s->¬Nn R i s:=λ s hs=>fH (pick s) hs
 have bound:∀m,∃B,∀s,s<m->rk s<=B:=λ m=>by
  induction m with
  |zero=>exact⟨0,λ s h=>absurd h (g7 s)⟩
  |succ m ih=>
   obtain⟨B,hB⟩:=ih;refine⟨max B (rk m),λ s hs=>?_⟩
   by_cases e:s=m
   ·subst e;omega
   ·have:=hB s (by omega);omega
 obtain⟨B,hB⟩:=bound n
 refine⟨rk,B,hB,λ s hs ne=>?_⟩
 obtain⟨a,b⟩:=hrk s hs
 cases e:rk s with
 |zero=>rw[e] at a;exact absurd a ne
 |succ k=>
  rw[e] at a b
  rcases a with a | ⟨w,vp,hk⟩
  ·exact absurd a (b k (aD k))
  ·refine⟨w,vp,?_⟩;have:=(hrk w.1 (hw s hs w vp)).2
   by_cases z:rk w.1<k+1
   ·exact z
   ·exact absurd hk (this k (by omega))
theorem Bw.keeps{R:Nat->nK}{n K:Nat}(P:Bw R n)(L:PJ R n K):∃u,Keeps R n u:=by
 obtain⟨rk,B,h1,h2⟩:=PK P λ s hs w hw=>(L.way s hs w hw).1
 exact Hi L rk h1 h2
theorem Bx{v:Nat->Rat}:∀(n:Nat) (C:Nat->Prop),(∃s,s<n/\C s)->∃m,m<n/\C m/\∀s,s<n->C s->v s<=v m
 |0,C,h=>by obtain⟨s,hs,_⟩:=h;omega
 |n+1,C,h=>by
  by_cases e:∃s,s<n/\C s
  ·obtain⟨m,hm,cm,hx⟩:=Bx (v:=v) n C e
   by_cases q:C n/\v m<v n
   ·refine⟨n,by omega,q.1,λ s hs hc=>?_⟩
    by_cases z:s=n
    ·subst z;exact bK
    ·have:=hx s (by omega) hc;have:=q.2;grind
   ·refine⟨m,by omega,cm,λ s hs hc=>?_⟩
    by_cases z:s=n
    ·subst z;have:¬v m<v s:=λ y=>q ⟨hc,y⟩
     grind
    ·exact hx s (by omega) hc
  ·obtain⟨s,hs,hc⟩:=h;have:s=n:=by
    by_cases z:s=n
    ·exact z
    ·exact absurd ⟨s,by omega,hc⟩ e
   subst this;refine⟨s,hs,hc,λ t ht hct=>?_⟩;have:t=s:=by
    by_cases z:t=s
    ·exact z
    ·exact absurd ⟨t,by omega,hct⟩ e
   subst this;exact bK
theorem IS{v:Nat->Rat}{M:Rat}:∀{ws:List (Nat×Rat)},(∀w∈ws,0<w.2/\v w.1<=M)->wd ws v<=wd ws (λ _=>1)*M/\(wd ws v=wd ws (λ _=>1)*M->∀w∈ws,v w.1=M)
 |[],_=>⟨by simp only[wd];grind,λ _ w hw=>by cases hw⟩
 |x::ws,h=>by
  obtain⟨a,b⟩:=IS (ws:=ws) λ w hw=>h w (by simp[hw])
  obtain⟨p,q⟩:=h x (by simp);have m:=bB q (bQ p);refine⟨by simp only[wd];grind,λ e w hw=>?_⟩;simp only[wd] at e
  have e1:x.2*v x.1=x.2*M:=by grind
  have e2:wd ws v=wd ws (λ _=>1)*M:=by grind
  rcases aA.mp hw with rfl | hw
  ·have l1:=bD (a:=M) (b:=v w.1) (c:=w.2) (by rw[e1];exact bK) p;grind
  ·exact b e2 w hw
end La
end
noncomputable section
namespace La
open Ra61 Fq
theorem yW{α:Type}(f:α->α)(μ:α->Nat)(n:Nat)(P:α->Prop)(hP:∀x,P x->P (f x))(hb:∀x,P x->μ x<=n)(hm:∀x,P x->f x≠x->μ x<μ (f x)) :
  ∀(k:Nat) (x:α),P x->n<=μ x+k->f (iter f k x)=iter f k x
 |0,x,p,h=>by
  apply aG
  intro e;have:=hm x p e;have:=hb _ (hP x p);omega
 |k+1,x,p,h=>by
  apply Classical.byCases (p:=f x=x)
  ·intro e;rw[wR e,e]
  ·intro e;have:=hm x p e;exact yW f μ n P hP hb hm k (f x) (hP x p) (by omega)
theorem nG{α:Type}{f:α->α}{P:α->Prop}(hP:∀x,P x->P (f x)):∀(k:Nat) (x:α),P x->P (iter f k x)
 |0,_,p=>p
 |k+1,x,p=>nG hP k (f x) (hP x p)
def uX(r:Rat)(c:Choice):nK:=⟨1,c.parts.map λ y=>(y.1,val y.2),r⟩
theorem DG{c:Choice}(hW:0<c.weight)(m:Int)(r:Rat)(s:Nat)(x:Nat->Rat) :
  (qp (lX m c)).lhs s x=(((c.weight:Nat):Int):Rat)*(uX r c).lhs s x/\(qp (lX m c)).rhs=(((c.weight:Nat):Int):Rat)*((c.gain*m:Int):Rat)/\(0:Rat)<(((c.weight:Nat):Int):Rat):=by
 refine⟨?_,?_,mF (by omega)⟩
 ·have e:=Bt hW x
  show (((c.weight:Nat):Int):Rat)*x s-wd (nZ c.ways) x=(((c.weight:Nat):Int):Rat)*(1*x s-wd (c.parts.map λ y=>(y.1,val y.2)) x);rw[<-e];grind
 ·show ((c.gain*m*((c.weight:Nat):Int):Int):Rat)=_
  rw[aK];grind
theorem nK.IT(r:nK)(s:Nat)(x:Nat->Rat):r.lhs s (λ i=>- x i) = - r.lhs s x:=by
 have:∀ws:List (Nat×Rat),wd ws (λ i=>- x i) = - wd ws x:=λ ws=>by
  induction ws with
  |nil=>simp only[wd];grind
  |cons w ws ih=>simp only[wd];rw[ih];grind
 simp only[nK.lhs];rw[this];grind
theorem DH{N:Net}(G:Good N){s:Nat}{c:Choice}(hc:c∈choicesOf N s):c.weight<=16000/\∀w∈c.ways,1<=w.2:=by
 obtain⟨x,hx,hc'⟩:=qK hc
 obtain⟨a,b,d,_⟩:=G.ways x hx c hc'
 have:∀ws:List (Nat×Nat),(∀w∈ws,w.2<=1000)->(ws.map λ w=>w.2).sum<=ws.length*1000:=λ ws=>by
  induction ws with
  |nil=>intro _;simp
  |cons w ws ih=>
   intro h;have i:=ih λ x hx=>h x (by simp[hx])
   have:=h w (by simp);rw[aT,cV,aJ];omega
 have t:=this c.ways λ w hw=>(d w hw).2.2
 refine⟨?_,λ w hw=>(d w hw).2.1⟩
 show (c.ways.map λ w=>w.2).sum<=16000
 omega
theorem Ew{N:Net}(G:Good N){s:Nat}{c:Choice}(hc:c∈choicesOf N s):c.ways≠[]:=by
 obtain⟨x,hx,hc'⟩:=qK hc
 exact (G.ways x hx c hc').1
structure IU(N:Net)(r:nK):Prop where
 row:(r.tot=1/\r.ways=[])\/(r.ways≠[]/\0<r.tot/\wd r.ways (λ _=>1)=r.tot)
 way:∀w∈r.ways,w.1<N.length/\0<w.2/\r.tot<=((16000:Nat):Rat)*w.2
theorem Ex(N:Net)(x:Rat):IU N ⟨1,[],x⟩:=⟨.inl ⟨rfl,rfl⟩,λ w hw=>by cases hw⟩
theorem tL{N:Net}(G:Good N){s:Nat}{c:Choice}(hc:c∈choicesOf N s)(r:Rat):IU N (uX r c):=by
 obtain⟨hW,hn,_⟩:=pQ G hc
 obtain⟨Z2,w1⟩:=DH G hc
 refine⟨.inr ⟨?_,by show (0:Rat)<1;decide,IR hW⟩,λ w hw=>?_⟩
 ·intro e
  have e:(c.parts.map λ y=>(y.1,val y.2))=[]:=e;have:c.ways=[]:=by
   unfold Choice.parts at e;rw[dw] at e;exact c8.mp e
  exact Ew G hc this
 ·obtain⟨y,hy,rfl⟩:=az.mp hw
  obtain⟨w',vp,rfl⟩:=az.mp hy;have a:=w1 w' vp;have q:=mF (show (0:Int)<((c.weight:Nat):Int) by omega);have p:=mF (show (0:Int)<((w'.2:Nat):Int) by omega);refine⟨hn w' vp,?_,?_⟩
  ·show 0<val (fr (w'.2:Nat) c.weight);rw[wQ hW,iy];exact fV p (Rat.inv_pos.mpr q)
  ·show 1<=_*val (fr (w'.2:Nat) c.weight);rw[wQ hW];have le:((c.weight:Nat):Rat)<=((16000*w'.2:Nat):Rat):=cg.mpr (by omega);rw[eY] at le;rw[bh] at p q ⊢;rw[bh];generalize ((c.weight:Nat):Rat)=x at *
   generalize ((w'.2:Nat):Rat)=y at *
   generalize ((16000:Nat):Rat)=k at *
   have e:x*(k*(y/x))=k*y:=by grind
   exact bD (a:=1) (b:=k*(y/x)) (c:=x) (by rw[e];grind) q
theorem PL{N:Net}(G:Good N){s:Nat}{c:Choice}(hc:c∈choicesOf N s)(m:Int):IU N (qp (lX m c)):=by
 obtain⟨hW,hn,_⟩:=pQ G hc
 obtain⟨Z2,w1⟩:=DH G hc
 have q:=mF (show (0:Int)<((c.weight:Nat):Int) by omega)
 refine⟨.inr ⟨?_,q,?_⟩,λ w hw=>?_⟩
 ·intro e
  exact Ew G hc (c8.mp (show (c.ways.map λ w=>(w.1,(w.2:Rat)))=[] from e))
 ·have e:=Bt hW (λ _=>1)
  rw[IR hW] at e;show wd (nZ c.ways) (λ _=>1)=(((c.weight:Nat):Int):Rat);rw[<-e];grind
 ·obtain⟨w',vp,rfl⟩:=az.mp hw
  have a:=w1 w' vp;refine⟨hn w' vp,?_,?_⟩
  ·have p:=mF (show (0:Int)<((w'.2:Nat):Int) by omega);rw[bh] at p;exact p
  ·show (((c.weight:Nat):Int):Rat)<=_*((w'.2:Nat):Rat);rw[bh,<-eY];exact cg.mpr (by omega)
theorem IV{N:Net}{R:Nat->nK}(h:∀s,s<N.length->IU N (R s)):PJ R N.length 16000:=⟨λ s hs=>(h s hs).row,λ s hs w hw=>(h s hs).way w hw⟩
theorem By{N:Net}{l:Plan}{stay:Nat->Bool}{ok:Choice->Bool}{better:Nat->Choice->Bool}{s:Nat}(hs:s<N.length) :
  (stay s=true/\(changed N l stay ok better).getD s 0=l.getD s 0)\/(stay s=false/\(((changed N l stay ok better).getD s 0=l.getD s 0/\∀c∈choicesOf N s,(ok c&&better s c)=false) \/
   ∃c,(choicesOf N s)[(changed N l stay ok better).getD s 0]? = some c/\(ok c&&better s c)=true)):=by
 have e:(changed N l stay ok better).getD s 0=if stay s=true then l.getD s 0 else ((choicesOf N s).findIdx? λ c=>ok c&&better s c).getD (l.getD s 0):=by
  simp[changed,aa,ai,aN hs]
 rw[e]
 cases h:stay s with
 |true=>exact .inl ⟨rfl,by rw[if_pos rfl]⟩
 |false=>
  refine .inr ⟨rfl,?_⟩;rw[if_neg (by simp)]
  cases q:(choicesOf N s).findIdx? λ c=>ok c&&better s c with
  |none=>
   rw[eH] at q;exact .inl ⟨rfl,q⟩
  |some j=>
   rw[bX] at q;obtain⟨hj,h1,_⟩:=q;exact .inr ⟨(choicesOf N s)[j],af hj,h1⟩
structure vH(N:Net)(l:Plan):Prop where
 len:l.length=N.length
 at_:∀s,s<N.length->l.getD s 0<max 1 (choicesOf N s).length
theorem vH.some{N:Net}{l:Plan}(F:vH N l){s:Nat}(hs:s<N.length)(h:choicesOf N s≠[]):∃c∈choicesOf N s,(choicesOf N s)[l.getD s 0]? = some c:=by
 have hl:l.getD s 0<(choicesOf N s).length:=by
  have:=F.at_ s hs;have:=iF.mpr h;omega
 exact⟨(choicesOf N s)[l.getD s 0],aV hl,af hl⟩
theorem vH.change{N:Net}{l:Plan}(F:vH N l)(stay:Nat->Bool)(ok:Choice->Bool)(better:Nat->Choice->Bool):vH N (changed N l stay ok better) where
 len:=by simp[changed]
 at_:=λ s hs=>by
  rcases By (l:=l) (stay:=stay) (ok:=ok) (better:=better) hs with ⟨_,e⟩ | ⟨_,⟨e,_⟩ | ⟨c,e,_⟩⟩
  ·rw[e];exact F.at_ s hs
  ·rw[e];exact F.at_ s hs
  ·have:=(ao.mp e).1;omega
theorem KC(N:Net):vH N (first N):=by
 have z:∀s,(first N).getD s 0=0:=λ s=>by
  simp only[first,aa,ai]
  cases N[s]? <;> rfl
 exact⟨by simp[first],λ s hs=>by rw[z];omega⟩
theorem Hj{N:Net}(G:Good N)(value:Plan->Row)(change:Plan->Row->Plan)(start:Plan)(P:Plan->Prop)(V:Plan->Nat->Rat)(h0:P start)(hf:∀l,P l->vH N l)(hs:∀l,P l->P (change l (value l)))
  (up:∀l,P l->(∀s,s<N.length->V l s<=V (change l (value l)) s)/\∀s,s<N.length->(change l (value l)).getD s 0≠l.getD s 0->V l s<V (change l (value l)) s) :
  ∃l,P l/\improved value change PLANS start=value l/\change l (value l)=l:=by
 let f:=λ l=>change l (value l)
 obtain⟨k,hk,e⟩:=Bl f P (λ a b=>(∀s,s<N.length->V a s<=V b s)/\∃s,s<N.length/\V a s<V b s) (su ((aB N.length).map λ s=>(choicesOf N s).length)) start h0 hs
  (λ l p=>yV (by rw[(hf l p).len];simp) λ s hs=>by
   have hs:s<N.length:=by simpa using hs
   have e:((aB N.length).map λ s=>(choicesOf N s).length).getD s 0=(choicesOf N s).length:=by
    rw[aa,ai,aN hs];rfl
   rw[e];exact (hf l p).at_ s hs)
  (λ l p ne=>by
   obtain⟨g1,g2⟩:=up l p;refine⟨g1,?_⟩
   by_cases z:∃s,s<N.length/\(f l).getD s 0≠l.getD s 0
   ·obtain⟨s,hs,z⟩:=z;exact⟨s,hs,g2 s hs z⟩
   ·exfalso
    have F:=hf l p;have F':=hf _ (hs l p);refine ne (fQ (by rw[F.len];exact F'.len) λ s h1 h2=>?_);have hs:s<N.length:=by rw[F.len] at h2;exact h2
    have gp:l.getD s 0=l[s]:=by rw[aa,af h2];rfl
    have gq:(f l).getD s 0=(f l)[s]:=by rw[aa,af h1];rfl
    rw[<-gp,<-gq]
    by_cases y:(f l).getD s 0=l.getD s 0
    ·exact y
    ·exact absurd ⟨s,hs,y⟩ z)
  (λ a b c _ _ _ h k=>⟨λ s hs=>iU (h.1 s hs) (k.1 s hs),by
   obtain⟨s,hs,lt⟩:=h.2;have:=k.1 s hs;exact⟨s,hs,by grind⟩⟩)
  (λ a _ h=>by obtain⟨s,_,lt⟩:=h.2;exact absurd lt Rat.lt_irrefl)
 have few:(su ((aB N.length).map λ s=>(choicesOf N s).length)).length<=PLANS:=by
  refine bg (DA (m:=8) (by decide) λ b hb=>?_) ?_
  ·obtain⟨s,hs,rfl⟩:=az.mp hb;have hs:=aX.mp hs;unfold choicesOf
   cases e:N[s]? with
   |none=>simp
   |some y=>simp only[bE,di];exact G.few y (au e)
  ·rw[ah,cH];have:8^N.length<=8^16:=dY (by decide) G.len.2;exact bg this (by decide)
 exact⟨iter f k start,nG hs k start h0,zz value change PLANS k start (bg hk few) e,e⟩
theorem KD{N:Net}(G:Good N){v:Row}(hv:∀s,s<N.length->CA (at_ v s)){s:Nat}{c:Choice}(hc:c∈choicesOf N s) :
  0<(c.behind v).den/\val (c.behind v)=wd (c.parts.map λ y=>(y.1,val y.2)) (λ t=>val (at_ v t)):=by
 obtain⟨hW,hw,_⟩:=pQ G hc
 obtain⟨b1,b2⟩:=Bs (v:=v) (n:=N.length) (λ s hs=>(hv s hs).pos) c.parts none_ sD.pos λ y hy=>⟨(DF hW y hy).pos,by
  obtain⟨w,vp,rfl⟩:=az.mp hy;exact hw w vp⟩
 have Z3:val (c.behind v)=val none_+wd (c.parts.map λ y=>(y.1,val y.2)) (λ t=>val (at_ v t)):=b2
 exact⟨b1,by rw[Z3,sE];grind⟩
theorem Np{c:Choice}{r:Rat}{w:Nat×Rat}(h:w∈(uX r c).ways):∃w'∈c.ways,w.1=w'.1:=by
 obtain⟨y,hy,rfl⟩:=az.mp h
 obtain⟨w',vp,rfl⟩:=az.mp hy
 exact⟨w',vp,rfl⟩
theorem FP{c:Choice}{r:Rat}{w:Nat×Nat}(h:w∈c.ways):∃w'∈(uX r c).ways,w'.1=w.1:=
 ⟨(w.1,val (fr (w.2:Nat) c.weight)),az.mpr ⟨(w.1,fr (w.2:Nat) c.weight),az.mpr ⟨w,h,rfl⟩,rfl⟩,rfl⟩
theorem BA{p q:Nat->Bool}:∀l:List Nat,(∀x∈l,p x=true->q x=true)->(l.filter p).length<=(l.filter q).length/\((∃x∈l,q x=true/\p x=false)->(l.filter p).length<(l.filter q).length)
 |[],_=>⟨by simp,λ⟨x,hx,_⟩=>by cases hx⟩
 |y::l,h=>by
  obtain⟨a,b⟩:=BA (p:=p) (q:=q) l λ x hx=>h x (by simp[hx])
  have hy:=h y (by simp)
  constructor
  ·cases hp:p y with
   |true=>simp[cN,hp,hy hp];exact a
   |false=>
    cases hq:q y with
    |true=>simp[cN,hp,hq];omega
    |false=>simp[cN,hp,hq];exact a
  ·rintro⟨x,hx,q1,p1⟩
   rcases aA.mp hx with rfl | hx
   ·simp[cN,p1,q1];omega
   ·have:=b ⟨x,hx,q1,p1⟩
    cases hp:p y with
    |true=>simp[cN,hp,hy hp];exact this
    |false=>
     cases hq:q y with
     |true=>simp[cN,hp,hq];omega
     |false=>simp[cN,hp,hq];exact this
theorem yX{α β:Type}(step:α->β->α)(le:α->α->Prop)(rf:∀x,le x x)(tr:∀x y z,le x y->le y z->le x z)(Sf:∀x b,le x (step x b)) :
  ∀(l:List β) (x:α),le x (l.foldl step x)/\∀b∈l,∃y,le x y/\le (step y b) (l.foldl step x)
 |[],x=>⟨rf x,λ b hb=>by cases hb⟩
 |a::l,x=>by
  obtain⟨h1,h2⟩:=yX step le rf tr Sf l (step x a);refine⟨tr _ _ _ (Sf x a) h1,λ b hb=>?_⟩
  rcases aA.mp hb with rfl | hb
  ·exact⟨x,rf x,h1⟩
  ·obtain⟨y,g1,g2⟩:=h2 b hb;exact⟨y,tr _ _ _ (Sf x a) g1,g2⟩
theorem yb{α β:Type}{step:α->β->α}{P:α->Prop}:∀(l:List β) (x:α),(∀x b,b∈l->P x->P (step x b))->P x->P (l.foldl step x)
 |[],_,_,p=>p
 |a::l,x,h,p=>yb l (step x a) (λ x b hb=>h x b (by simp[hb])) (h x a (by simp) p)
def on(m:List Int)(s:Nat):Prop:=m.getD s 0≠0
def S7(m m':List Int):Prop:=∀s,on m s->on m' s
def grow(m m':List Int):Prop:=m'.length=m.length/\S7 m m'
theorem yY(m:List Int):grow m m:=⟨rfl,λ _ h=>h⟩
theorem BB(x y z:List Int)(h:grow x y)(k:grow y z):grow x z:=⟨k.1.trans h.1,λ s q=>k.2 s (h.2 s q)⟩
structure o6(m:List Int)(n:Nat):Prop where
 len:m.length=n
 bit:∀s,m.getD s 0=0\/m.getD s 0=1
theorem o6.set{m:List Int}{n s:Nat}(B:o6 m n):o6 (m.set s 1) n:=
 ⟨by rw[cy];exact B.len,λ t=>by
  by_cases hs:s<m.length
  ·rw[kR hs];split
   ·exact .inr rfl
   ·exact B.bit t
  ·rw[eV (by omega)];exact B.bit t⟩
theorem o6.ext{m m':List Int}{n:Nat}(B:o6 m n)(B':o6 m' n)(h:S7 m m')(k:S7 m' m):m=m':=by
 refine fQ (by rw[B.len,B'.len]) λ s h1 h2=>?_
 have e1:m.getD s 0=m[s]:=by rw[aa,af h1];rfl
 have e2:m'.getD s 0=m'[s]:=by rw[aa,af h2];rfl
 rw[<-e1,<-e2]
 have a:=h s
 have b:=k s
 unfold on at a b
 have c:=B.bit s
 have c':=B'.bit s
 omega
theorem PN{m:List Int}{s:Nat}:S7 m (m.set s 1):=λ t h=>by
 unfold on at h ⊢
 by_cases hs:s<m.length
 ·rw[kR hs];split
  ·decide
  ·exact h
 ·rw[eV (by omega)];exact h
def cnt(n:Nat)(m:List Int):Nat:=((aB n).filter λ s=>decide (m.getD s 0≠0)).length
theorem Sg(n:Nat)(m:List Int):cnt n m<=n:=by
 have:=dO (λ s=>decide (m.getD s 0≠0)) (aB n)
 rw[cH] at this;exact this
theorem Sh{n:Nat}{m m':List Int}(B:o6 m n)(B':o6 m' n)(h:S7 m m')(ne:m'≠m):cnt n m<cnt n m':=by
 refine (BA (aB n) λ x _ hx=>?_).2 ?_
 ·exact decide_eq_true (p:=m'.getD x 0≠0) (h x (of_decide_eq_true (p:=m.getD x 0≠0) hx))
 ·apply aG
  intro no;refine ne (o6.ext B' B (λ s hs=>?_) h);apply aG
  intro q;have hn:s<n:=by
   rw[<-B'.len];apply aG
   intro z;unfold on at hs;rw[aa,cB (by omega)] at hs;exact hs rfl
  exact no ⟨s,aX.mpr hn,decide_eq_true (p:=m'.getD s 0≠0) hs,decide_eq_false (p:=m.getD s 0≠0) q⟩
def l9(o:kX)(m:List Int):Bool:=o.ways.any λ w=>decide (m.getD w.1 0≠0)
theorem vq{o:kX}{m:List Int}:l9 o m=true↔∃w∈o.ways,on m w.1:=by
 unfold l9 on
 simp
def kY(iX:List (List kX))(m:List Int)(s:Nat):List Int:=if ((iX.getD s []).all λ o=>l9 o m)=true then m.set s 1 else m
def oM(iX:List (List kX))(n:Nat)(m:List Int):List Int:=(aB n).foldl (kY iX) m
def yZ(iX:List (List kX))(n:Nat):List Int:=iter (oM iX n) n (zeros n)
section
variable{iX:List (List kX)}{n:Nat}
theorem wU(n:Nat):o6 (zeros n) n:=⟨by simp[zeros],λ s=>.inl (Bu n s)⟩
theorem yc{m:List Int}{s:Nat}(B:o6 m n):o6 (kY iX m s) n:=by
 unfold kY;split
 ·exact B.set
 ·exact B
theorem BC(m:List Int)(s:Nat):grow m (kY iX m s):=by
 unfold kY;split
 ·exact⟨cy,PN⟩
 ·exact yY m
theorem pR{m:List Int}(B:o6 m n):o6 (oM iX n m) n:=yb (P:=λ m=>o6 m n) _ _ (λ _ _ _ b=>yc b) B
theorem DI:o6 (yZ iX n) n:=nG (P:=λ m=>o6 m n) (λ _ B=>pR B) _ _ (wU n)
theorem Nq:oM iX n (yZ iX n)=yZ iX n:=
 yW (oM iX n) (cnt n) n (λ m=>o6 m n) (λ _ B=>pR B) (λ m _=>Sg n m)
  (λ m B ne=>Sh B (pR B) (yX (kY iX) grow yY BB BC _ _).1.2 ne) n (zeros n) (wU n) (by omega)
theorem Hl{o:kX}{m m':List Int}(h:S7 m m')(k:l9 o m=true):l9 o m'=true:=by
 obtain⟨w,hw,q⟩:=vq.mp k
 exact vq.mpr ⟨w,hw,h _ q⟩
theorem PP{s:Nat}(hs:s<n)(h:¬on (yZ iX n) s):∃o∈iX.getD s [],l9 o (yZ iX n)=false:=by
 apply aG
 intro no
 have all:((iX.getD s []).all λ o=>l9 o (yZ iX n))=true:=aY.mpr λ o ho=>by
  cases e:l9 o (yZ iX n) with
  |true=>rfl
  |false=>exact absurd ⟨o,ho,e⟩ no
 obtain⟨y,h1,h2⟩:=(yX (kY iX) grow yY BB BC (aB n) (yZ iX n)).2 s (aX.mpr hs)
 have e:(aB n).foldl (kY iX) (yZ iX n)=yZ iX n:=Nq
 rw[e] at h2
 refine h (h2.2 s ?_)
 unfold kY
 rw[if_pos (aY.mpr λ o ho=>Hl h1.2 (aY.mp all o ho))]
 unfold on
 rw[kR (by rw[h1.1,DI.len];exact hs),if_pos rfl];decide
theorem DJ{C:Nat->Prop}(h:∀s,C s->∃o∈iX.getD s [],∀w∈o.ways,C w.1):∀s,C s->¬on (yZ iX n) s:=by
 have st:∀(m:List Int) (s:Nat),(∀t,C t->¬on m t)->∀t,C t->¬on (kY iX m s) t:=λ m s hm t ht=>by
  unfold kY
  split
  ·rename_i all
   unfold on
   by_cases hl:s<m.length
   ·rw[kR hl]
    split
    ·rename_i e
     subst e;obtain⟨o,ho,hw⟩:=h t ht;obtain⟨w,vp,q⟩:=vq.mp (aY.mp all o ho);exact absurd q (hm _ (hw w vp))
    ·exact hm t ht
   ·rw[eV (by omega)];exact hm t ht
  ·exact hm t ht
 refine nG (P:=λ m=>∀t,C t->¬on m t) (λ m hm=>yb (P:=λ m=>∀t,C t->¬on m t) _ _ (λ m s _=>st m s) hm) n (zeros n) λ t _=>?_
 unfold on
 rw[Bu];simp
end
section
variable{N:Net}{g:Nat}
def aw(N:Net)(l:List Nat):List Nat:=l.filter λ s=>(choicesOf N s).isEmpty||(choicesOf N s).any λ c=>c.ways.all λ w=>l.contains w.1
theorem vt:∀(k:Nat) (l:List Nat),away N k l=iter (aw N) k l
 |0,_=>rfl
 |k+1,l=>vt k (aw N l)
def zW(N:Net)(g:Nat):List Nat:=away N N.length ((aB N.length).filter λ s=>!isGoal g s)
theorem PR:aw N (zW N g)=zW N g:=by
 unfold zW
 rw[vt]
 refine yW (aw N) (λ l=>N.length-l.length) N.length (λ l=>l.length<=N.length) (λ l h=>bg (dO _ l) h) (λ l _=>by omega) (λ l h ne=>?_) _ _ ?_ (by omega)
 ·have le:(aw N l).length<=l.length:=dO _ l
  have:(aw N l).length≠l.length:=λ e=>ne (List.filter_sublist.eq_of_length e)
  omega
 ·have:=dO (λ s=>!isGoal g s) (aB N.length)
  rw[cH] at this;exact this
theorem zA{s:Nat}(h:s∈zW N g):s<N.length/\isGoal g s=false:=by
 have:∀t∈zW N g,t∈(aB N.length).filter λ s=>!isGoal g s:=by
  unfold zW;rw[vt];exact nG (P:=λ l=>∀t∈l,t∈(aB N.length).filter λ s=>!isGoal g s) (λ l h t ht=>h t (bN.mp ht).1) _ _ λ t ht=>ht
 have:=bN.mp (this s h)
 exact⟨aX.mp this.1,by simpa using this.2⟩
theorem PU{s:Nat}(h:s∈zW N g):choicesOf N s=[]\/∃c∈choicesOf N s,∀w∈c.ways,w.1∈zW N g:=by
 rw[<-PR] at h
 have h2:=(bN.mp h).2
 rcases iG.mp h2 with q | q
 ·exact .inl (List.isEmpty_iff.mp q)
 ·obtain⟨c,hc,q⟩:=gM.mp q
  exact .inr ⟨c,hc,λ w hw=>by have:=aY.mp q w hw;simpa using this⟩
theorem z8{C:Nat->Prop}(h:∀s,C s->s<N.length/\isGoal g s=false/\(choicesOf N s=[]\/∃c∈choicesOf N s,∀w∈c.ways,C w.1)):∀s,C s->s∈zW N g:=by
 unfold zW
 rw[vt]
 refine nG (P:=λ l=>∀s,C s->s∈l) (λ l hl s hs=>bN.mpr ⟨hl s hs,?_⟩) _ _ λ s hs=>bN.mpr ⟨aX.mpr (h s hs).1,by rw[(h s hs).2.1];rfl⟩
 rcases (h s hs).2.2 with q | ⟨c,hc,q⟩
 ·rw[q];rfl
 ·refine iG.mpr (.inr (gM.mpr ⟨c,hc,aY.mpr λ w hw=>?_⟩))
  have:=hl _ (q w hw)
  simpa using this
def fL(N:Net)(g:Nat)(l:Plan)(s:Nat):Fr×List (Nat×Fr):=if isGoal g s=true then (one_,[]) else if (zW N g).contains s=true then (none_,[]) else (none_,((chosen N l s).map Choice.parts).getD [])
def qu(N:Net)(g:Nat)(l:Plan):Row:=standing N.length (fL N g l)
def Li(N:Net)(g:Nat)(l:Plan)(v:Row):Plan:=changed N l (λ s=>isGoal g s||(zW N g).contains s) (λ _=>true) λ s c=>(c.behind v).less (at_ v s)
def pF(N:Net)(g:Nat)(l:Plan)(s:Nat):nK:=if isGoal g s=true then ⟨1,[],-1⟩ else if (zW N g).contains s=true then ⟨1,[],0⟩ else match (choicesOf N s)[l.getD s 0]? with
 |some c=>uX 0 c
 |none=>⟨1,[],0⟩
theorem Ey(l:Plan)(s:Nat):(Br (fL N g l s)).tot=(pF N g l s).tot/\(Br (fL N g l s)).ways=(pF N g l s).ways/\(Br (fL N g l s)).rhs = - (pF N g l s).rhs:=by
 unfold fL pF chosen
 split
 ·refine⟨rfl,rfl,?_⟩
  show val one_ = - -1;rw[val_one];grind
 ·split
  ·refine⟨rfl,rfl,?_⟩;show val none_ = - 0;rw[sE];grind
  ·cases (choicesOf N s)[l.getD s 0]? with
   |none=>exact⟨rfl,rfl,by show val none_ = - 0;rw[sE];grind⟩
   |some c=>exact⟨rfl,rfl,by show val none_ = - 0;rw[sE];grind⟩
theorem sF{l:Plan}{s:Nat}(h:isGoal g s=true):pF N g l s=⟨1,[],-1⟩:=by unfold pF;rw[if_pos h]
theorem BD{l:Plan}{s:Nat}(h:s∈zW N g):pF N g l s=⟨1,[],0⟩:=by
 unfold pF
 rw[if_neg (by rw[(zA h).2];simp),if_pos (by simpa using h)]
theorem Ho{s:Nat}(hs:s<N.length)(hg:isGoal g s=false)(hz:s ∉ zW N g):choicesOf N s≠[]:=λ e=>hz (z8 (C:=λ t=>t=s) (λ t ht=>by subst ht;exact⟨hs,hg,.inl e⟩) s rfl)
theorem vy{l:Plan}(F:vH N l){s:Nat}(hs:s<N.length)(hg:isGoal g s=false)(hz:s ∉ zW N g):∃c∈choicesOf N s,(choicesOf N s)[l.getD s 0]? = some c/\pF N g l s=uX 0 c:=by
 obtain⟨c,hc,e⟩:=F.some hs (Ho hs hg hz)
 refine⟨c,hc,e,?_⟩
 unfold pF
 rw[if_neg (by rw[hg];simp),if_neg (by simpa using hz),e]
theorem y9(G:Good N){l:Plan}(F:vH N l):PJ (pF N g l) N.length 16000:=IV λ s hs=>by
 cases hg:isGoal g s with
 |true=>rw[sF hg];exact Ex N _
 |false=>
  by_cases hz:s∈zW N g
  ·rw[BD hz];exact Ex N _
  ·obtain⟨c,hc,_,e⟩:=vy F hs hg hz;rw[e];exact tL G hc 0
theorem uY(G:Good N){l:Plan}(F:vH N l):Bw (pF N g l) N.length:=by
 intro C hne hC
 apply aG
 intro no
 have cl:∀s,C s->s<N.length/\isGoal g s=false/\s ∉ zW N g/\∃c∈choicesOf N s,∀w∈c.ways,C w.1:=λ s hs=>by
  obtain⟨hn,ne⟩:=hC s hs;have hg:isGoal g s=false:=by
   cases e:isGoal g s with
   |false=>rfl
   |true=>rw[sF e] at ne;exact absurd rfl ne
  have hz:s ∉ zW N g:=λ z=>by rw[BD z] at ne;exact absurd rfl ne
  obtain⟨c,hc,_,e⟩:=vy F hn hg hz;refine⟨hn,hg,hz,c,hc,λ w hw=>?_⟩;apply aG
  intro q;obtain⟨w',vp,e'⟩:=FP (r:=0) hw;exact no ⟨s,hs,w',by rw[e];exact vp,by rw[e'];exact q⟩
 obtain⟨s,hs⟩:=hne
 exact (cl s hs).2.2.1 (z8 (λ t ht=>⟨(cl t ht).1,(cl t ht).2.1,.inr (cl t ht).2.2.2⟩) s hs)
theorem FQ{R R':Nat->nK}{n:Nat}{u:Nat->Rat}(K:Keeps R n u)(h:∀s,(R' s).tot=(R s).tot/\(R' s).ways=(R s).ways):Keeps R' n u:=
 ⟨λ s hs w hw=>K.to s hs w (by rw[<-(h s).2];exact hw),λ s hs w hw=>K.nn s hs w (by rw[<-(h s).2];exact hw),K.pos,λ s hs=>by
  have:=K.sum s hs;simp only[nK.lhs] at this ⊢
  rw[(h s).1,(h s).2];exact this⟩
def xL(N:Net)(g:Nat)(l:Plan)(s:Nat):Rat:=- val (at_ (qu N g l) s)
theorem z9(G:Good N){l:Plan}(F:vH N l):(qu N g l).length=N.length/\(∀s,s<N.length->CA (at_ (qu N g l) s))/\∀s,s<N.length->(pF N g l s).lhs s (xL N g l)=(pF N g l s).rhs:=by
 obtain⟨u,K⟩:=(uY (g:=g) G F).keeps (y9 G F)
 obtain⟨a,b,c⟩:=FN (f:=fL N g l) (λ s hs=>by
  unfold fL
  split
  ·exact⟨IQ,λ y hy=>by cases hy⟩
  ·split
   ·exact⟨sD,λ y hy=>by cases hy⟩
   ·refine⟨sD,λ y hy=>?_⟩;unfold chosen at hy
    cases e:(choicesOf N s)[l.getD s 0]? with
    |none=>rw[e] at hy;cases hy
    |some c=>rw[e] at hy;exact (DF (pQ G (au e)).1 y hy).pos) (FQ K λ s=>⟨(Ey l s).1,(Ey l s).2.1⟩)
 refine⟨a,b,λ s hs=>?_⟩
 have:=c s hs
 obtain⟨e1,e2,e3⟩:=Ey (N:=N) (g:=g) l s
 unfold xL
 rw[nK.IT]
 simp only[nK.lhs] at this ⊢
 rw[e1,e2,e3] at this
 show-(_-wd _ (λ t=>val (at_ (standing N.length (fL N g l)) t)))=_
 rw[show (pF N g l s).tot*val (at_ (qu N g l) s)=(pF N g l s).tot*val (at_ (standing N.length (fL N g l)) s) from rfl,this];grind
theorem Nr(G:Good N){l:Plan}(F:vH N l){s:Nat}(hs:s<N.length){c:Choice}(hc:c∈choicesOf N s):(c.behind (qu N g l)).less (at_ (qu N g l) s)=decide ((uX 0 c).lhs s (xL N g l)<0):=by
 obtain⟨_,b,_⟩:=z9 (g:=g) G F
 obtain⟨p,e⟩:=KD G b hc
 rw[Ni p (b s hs).pos,e]
 unfold xL
 rw[nK.IT]
 refine decide_eq_decide.mpr ?_
 show _↔- (1*val _-wd (c.parts.map λ y=>(y.1,val y.2)) (λ i=>val (at_ (qu N g l) i)))<0
 constructor<;>intro h<;>grind
theorem BE(G:Good N){l:Plan}(F:vH N l)(s:Nat)(hs:s<N.length) :
  (pF N g (Li N g l (qu N g l)) s).lhs s (xL N g l)<=(pF N g (Li N g l (qu N g l)) s).rhs/\((Li N g l (qu N g l)).getD s 0≠l.getD s 0->(pF N g (Li N g l (qu N g l)) s).lhs s (xL N g l)<(pF N g (Li N g l (qu N g l)) s).rhs) /\
  ((Li N g l (qu N g l)).getD s 0=l.getD s 0->isGoal g s=false->s ∉ zW N g->∀c∈choicesOf N s,0<=(uX 0 c).lhs s (xL N g l)):=by
 have cur:=(z9 (g:=g) G F).2.2 s hs
 have same:∀l',l'.getD s 0=l.getD s 0->pF N g l' s=pF N g l s:=λ l' e=>by unfold pF;rw[e]
 rcases By (l:=l) (stay:=λ s=>isGoal g s||(zW N g).contains s) (ok:=λ _=>true) (better:=λ s c=>(c.behind (qu N g l)).less (at_ (qu N g l) s)) hs with ⟨st,e⟩ | ⟨st,⟨e,no⟩ | ⟨c,e,yes⟩⟩
 ·have e:(Li N g l (qu N g l)).getD s 0=l.getD s 0:=e
  rw[same _ e,cur];refine⟨bK,λ z=>absurd e z,λ _ hg hz=>?_⟩
  exfalso
  have st:(isGoal g s||(zW N g).contains s)=true:=st;rw[hg] at st;exact hz (by simpa using st)
 ·have e:(Li N g l (qu N g l)).getD s 0=l.getD s 0:=e
  rw[same _ e,cur];refine⟨bK,λ z=>absurd e z,λ _ _ _ c hc=>?_⟩;have:=no c hc;rw[bY,Nr G F hs hc,decide_eq_false_iff_not] at this;grind
 ·have e:(choicesOf N s)[(Li N g l (qu N g l)).getD s 0]? = some c:=e
  have hc:=au e;rw[bY,Nr G F hs hc,decide_eq_true_eq] at yes;have st:(isGoal g s||(zW N g).contains s)=false:=st;obtain⟨hg,hz⟩:=Bool.or_eq_false_iff.mp st;have row:∀l':Plan,(choicesOf N s)[l'.getD s 0]? = some c->pF N g l' s=uX 0 c:=λ l' e'=>by unfold pF;rw[if_neg (by rw[hg];simp),if_neg (by rw[hz];simp),e']
  rw[row _ e];refine⟨bQ yes,λ _=>yes,λ z=>?_⟩
  exfalso
  rw[z] at e;rw[row _ e] at cur;rw[cur] at yes;exact absurd yes (by show ¬(0:Rat)<0;grind)
theorem FT(G:Good N):∃l,vH N l/\worst N g=qu N g l/\Li N g l (qu N g l)=l:=by
 refine Hj G (qu N g) (Li N g) (first N) (vH N) (xL N g) (KC N) (λ _ h=>h) (λ l F=>F.change _ _ _) λ l F=>?_
 have F':vH N (Li N g l (qu N g l)):=F.change _ _ _
 obtain⟨u,K⟩:=(uY (g:=g) G F').keeps (y9 G F')
 obtain⟨g1,g2⟩:=K.better (x:=xL N g l) (z9 G F').2.2 λ s hs=>(BE G F s hs).1
 exact⟨g1,λ s hs z=>g2 s hs ((BE G F s hs).2.1 z)⟩
end
def oA(n:Nat)(b:Nat->Bool)(iX:List (List kX)):List (List kX):=(aB n).map λ s=>if b s=true then iX.getD s [] else []
theorem BF{n:Nat}{b:Nat->Bool}{iX:List (List kX)}{s:Nat}(h:s<n):(oA n b iX).getD s []=if b s=true then iX.getD s [] else []:=by
 simp[oA,aa,ai,aN h]
theorem vz{N:Net}{g s:Nat}{m:Int}(h:s<N.length):(tK N g m).getD s []=if isGoal g s=true then [] else (choicesOf N s).map (lX m):=by
 simp[tK,aa,ai,aN h]
theorem BG(r:nK)(s:Nat):r.lhs s (λ _=>0)=0:=by
 have:∀ws:List (Nat×Rat),wd ws (λ _=>0)=0:=λ ws=>by
  induction ws with
  |nil=>rfl
  |cons w ws ih=>simp only[wd];rw[ih];grind
 simp only[nK.lhs];rw[this];grind
theorem Si(ws:List (Nat×Rat))(x:Nat->Rat):wd ws (λ i=>- x i) = - wd ws x:=by
 induction ws with
 |nil=>simp only[wd];grind
 |cons w ws ih=>simp only[wd];rw[ih];grind
theorem PV{N:Net}(G:Good N){s:Nat}{c:Choice}(hc:c∈choicesOf N s){m:Int}{V:Nat->Rat}(h:Ca (lX m c) V<=((lX m c).tot:Rat)*V s):((c.gain*m:Int):Rat)<=(uX 0 c).lhs s V:=by
 obtain⟨a,b,d⟩:=DG (pQ G hc).1 m 0 s V
 have h2:(qp (lX m c)).rhs<=(qp (lX m c)).lhs s V:=by
  unfold Ca at h;have t1:(qp (lX m c)).tot=((lX m c).tot:Rat):=rfl;have t2:(qp (lX m c)).ways=nZ (lX m c).ways:=rfl;simp only[nK.lhs]
  rw[t1,t2];exact Kz h
 rw[a,b] at h2
 exact bD h2 d
section
variable{N:Net}{g:Nat}
def za(N:Net)(g:Nat):List Int:=yZ (tK N g 0) N.length
def jQ(N:Net)(g:Nat):List (List kX):=oA N.length (λ s=>decide ((za N g).getD s 0≠0)) (tK N g 0)
def lu(N:Net)(g:Nat):List Int:=(Eo N g).map λ m=>-m
theorem yd{s:Nat}(h:s<N.length):(lu N g).getD s 0=if isGoal g s=true then -1 else 0:=by
 simp only[lu,Eo,dw,aa,ai,aN h,bE,di,Function.comp]
 split<;>rfl
theorem FU{s:Nat}(h:s<N.length)(hg:isGoal g s=false)(he:on (za N g) s):(jQ N g).getD s []=(choicesOf N s).map (lX 0):=by
 unfold jQ
 rw[BF h,if_pos (decide_eq_true (p:=(za N g).getD s 0≠0) he),vz h,if_neg (by rw[hg];simp)]
theorem FW(G:Good N){s:Nat}(h:s<N.length)(e:(jQ N g).getD s []=[]):isGoal g s=true\/s∈zW N g:=by
 cases hg:isGoal g s with
 |true=>exact .inl rfl
 |false=>
  right
  by_cases he:on (za N g) s
  ·rw[FU h hg he] at e;exact z8 (C:=λ t=>t=s) (λ t ht=>by subst ht;exact⟨h,hg,.inl (c8.mp e)⟩) s rfl
  ·refine z8 (C:=λ t=>t<N.length/\¬on (za N g) t) (λ t ht=>?_) s ⟨h,he⟩;obtain⟨o,ho,hl⟩:=PP ht.1 ht.2;rw[vz ht.1] at ho
   split at ho
   ·cases ho
   ·rename_i q
    obtain⟨c,hc,rfl⟩:=az.mp ho;refine⟨ht.1,by simpa using q,.inr ⟨c,hc,λ w hw=>⟨(pQ G hc).2.1 w hw,λ z=>?_⟩⟩⟩;have:=(vq (o:=lX 0 c)).mpr ⟨w,hw,z⟩;exact absurd (this.symm.trans hl) (by decide)
theorem oB{s:Nat}(h:s<N.length)(e:(jQ N g).getD s []≠[]):isGoal g s=false/\on (za N g) s/\(jQ N g).getD s []=(choicesOf N s).map (lX 0):=by
 have he:on (za N g) s:=by
  apply aG
  intro q;unfold jQ at e;rw[BF h,if_neg (by rw[decide_eq_true_eq];exact q)] at e;exact e rfl
 have hg:isGoal g s=false:=by
  cases hg:isGoal g s with
  |false=>rfl
  |true=>
   unfold jQ at e;rw[BF h,if_pos (decide_eq_true (p:=(za N g).getD s 0≠0) he),vz h,if_pos hg] at e;exact absurd rfl e
 exact⟨hg,he,FU h hg he⟩
theorem DK{os:List kX}(h:os∈jQ N g):∀o∈os,∃s,∃c∈choicesOf N s,o=lX 0 c:=λ o ho=>by
 obtain⟨s,hs,rfl⟩:=az.mp h
 split at ho
 ·rw[vz (aX.mp hs)] at ho
  split at ho
  ·cases ho
  ·obtain⟨c,hc,rfl⟩:=az.mp ho;exact⟨s,c,hc,rfl⟩
 ·cases ho
theorem sG(G:Good N):(∀os∈jQ N g,∀o∈os,∀w∈o.ways,w.1<N.length)/\∀os∈jQ N g,∀o∈os,0<o.tot:=by
 refine⟨λ os hos o ho w hw=>?_,λ os hos o ho=>?_⟩
 ·obtain⟨s,c,hc,rfl⟩:=DK hos o ho
  exact (pQ G hc).2.1 w hw
 ·obtain⟨s,c,hc,rfl⟩:=DK hos o ho
  have:=(pQ G hc).1;show (0:Int)<((c.weight:Nat):Int);omega
structure Hq(N:Net)(g:Nat)(π:List Int):Prop where
 fit:Fits (jQ N g) N.length π
 no:∀s,s<N.length->((jQ N g).getD s []).length=0->π.getD s 0=(zeros N.length).getD s 0
theorem KG{π:List Int}(F:Fits (jQ N g) N.length π){s:Nat}(hs:s<N.length):((jQ N g).getD s []=[]/\lF (jQ N g) (lu N g) π s=⟨1,[],(((lu N g).getD s 0:Int):Rat)⟩)\/((jQ N g).getD s []≠[]/\∃c∈choicesOf N s,lF (jQ N g) (lu N g) π s=qp (lX 0 c)):=by
 unfold lF x8
 by_cases h:((jQ N g).getD s []).length=0
 ·exact .inl ⟨dh.mp h,by rw[if_pos h]⟩
 ·have ne:(jQ N g).getD s []≠[]:=λ e=>h (by rw[e];rfl)
  refine .inr ⟨ne,?_⟩;have fit:=(F.at_ s hs h).2;have e:=(oB hs ne).2.2;rw[if_neg h];rw[e] at fit ⊢;rw[ah] at fit;refine⟨(choicesOf N s)[(π.getD s 0).toNat],aV fit,?_⟩;rw[aa,ai,af fit];rfl
theorem Hr(G:Good N){π:List Int}(F:Fits (jQ N g) N.length π):∃u,Keeps (lF (jQ N g) (lu N g) π) N.length u:=by
 refine Bw.keeps (K:=16000) (λ C hne hC=>?_) (IV λ s hs=>?_)
 ·apply aG
  intro no;have cl:∀s,C s->on (za N g) s/\∃o∈(tK N g 0).getD s [],∀w∈o.ways,C w.1:=λ s hs=>by
   obtain⟨hn,ne⟩:=hC s hs
   rcases KG F hn with ⟨_,e⟩ | ⟨q,c,hc,e⟩
   ·rw[e] at ne;exact absurd rfl ne
   ·obtain⟨hg,he,_⟩:=oB hn q;refine⟨he,lX 0 c,by rw[vz hn,if_neg (by rw[hg];simp)];exact az.mpr ⟨c,hc,rfl⟩,λ w hw=>?_⟩;apply aG
    intro z;exact no ⟨s,hs,(w.1,(w.2:Rat)),by rw[e];exact az.mpr ⟨w,hw,rfl⟩,z⟩
  obtain⟨s,hs⟩:=hne;exact DJ (iX:=tK N g 0) (n:=N.length) (λ s hs=>(cl s hs).2) s hs (cl s hs).1
 ·rcases KG F hs with ⟨_,e⟩ | ⟨_,c,hc,e⟩
  ·rw[e];exact Ex N _
  ·rw[e];exact PL G hc 0
theorem DL(G:Good N){π:List Int}(F:Hq N g π):Hq N g (nextM (jQ N g) (lu N g) N.length π):=
 ⟨Ks (sG G).2 F.fit,λ s hs h=>by rw[x9 hs,if_pos h];exact F.no s hs h⟩
theorem DM:Hq N g (zeros N.length):=
 ⟨⟨by simp[zeros],λ s hs h=>by rw[Bu];exact⟨by decide,by simp only[Int.toNat_zero];omega⟩⟩,λ _ _ _=>rfl⟩
theorem Ez(G:Good N):∃k,nextM (jQ N g) (lu N g) N.length (iter (nextM (jQ N g) (lu N g) N.length) k (zeros N.length))=iter (nextM (jQ N g) (lu N g) N.length) k (zeros N.length)/\Hq N g (iter (nextM (jQ N g) (lu N g) N.length) k (zeros N.length)):=
 FL (sG G).1 (sG G).2 (Hq N g) DM (λ _ F=>F.fit) (λ _ F=>F.no) (λ _ F=>Hr G F.fit) λ _ F=>DL G F
theorem KH(G:Good N){π:List Int}(F:Hq N g π)(e:nextM (jQ N g) (lu N g) N.length π = π) :
  0<(kr (jQ N g) (lu N g) N.length π).2/\(kr (jQ N g) (lu N g) N.length π).1.length=N.length /\
  M6 (worst N g) ((kr (jQ N g) (lu N g) N.length π).1.map λ z=>-z) (kr (jQ N g) (lu N g) N.length π).2:=by
 obtain⟨u,K⟩:=Hr G F.fit
 obtain⟨hb,hl,hv⟩:=Bm (sG G).1 F.fit K
 have opt:=Kv (sG (g:=g) G).1 (sG (g:=g) G).2 F.fit K e
 obtain⟨l,FS,es,fx⟩:=FT (g:=g) G
 obtain⟨sl,WR,sv⟩:=z9 (g:=g) G FS
 obtain⟨uS,KS⟩:=(uY (g:=g) G FS).keeps (y9 G FS)
 rw[es]
 generalize hV:kr (jQ N g) (lu N g) N.length π = V at *
 have UM:∀c:Choice,(qp (lX 0 c)).rhs=0:=λ c=>by
  show ((c.gain*0*((c.weight:Nat):Int):Int):Rat)=0;rw[Int.mul_zero,Int.zero_mul];rfl
 have better:∀s,s<N.length->(jQ N g).getD s []≠[]->∀c∈choicesOf N s,0<=(uX 0 c).lhs s (jC V):=λ s hs ne c hc=>by
  have:=PV G hc (opt s hs (lX 0 c) (by rw[(oB hs ne).2.2];exact az.mpr ⟨c,hc,rfl⟩));rw[Int.mul_zero] at this;exact this
 have UN:∀s,s<N.length->isGoal g s=true->jC V s = -1:=λ s hs hg=>by
  rcases KG F.fit hs with ⟨_,e1⟩ | ⟨ne,_⟩
  ·have:=hv s hs;rw[e1,yd hs,if_pos hg] at this;have h2:1*jC V s-0=((-1:Int):Rat):=this;rw[show ((-1:Int):Rat) = -1 from rfl] at h2;grind
  ·rw[(oB hs ne).1] at hg;cases hg
 have UO:∀s,s<N.length->isGoal g s=false->(jQ N g).getD s []=[]->jC V s=0:=λ s hs hg h0=>by
  rcases KG F.fit hs with ⟨_,e1⟩ | ⟨ne,_⟩
  ·have:=hv s hs;rw[e1,yd hs,if_neg (by rw[hg];simp)] at this;have h2:1*jC V s-0=((0:Int):Rat):=this;rw[show ((0:Int):Rat)=0 from rfl] at h2;grind
  ·exact absurd h0 ne
 have Z4:∀s,s<N.length->jC V s<=0:=K.le (y:=λ _=>0) λ s hs=>by
  rw[hv s hs,BG]
  rcases KG F.fit hs with ⟨_,e1⟩ | ⟨_,c,hc,e1⟩
  ·rw[e1,yd hs]
   split
   ·show ((-1:Int):Rat)<=0;decide
   ·show ((0:Int):Rat)<=0;decide
  ·rw[e1,UM];exact bK
 have Vz:∀s,s∈zW N g->jC V s=0:=λ s hs=>by
  apply aG
  intro ne;obtain⟨m,hm,cm,most⟩:=Bx (v:=λ t=>- jC V t) N.length (λ t=>t∈zW N g) ⟨s,(zA hs).1,hs⟩;have m0:jC V m<0:=by
   have:=Z4 s (zA hs).1;have:=most s (zA hs).1 hs;grind
  have cl:∀t,(t∈zW N g/\jC V t=jC V m)->on (za N g) t/\∃o∈(tK N g 0).getD t [],∀w∈o.ways,(w.1∈zW N g/\jC V w.1=jC V m):=λ t ⟨tz,te⟩=>by
   obtain⟨tn,tg⟩:=zA tz;have ne:(jQ N g).getD t []≠[]:=λ z=>by
    have:=UO t tn tg z;grind
   obtain⟨_,he,eo⟩:=oB tn ne
   rcases PU tz with z | ⟨c,hc,hw⟩
   ·rw[z] at eo;exact absurd eo ne
   ·refine⟨he,lX 0 c,by rw[vz tn,if_neg (by rw[tg];simp)];exact az.mpr ⟨c,hc,rfl⟩,?_⟩;have b:=better t tn ne c hc;have rc:=tL G hc 0;obtain⟨_,_,one⟩:=rc.row.resolve_left λ y=>by
     have:(1:Rat)=1:=rfl;exact Ew G hc (c8.mp (c8.mp (show ((c.ways.map λ w=>(w.1,fr (w.2:Nat) c.weight)).map λ y=>(y.1,val y.2))=[] from y.2)))
    have one:wd (uX 0 c).ways (λ _=>1)=1:=one;obtain⟨w1,w2⟩:=IS (v:=λ t=>- jC V t) (M:=- jC V m) (ws:=(uX 0 c).ways) λ w vp=>by
     obtain⟨w',WS,ew⟩:=Np vp;refine⟨(rc.way w vp).2.1,?_⟩;rw[ew];have z:=hw w' WS;exact most _ (zA z).1 z
    rw[one,Si] at w1 w2;have b2:0<=1*jC V t-wd (uX 0 c).ways (jC V):=b;have eq:=w2 (by rw[te] at b2;grind);intro w vp;refine⟨hw w vp,?_⟩;obtain⟨w',h1,h2⟩:=FP (r:=0) vp;have:=eq w' h1;rw[h2] at this;grind
  exact DJ (iX:=tK N g 0) (n:=N.length) (C:=λ t=>t∈zW N g/\jC V t=jC V m) (λ t ht=>(cl t ht).2) m ⟨cm,rfl⟩ (cl m ⟨cm,rfl⟩).1
 have xle:∀s,s<N.length->xL N g l s<=0:=KS.le (y:=λ _=>0) λ s hs=>by
  rw[sv s hs,BG]
  cases hg:isGoal g s with
  |true=>rw[sF hg];show (-1:Rat)<=0;decide
  |false=>
   by_cases hz:s∈zW N g
   ·rw[BD hz];exact bK
   ·obtain⟨c,hc,_,e1⟩:=vy FS hs hg hz;rw[e1];exact bK
 have UP:∀s,s<N.length->isGoal g s=true->xL N g l s = -1:=λ s hs hg=>by
  have:=sv s hs;rw[sF hg] at this;have h2:1*xL N g l s-0 = -1:=this;grind
 have zx:∀s,s∈zW N g->xL N g l s=0:=λ s hz=>by
  have:=sv s (zA hz).1;rw[BD hz] at this;have h2:1*xL N g l s-0=0:=this;grind
 have le:∀s,s<N.length->xL N g l s<=jC V s:=KS.le λ s hs=>by
  rw[sv s hs]
  cases hg:isGoal g s with
  |true=>
   have:=UN s hs hg;rw[sF hg];show (-1:Rat)<=1*jC V s-0;grind
  |false=>
   by_cases hz:s∈zW N g
   ·have:=Vz s hz;rw[BD hz];show (0:Rat)<=1*jC V s-0;grind
   ·obtain⟨c,hc,_,e1⟩:=vy FS hs hg hz;rw[e1];have ne:(jQ N g).getD s []≠[]:=λ z=>by
     rcases FW G hs z with q | q
     ·rw[hg] at q;cases q
     ·exact hz q
    exact better s hs ne c hc
 have ge:∀s,s<N.length->jC V s<=xL N g l s:=K.le λ s hs=>by
  rw[hv s hs]
  rcases KG F.fit hs with ⟨h0,e1⟩ | ⟨ne,c,hc,e1⟩
  ·rw[e1,yd hs]
   rcases FW G hs h0 with hg | hz
   ·have:=UP s hs hg;rw[if_pos hg];show ((-1:Int):Rat)<=1*xL N g l s-0;rw[show ((-1:Int):Rat) = -1 from rfl];grind
   ·have:=zx s hz;rw[if_neg (by rw[(zA hz).2];simp)];show ((0:Int):Rat)<=1*xL N g l s-0;rw[show ((0:Int):Rat)=0 from rfl];grind
  ·obtain⟨hg,_,_⟩:=oB hs ne;obtain⟨a,_,d⟩:=DG (pQ G hc).1 0 0 s (xL N g l);rw[e1,UM,a];refine bq (bQ d) ?_
   by_cases hz:s∈zW N g
   ·have z:=zx s hz;have w:=x6 (n:=N.length) xle (ws:=(uX 0 c).ways) (λ w hw=>((tL G hc 0).way w hw).1) λ w hw=>bQ ((tL G hc 0).way w hw).2.1
    have z0:=BG (uX 0 c) s;simp only[nK.lhs] at z0 ⊢
    show 0<=1*xL N g l s-_;have z1:1*(0:Rat)-wd (uX 0 c).ways (λ _=>0)=0:=z0;grind
   ·exact (BE G FS s hs).2.2 (by rw[fx]) hg hz c hc
 refine⟨hb,hl,⟨by rw[sl,ah,hl],λ s hs=>?_⟩⟩
 rw[ah,hl] at hs
 refine R8 (WR s hs).pos hb ?_
 have e1:=le s hs
 have e2:=ge s hs
 have hn:(V.1.map λ z=>-z).getD s 0 = - V.1.getD s 0:=by
  rw[aa,ai,af (by omega),aa,af (by omega)];rfl
 rw[hn,eX]
 have e3:val (at_ (qu N g l) s) = - jC V s:=by unfold xL at e1 e2;grind
 rw[e3]
 unfold jC
 rw[iy,iy];grind
end
end La
end
noncomputable section
namespace Ck
open PySem PySem.Spec PyProof.Rows L2
def EI(l:Addr)(p:Int):List (Str×V):=mU "place" (.int p) (mU "text" (.ref l) [])
theorem ye(l:Addr)(p:Int):(EI l p).lookup ("text":Str)=some (.ref l):=by
 unfold EI;rw[jn,if_neg (by decide),jn,if_pos rfl]
theorem lz(l:Addr)(p:Int):(EI l p).lookup ("place":Str)=some (.int p):=by
 unfold EI;rw[jn,if_pos rfl]
theorem uZ(l:Addr)(p:Int){m:Str}(h1:¬m = "place")(h2:¬m = "text"):(EI l p).lookup m=none:=by
 unfold EI;rw[jn,if_neg h1,jn,if_neg h2];rfl
theorem PX(l:Addr)(p q:Int):mU "place" (.int q) (EI l p)=EI l q:=rfl
def jJ(bs:List Nat):List V:=bs.map λ(b:Nat)=>V.int (b:Int)
theorem jV(bs:List Nat):(jJ bs).length=bs.length:=by unfold jJ;rw[ah]
def pl(bs rest:List Nat):Int:=((bs.length-rest.length:Nat):Int)
structure yf(K:aj)(t:ng)(H:Hp)(r dx l:Addr)(bs rest:List Nat):Prop where
 ins:H r=some (.ins t.j5 dx (EI l (pl bs rest)))
 txt:jz K H l (jJ bs)
 yg:rest <:+ bs
 len:bs.length<=65536
def kJ(t:ng)(H:Hp)(r dx l:Addr)(bs rest:List Nat):Hp:=upd H r (.ins t.j5 dx (EI l (pl bs rest)))
def Kp(r:Addr)(H H':Hp):Prop:=∀b o,b≠r->H b=some o->H' b=some o
theorem Kp.refl(r:Addr)(H:Hp):Kp r H H:=λ _ _ _ e=>e
theorem Kp.trans{r:Addr}{H H1 H2:Hp}(a:Kp r H H1)(b:Kp r H1 H2):Kp r H H2:=λ c o h e=>b c o h (a c o h e)
theorem Kp.upd{r:Addr}{H:Hp}{o:HO}:Kp r H (upd H r o):=λ b u h e=>by rw[jd h];exact e
theorem Kp.of{r:Addr}{H H':Hp}(s:jk H H'):Kp r H H':=λ b o _ e=>s b o e
theorem PY{K:aj}{H:Hp}{a r:Addr}{xs:List V}{o u:HO}(h:jz K H a xs)(e:H r=some u)(hu:∀ys ob,u≠.lst ys/\u≠.Le ob (.lst ys)):jz K (upd H r o) a xs:=by
 rcases h with (h | ⟨ob,h⟩) | h
 ·exact .inl (.inl (by rw[jd (λ z=>by rw[z,e] at h;cases h;exact (hu xs ⟨.none,none,.seq #[] 0,#[]⟩).1 rfl)];exact h))
 ·exact .inl (.inr ⟨ob,by rw[jd (λ z=>by rw[z,e] at h;cases h;exact (hu xs ob).2 rfl)];exact h⟩)
 ·exact .inr h
theorem yf.put{K:aj}{t:ng}{H:Hp}{r dx l:Addr}{bs rest rest':List Nat}(R:yf K t H r dx l bs rest)(s:rest' <:+ bs):yf K t (kJ t H r dx l bs rest') r dx l bs rest':=
 ⟨iZ,PY R.txt R.ins λ _ _=>⟨λ z=>(by cases z),λ z=>(by cases z)⟩,s,R.len⟩
theorem oZ{t:ng}{H:Hp}{r dx l:Addr}{bs x y:List Nat}:kJ t (kJ t H r dx l bs x) r dx l bs y=kJ t H r dx l bs y:=jL
theorem yf.same{K:aj}{t:ng}{H H':Hp}{r dx l:Addr}{bs rest:List Nat}(R:yf K t H r dx l bs rest)(s:jk H H'):yf K t H' r dx l bs rest:=⟨s _ _ R.ins,s.seq R.txt,R.yg,R.len⟩
theorem yf.self{K:aj}{t:ng}{H:Hp}{r dx l:Addr}{bs rest:List Nat}(R:yf K t H r dx l bs rest):kJ t H r dx l bs rest=H:=by
 funext b
 unfold kJ upd
 split
 ·rename_i e;rw[e];exact R.ins.symm
 ·rfl
theorem PZ{bs rest:List Nat}(s:rest <:+ bs)(i:Nat):bs[bs.length-rest.length+i]? = rest[i]?:=by
 obtain⟨p,rfl⟩:=s
 rw[aE,Nat.add_sub_cancel,cP (by omega)]
 congr 1;omega
theorem Nt{bs rest:List Nat}(s:rest <:+ bs):bs.drop (bs.length-rest.length)=rest:=by
 obtain⟨p,rfl⟩:=s
 rw[aE,Nat.add_sub_cancel,List.drop_left]
theorem P0{bs rest:List Nat}(s:rest <:+ bs){c:Nat}{r:List Nat}(e:rest=c::r):ES (jJ bs) (pl bs rest)=some (.int (c:Int)):=by
 refine sO ?_
 unfold jJ
 rw[ai]
 have:=PZ s 0
 rw[gT,e] at this
 rw[e,this];rfl
section
variable{P:Program}{w:World}{K:aj}{mg:Str->Option Value}{base:Heap}{t:ng}
def P1(K:aj)(t:ng):Sp:=λ vs H Q _=>∃r dx l bs rest,vs=[.ref r]/\yf K t H r dx l bs rest/\Q (.int (Rd.here rest:Nat)) H
theorem oN(T:Txt K mg t):Ok P w K mg base 1 t.vZ t.uJ ["self"] (P1 K t):=by
 refine T.kH.fn.qw AK (λ vs H Q E h=>?_) λ cdv A outer s H vs Q E hr h=>?_
 ·obtain⟨r,dx,l,bs,rest,rfl,_⟩:=h;rfl
 ·obtain⟨r,dx,l,bs,rest,rfl,R,h⟩:=h
  refine⟨_,ja (rA (lT LF (nt (pv 0) rfl) (jT jI (by rfl) T.qi nE (iY (nt (pv 0) rfl) jb)) (kN _))
   (jf (jx (mh HP (nt (pv 0) rfl) (nt (pv 0) rfl) (λ _ _=>rfl)))) m7) (jf (jx (j9 T.wN rfl))),?_⟩
  refine⟨_,rfl,r,_,dx,_,_,rfl,R.ins,T.jm.cl,T.jy,lz _ _,_,rfl,r,_,dx,_,_,rfl,R.ins,T.jm.cl,T.mY,ye _ _,l,_,rfl,.inl R.txt,_,_,rfl,rfl,_,rfl,?_⟩;rw[jV];have hl:=R.yg.length_le
  cases e:rest with
  |nil=>
   rw[e] at h;rw[show decide (pl bs []<(bs.length:Int))=false from decide_eq_false (by unfold pl;simp)];exact qO h
  |cons c q=>
   rw[show decide (pl bs (c::q)<(bs.length:Int))=true from decide_eq_true (by rw[e] at hl;simp at hl;unfold pl;simp;omega)];rw[e] at h;refine uh ⟨_,rfl,r,_,dx,_,_,rfl,R.ins,T.jm.cl,T.mY,ye _ _,_,rfl,r,_,dx,_,_,rfl,R.ins,T.jm.cl,T.jy,lz _ _,l,_,_,_,rfl,rfl,R.txt,P0 R.yg e,?_⟩;exact h
theorem sI{bs rest:List Nat}(s:rest <:+ bs):rest.tail <:+ bs:=(List.tail_suffix rest).trans s
theorem P4{bs rest:List Nat}(s:rest <:+ bs)(h:rest≠[]):pl bs rest+1=pl bs rest.tail:=by
 have:=s.length_le
 have:0<rest.length:=iF.mpr h
 unfold pl
 rw[List.length_tail]
 omega
theorem u3{t:ng}{H:Hp}{r dx l:Addr}{bs rest:List Nat}(s:rest <:+ bs)(h:rest≠[]) :
  upd H r (.ins t.j5 dx (mU "place" (.int (pl bs rest+1)) (EI l (pl bs rest))))=kJ t H r dx l bs rest.tail:=by
 rw[PX,P4 s h];rfl
theorem BH:Rd.here []=256:=rfl
theorem sJ(c:Nat)(r:List Nat):Rd.here (c::r)=c:=rfl
def IW(K:aj)(t:ng)(f:List Nat->List Nat):Sp:=λ vs H Q _=>∃r dx l bs rest,vs=[.ref r]/\yf K t H r dx l bs rest/\(∀c∈bs,c<256)/\Q .pT (kJ t H r dx l bs (f rest))
theorem yh{i j:Nat}:decide (V.int (i:Int)=V.int (j:Int))=decide (i=j):=by
 rw[mw,aS,beq_iff_eq,decide_eq_true_eq];omega
theorem BI(T:Txt K mg t):Ok P w K mg base 2 t.oW t.nW ["self"] (IW K t λ b=>b.dropWhile λ x=>x != 10):=by
 refine T.qh.fn.qw t8 (λ vs H Q E h=>?_) λ cdv A outer s H vs Q E hr h=>?_
 ·obtain⟨r,dx,l,bs,rest,rfl,_⟩:=h;rfl
 ·obtain⟨r,dx,l,bs,rest,rfl,R,hb,h⟩:=h
  refine⟨_,jf (mT nJ (PW.pt (Rf (lT CS (kW T.jm T.kH (oN T) hr jA (pv 0)) (j9 T.A5 rfl) (kN _))
   (OA (lT CS (kW T.jm T.kH (oN T) hr jA (pv 0)) (j9 T.wN rfl) (kN _))))) (jf (rC (pv 0) jt Ak))),?_⟩
  refine⟨λ m σ H'=>∃x,x <:+ bs/\(x.dropWhile λ y=>y != 10)=(rest.dropWhile λ y=>y != 10)/\m=x.length/\σ=[some (.ref r)]/\H'=kJ t H r dx l bs x,⟨_,rest,R.yg,rfl,rfl,rfl,R.self.symm⟩,?_⟩;rintro m σ H' ⟨x,hx,ex,rfl,rfl,rfl⟩;have R':=R.put hx;have nh:(EI l (pl bs x)).lookup ("here":Str)=none:=uZ _ _ (by decide) (by decide);refine⟨_,rfl,r,dx,_,rfl,R'.ins,nh,r,dx,l,bs,x,rfl,R',rfl,_,rfl,?_⟩
  cases x with
  |nil=>
   refine uh ⟨_,rfl,r,dx,_,rfl,R'.ins,nh,r,dx,l,bs,[],rfl,R',rfl,_,rfl,qO ?_⟩;have h:Q V.pT (kJ t H r dx l bs (rest.dropWhile λ y=>y != 10)):=h;rw[<-ex] at h;exact h
  |cons c q=>
   have hc:c<256:=hb c (hx.subset aO);rw[sJ]
   by_cases UQ:c=10
   ·subst UQ;refine qO (qO ?_);have h:Q V.pT (kJ t H r dx l bs (rest.dropWhile λ y=>y != 10)):=h;rw[<-ex] at h;exact h
   ·have e1:(!decide (V.int ((c:Nat):Int)=V.int 10))=true:=by rw[show decide (V.int ((c:Nat):Int)=V.int 10)=decide (c=10) from yh,decide_eq_false UQ];rfl
    have e2:(!decide (V.int ((c:Nat):Int)=V.int 256))=true:=by rw[show decide (V.int ((c:Nat):Int)=V.int 256)=decide (c=256) from yh,decide_eq_false (by omega)];rfl
    refine tZ e1 ⟨_,rfl,r,dx,_,rfl,R'.ins,nh,r,dx,l,bs,c::q,rfl,R',rfl,_,rfl,tZ e2 ?_⟩;refine⟨λ σ H'=>σ=[some (.ref r)]/\H'=kJ t H r dx l bs q,?_,?_⟩
    ·rintro σ' H' ⟨rfl,rfl⟩;exact⟨q.length,aD _,q,sI hx,by rw[<-ex,bH (by simpa using UQ)],rfl,rfl,rfl⟩
    ·refine⟨_,rfl,r,_,dx,_,_,rfl,R'.ins,T.jm.cl,T.jy,lz _ _,_,_,rfl,rfl,dx,_,R'.ins,(by show 2<1000;decide),?_⟩;refine⟨rfl,?_⟩;rw[u3 hx (by simp),oZ];rfl
end
end Ck
end
noncomputable section
namespace Ck
open PySem PySem.Spec PyProof.Rows L2
section
variable{P:Program}{w:World}{K:aj}{mg:Str->Option Value}{base:Heap}{t:ng}
theorem mP{bs x:List Nat}(s:x <:+ bs):Rd.skip false x <:+ bs:=(Rd.oU false x).trans s
theorem oO{l:Addr}{p:Int}:(EI l p).lookup ("here":Str)=none:=uZ _ _ (by decide) (by decide)
theorem nR(T:Txt K mg t):Ok P w K mg base 3 t.oX t.nX ["self"] (IW K t (Rd.skip false)):=by
 refine T.lC.fn.qw t9 (λ vs H Q E h=>?_) λ cdv A outer s H vs Q E hr h=>?_
 ·obtain⟨r,dx,l,bs,rest,rfl,_⟩:=h;rfl
 ·obtain⟨r,dx,l,bs,rest,rfl,R,hb,h⟩:=h
  have hr1:=hr.mono (show 1<=2 by decide);refine⟨_,jf (mT nJ (PW.pt (To (lT nM (kW T.jm T.kH (oN T) hr1 jA (pv 0)) (j9 T.Im rfl) (kN _))
   (Rc (lT Af (kW T.jm T.kH (oN T) hr1 jA (pv 0)) (j9 T.M0 rfl) (kN _)))))
   (jf (rA (lT Af (kW T.jm T.kH (oN T) hr1 jA (pv 0)) (j9 T.M0 rfl) (kN _))
    (jf (jH (kW T.jm T.qh (BI T) hr jA (pv 0)))) (jf (rC (pv 0) jt Ak))))),?_⟩
  refine⟨λ m σ H'=>∃x,x <:+ bs/\Rd.skip false x=Rd.skip false rest/\m=x.length/\σ=[some (.ref r)]/\H'=kJ t H r dx l bs x,⟨_,rest,R.yg,rfl,rfl,rfl,R.self.symm⟩,?_⟩;rintro m σ H' ⟨x,hx,ex,rfl,rfl,rfl⟩;have R':=R.put hx;rw[<-ex] at h;refine⟨_,rfl,r,dx,_,rfl,R'.ins,oO,r,dx,l,bs,x,rfl,R',_,_,rfl,rfl,_,rfl,?_⟩
  cases x with
  |nil=>exact qO ⟨_,rfl,r,dx,_,rfl,R'.ins,oO,r,dx,l,bs,[],rfl,R',rfl,_,rfl,qO h⟩
  |cons c q=>
   have hc:c<256:=hb c (hx.subset aO);have step:∀e:(Rd.skip false (c::q)=Rd.skip false q),∀(e2:c≠35),∃N:L2.St->Hp->Prop,(∀σ' H',N σ' H'->∃m',m'<(c::q).length/\∃x,x <:+ bs/\Rd.skip false x=Rd.skip false rest/\m'=x.length/\σ'=[some (.ref r)]/\H'=kJ t H r dx l bs x) /\
     N [some (.ref r)] (kJ t H r dx l bs q):=λ e _=>
    ⟨λ σ H'=>σ=[some (.ref r)]/\H'=kJ t H r dx l bs q,λ σ' H' ⟨a,b⟩=>⟨q.length,aD _,q,sI hx,by rw[<-ex,e],rfl,a,b⟩,rfl,rfl⟩
   by_cases Yk:c<=32
   ·have UR:c≠35:=by omega
    obtain⟨N,n1,n2⟩:=step (by simp[Rd.skip,Yk]) UR;refine tZ (decide_eq_true (show ((c:Nat):Int)<=32 by omega)) (uh ⟨N,n1,?_⟩);refine⟨_,rfl,r,dx,_,rfl,R'.ins,oO,r,dx,l,bs,c::q,rfl,R',rfl,_,rfl,t6 (by rw[sJ];exact decide_eq_false (λ z=>UR (by injection z with z;omega))) ?_⟩;refine⟨_,rfl,r,_,dx,_,_,rfl,R'.ins,T.jm.cl,T.jy,lz _ _,_,_,rfl,rfl,dx,_,R'.ins,(by show 2<1000;decide),?_⟩;rw[u3 hx (by simp),oZ];exact n2
   ·refine t6 (decide_eq_false (show ¬((c:Nat):Int)<=32 by omega)) ?_;refine⟨_,rfl,r,dx,_,rfl,R'.ins,oO,r,dx,l,bs,c::q,rfl,R',rfl,_,rfl,?_⟩
    by_cases WT:c=35
    ·subst WT;have e0:Rd.skip false (35::q)=Rd.skip false (q.dropWhile λ y=>y != 10):=by
      rw[<-Rd.De];simp[Rd.skip]
     have e1:((35::q).dropWhile λ y=>y != 10)=q.dropWhile λ y=>y != 10:=by rw[bH (by decide)]
     refine uh ⟨λ σ H'=>σ=[some (.ref r)]/\H'=kJ t H r dx l bs (q.dropWhile λ y=>y != 10),?_,?_⟩
     ·rintro σ' H' ⟨rfl,rfl⟩;exact⟨_,dS (Rd.dropWhile_len _ q),q.dropWhile (λ y=>y != 10),(dN (l:=q) _).trans (sI hx),by rw[<-ex,e0],rfl,rfl,rfl⟩
     ·refine⟨_,rfl,r,dx,_,rfl,R'.ins,oO,r,dx,l,bs,35::q,rfl,R',rfl,_,rfl,uh ?_⟩;refine⟨_,rfl,r,dx,_,rfl,R'.ins,uZ _ _ (by decide) (by decide),r,dx,l,bs,35::q,rfl,R',hb,?_⟩;refine⟨rfl,?_⟩;show kJ t (kJ t H r dx l bs (35::q)) r dx l bs ((35::q).dropWhile λ y=>y != 10)=_;rw[oZ,e1]
    ·refine t6 (by rw[sJ];exact decide_eq_false (λ z=>WT (by injection z with z;omega))) ?_;have e:Rd.skip false (c::q)=c::q:=by simp[Rd.skip,Yk,WT]
     rw[e] at h;exact h
theorem KI(T:Txt K mg t):Ok P w K mg base 4 t.tU t.rQ ["self"] (λ vs H Q _=>∃r dx l bs rest,vs=[.ref r]/\yf K t H r dx l bs rest/\(∀c∈bs,c<256)/\Q (.bl (decide (Rd.skip false rest=[]))) (kJ t H r dx l bs (Rd.skip false rest))):=by
 refine T.wz.fn.qw yN (λ vs H Q E h=>?_) λ cdv A outer s H vs Q E hr h=>?_
 ·obtain⟨r,dx,l,bs,rest,rfl,_⟩:=h;rfl
 ·obtain⟨r,dx,l,bs,rest,rfl,R,hb,h⟩:=h
  refine⟨_,ja (jH (kW T.jm T.lC (nR T) hr jA (pv 0))) (jf (jx (oG Af (kW T.jm T.kH (oN T) (hr.mono (by decide)) jA (pv 0)) (j9 T.wN rfl) (kN _)))),?_⟩;have R':=R.put (mP R.yg);refine⟨_,rfl,r,dx,_,rfl,R.ins,uZ _ _ (by decide) (by decide),r,dx,l,bs,rest,rfl,R,hb,?_⟩;refine⟨_,rfl,r,dx,_,rfl,R'.ins,oO,r,dx,l,bs,_,rfl,R',rfl,?_⟩;have e:decide (V.int (Rd.here (Rd.skip false rest):Nat)=V.int 256)=decide (Rd.skip false rest=[]):=by
   rw[show decide (V.int (Rd.here (Rd.skip false rest):Nat)=V.int 256)=decide (Rd.here (Rd.skip false rest)=256) from yh,aS,decide_eq_true_eq,decide_eq_true_eq]
   cases e:Rd.skip false rest with
   |nil=>simp[BH]
   |cons c q=>
    have:c<256:=hb c ((mP R.yg).subset (by rw[e];exact aO));rw[sJ];simp;omega
  show Q (.bl (decide (V.int (Rd.here (Rd.skip false rest):Nat)=V.int 256))) _;rw[e];exact h
def KJ(K:aj)(t:ng):Sp:=λ vs H Q _=>∃r dx l bs rest,∃m:Nat,vs=[.ref r,.int m]/\m<256/\yf K t H r dx l bs rest/\(∀c∈bs,c<256)/\Q (.bl (Rd.passes m rest).1) (kJ t H r dx l bs (Rd.passes m rest).2)
theorem jR{m:Nat}{bs rest:List Nat}(s:rest <:+ bs):(Rd.passes m rest).2 <:+ bs:=by
 unfold Rd.passes
 split
 ·exact sI (mP s)
 ·exact mP s
theorem oE(T:Txt K mg t):Ok P w K mg base 4 t.tV t.rR ["self","mark"] (KJ K t):=by
 refine T.kZ.fn.qw yO (λ vs H Q E h=>?_) λ cdv A outer s H vs Q E hr h=>?_
 ·obtain⟨r,dx,l,bs,rest,m,rfl,_⟩:=h;rfl
 ·obtain⟨r,dx,l,bs,rest,m,rfl,hm,R,hb,h⟩:=h
  refine⟨_,ja (jH (kW T.jm T.lC (nR T) hr jA (pv 0)))
   (ja (rA (lT CS (kW T.jm T.kH (oN T) (hr.mono (by decide)) jA (pv 0)) (pv 1) (kN _)) (jf (jx Lr)) m7)
   (ja (rC (pv 0) jt Ak) (jf (jx Lr)))),?_⟩
  have R':=R.put (mP R.yg);refine⟨_,rfl,r,dx,_,rfl,R.ins,uZ _ _ (by decide) (by decide),r,dx,l,bs,rest,rfl,R,hb,?_⟩;refine⟨_,rfl,r,dx,_,rfl,R'.ins,oO,r,dx,l,bs,_,rfl,R',_,rfl,rfl,_,rfl,?_⟩;unfold Rd.passes at h
  by_cases e:Rd.here (Rd.skip false rest)=m
  ·rw[if_pos e] at h;refine t6 (by rw[yh,decide_eq_true e];rfl) ?_;have hne:Rd.skip false rest≠[]:=λ z=>by rw[z,BH] at e;omega
   refine⟨_,rfl,r,_,dx,_,_,rfl,R'.ins,T.jm.cl,T.jy,lz _ _,_,_,rfl,rfl,dx,_,R'.ins,(by show 2<1000;decide),?_⟩;rw[u3 (mP R.yg) hne,oZ];exact h
  ·rw[if_neg e] at h;exact tZ (by rw[yh,decide_eq_false e];rfl) h
theorem BJ{f:Nat->Bool}:∀b:List Nat,b.drop (b.takeWhile f).length=b.dropWhile f
 |[]=>rfl
 |c::r=>by
  by_cases h:f c=true
  ·rw[bA h,bH h];exact BJ r
  ·rw[dZ h,eu h];rfl
theorem EA{f:Nat->Bool}(b:List Nat):(b.takeWhile f).length+(b.dropWhile f).length=b.length:=by
 have:=congrArg fc (fE (p:=f) (l:=b))
 rw[aE] at this;exact this
theorem IX{f:Nat->Bool}{bs c:List Nat}(s:c <:+ bs):Jt (jJ bs) (some (pl bs c)) (some (pl bs (c.dropWhile f)))=jJ (c.takeWhile f):=by
 have h1:=s.length_le
 have h2:=EA (f:=f) c
 unfold Jt pl
 rw[HT.HK,HT.HK,jV,Nat.min_eq_left (by omega),Nat.min_eq_left (by omega)]
 unfold jJ
 rw[<-List.map_drop,<-List.map_take,Nt s]
 congr 1
 rw[show bs.length-(c.dropWhile f).length-(bs.length-c.length)=(c.takeWhile f).length by omega]
 have z:(c.takeWhile f++c.dropWhile f).take (c.takeWhile f).length=c.takeWhile f:=List.take_left
 rw[fE] at z
 exact z
def Hs{α:Type}(o:Option α)(n:Prop)(s:α->Prop):Prop:=match o with
 |none=>n
 |some x=>s x
def yk{α:Type}(K:aj)(t:ng)(f:List Nat->Option (α×List Nat))(rep:α->V->Hp->Prop):Sp:=λ vs H Q E=>∃r dx l bs rest,vs=[.ref r]/\yf K t H r dx l bs rest/\(∀c∈bs,c<256) /\
 Hs (f rest) (∀H',E (.ref t.jr) none H') λ x=>x.2 <:+ bs/\∀v H',yf K t H' r dx l bs x.2->Kp r H H'->rep x.1 v H'->Q v H'
def WU(w:List Nat)(v:V)(H:Hp):Prop:=∃a,v=.ref a/\H a=some (.tup (jJ w))
theorem zB(b:List Nat):Rd.jP b=if Ra61.isLetter (Rd.here (Rd.skip false b))=true then (if ((Rd.skip false b).takeWhile Ra61.isWord).length<=16 then some ((Rd.skip false b).takeWhile Ra61.isWord,(Rd.skip false b).dropWhile Ra61.isWord) else none) else none:=by
 unfold Rd.jP
 simp only[BJ]
theorem wA(b:List Nat):Rd.jW b=if 1<=((Rd.skip false b).takeWhile Ra61.isDigit).length/\((Rd.skip false b).takeWhile Ra61.isDigit).length<=7 then (if Ra61.value ((Rd.skip false b).takeWhile Ra61.isDigit)<=1000000 then some (Ra61.value ((Rd.skip false b).takeWhile Ra61.isDigit),(Rd.skip false b).dropWhile Ra61.isDigit) else none) else none:=by
 unfold Rd.jW
 simp only[BJ]
theorem pS(T:Txt K mg t)(kb:K.In base):Ok P w K mg base 4 t.qe t.pL ["self"] (yk K t Rd.jP WU):=by
 refine T.lW.fn.qw pJ (λ vs H Q E h=>?_) λ cdv A outer s H vs Q E hr h=>?_
 ·obtain⟨r,dx,l,bs,rest,rfl,_⟩:=h;rfl
 ·obtain⟨r,dx,l,bs,rest,rfl,R,hb,h⟩:=h
  have hr1:=hr.mono (show 1<=3 by decide);have hr2:=hr.mono (show 2<=3 by decide);refine⟨_,ja (jH (kW T.jm T.lC (nR T) hr jA (pv 0)))
   (ja (jH (jG T.mO (j8 T kb) hr1 rfl (jw xl_of) (iY (jG T.yP (xY T) hr1 rfl jA (iY (kW T.jm T.kH (oN T) hr1 jA (pv 0)) jb)) jb)))
   (ja (jB (i:=1) pJ.nd rfl (Or.inl rfl) (nt (pv 0) rfl))
   (ja (mT nJ (pW (jG T.xO (zO T) hr2 rfl jA (iY (kW T.jm T.kH (oN T) hr1 jA (pv 0)) jb))) (jf (rC (pv 0) jt Ak)))
   (ja (jH (jG T.mO (j8 T kb) hr1 rfl (jw xl_of) (iY (oG nM (kB DT (nt (pv 0) rfl) (pv 1)) (j9 T.A3 rfl) (kN _)) jb)))
   (jf (jx (vh Cn (by rfl) T.Pw M1 (iY (EQ HQ (nt (pv 0) rfl) (zS (pv 1)) (zS (nt (pv 0) rfl))) jb)))))))),?_⟩
  have hc:=mP R.yg;generalize hcc:Rd.skip false rest=c at hc
  have R':=R.put hc;refine⟨_,rfl,r,dx,_,rfl,R.ins,uZ _ _ (by decide) (by decide),r,dx,l,bs,rest,rfl,R,hb,?_⟩;rw[hcc];rw[zB,hcc] at h;refine⟨_,rfl,r,dx,_,rfl,R'.ins,oO,r,dx,l,bs,c,rfl,R',_,rfl,_,rfl,?_⟩
  by_cases hL:Ra61.isLetter (Rd.here c)=true
  ·rw[if_pos hL] at h;refine tZ hL ?_;refine⟨_,rfl,r,_,dx,_,_,rfl,R'.ins,T.jm.cl,T.jy,lz _ _,?_⟩;refine⟨λ m σ H'=>∃x,x <:+ c/\x.dropWhile Ra61.isWord=c.dropWhile Ra61.isWord/\m=x.length/\σ=[some (.ref r),some (.int (pl bs c))]/\H'=kJ t H r dx l bs x,⟨_,c,fN _,rfl,rfl,rfl,rfl⟩,?_⟩;rintro m σ H' ⟨x,hx,ex,rfl,rfl,rfl⟩;have Rx:=R.put (hx.trans hc);refine⟨_,rfl,r,dx,_,rfl,Rx.ins,oO,r,dx,l,bs,x,rfl,Rx,_,rfl,_,rfl,?_⟩;have done:x=c.dropWhile Ra61.isWord->Jo (Lv (HH (yS t) [] E (Al (Qz (Gm λ i j=>.bl (decide (i<=j))) (Qz (Gm λ i j=>.int (i-j)) (LM K (wY 0) "place") (wY 1)) (tC (.int 16))) EN)))
     (OB (Wj (λ xs H Q=>∃p ys,xs=[.ref p]/\((jz K H p ys/\∀l,H l=none->Q (.ref l) (upd H l (.tup ys)))\/(rq K H p ys/\Q (.ref p) H))) (Al (XJ (T5 K) (LM K (wY 0) "text") (LQ (wY 1)) (LQ (LM K (wY 0) "place"))) EN)))
     { nx:=λ _ H'=>Q .pT H',rt:=Q } [some (.ref r),some (.int (pl bs c))] (kJ t H r dx l bs x):=by
    intro ed;subst ed;refine⟨_,rfl,r,_,dx,_,_,rfl,Rx.ins,T.jm.cl,T.jy,lz _ _,_,rfl,_,_,rfl,rfl,_,_,rfl,rfl,_,rfl,?_⟩;have hl1:=hc.length_le;have hl2:=EA (f:=Ra61.isWord) c;have e:decide (pl bs (c.dropWhile Ra61.isWord)-pl bs c<=16)=decide ((c.takeWhile Ra61.isWord).length<=16):=by
     rw[aS,decide_eq_true_eq,decide_eq_true_eq];unfold pl;omega
    by_cases hw:(c.takeWhile Ra61.isWord).length<=16
    ·rw[if_pos hw] at h;refine tZ (by rw[e];exact decide_eq_true hw) ?_;refine⟨_,rfl,r,_,dx,_,_,rfl,Rx.ins,T.jm.cl,T.mY,ye _ _,_,rfl,_,rfl,_,rfl,r,_,dx,_,_,rfl,Rx.ins,T.jm.cl,T.jy,lz _ _,_,rfl,l,_,rfl,Rx.txt,λ p hp=>?_⟩;rw[IX hc];refine⟨p,_,rfl,.inl ⟨jz.of iZ,λ a ha=>?_⟩⟩;have s2:=(jh (o:=.lst (jJ (c.takeWhile Ra61.isWord))) hp).trans (jh (o:=.tup (jJ (c.takeWhile Ra61.isWord))) ha);refine h.2 _ _ (Rx.same s2) (Kp.trans Kp.upd (Kp.of s2)) ⟨a,rfl,iZ⟩
    ·rw[if_neg hw] at h;exact t6 (by rw[e];exact decide_eq_false hw) (h _)
   cases x with
   |nil=>exact t6 rfl (done (by rw[<-ex];rfl))
   |cons d q=>
    by_cases hw:Ra61.isWord d=true
    ·refine tZ hw ⟨λ σ H'=>σ=[some (.ref r),some (.int (pl bs c))]/\H'=kJ t H r dx l bs q,?_,?_⟩
     ·rintro σ' H' ⟨rfl,rfl⟩;exact⟨q.length,aD _,q,sI hx,by rw[<-ex,bH hw],rfl,rfl,rfl⟩
     ·refine⟨_,rfl,r,_,dx,_,_,rfl,Rx.ins,T.jm.cl,T.jy,lz _ _,_,_,rfl,rfl,dx,_,Rx.ins,(by show 2<1000;decide),rfl,?_⟩;rw[u3 (hx.trans hc) (by simp),oZ];rfl
    ·exact t6 (show Ra61.isWord d=false by simpa using hw) (done (by rw[<-ex,eu hw]))
  ·rw[if_neg hL] at h;exact t6 (by simpa using hL) (h _)
theorem Ht(d:List Nat)(x:Nat):Ra61.value (d++[x])=10*Ra61.value d+(x-48):=by unfold Ra61.value;rw[dU];rfl
theorem Nu{x:Nat}(h:Ra61.isDigit x=true):48<=x:=by
 unfold Ra61.isDigit at h
 rw[aQ,decide_eq_true_eq] at h
 exact h.1
theorem FY{f:Nat->Bool}:∀(b:List Nat) (x:Nat),x∈b.takeWhile f->f x=true
 |[],x,h=>by simp at h
 |c::r,x,h=>by
  by_cases hc:f c=true
  ·rw[bA hc] at h
   rcases aA.mp h with rfl | h
   ·exact hc
   ·exact FY r x h
  ·rw[dZ hc] at h;simp at h
def WV(n:Nat)(v:V)(_:Hp):Prop:=v=.int (n:Int)
theorem u4(T:Txt K mg t)(kb:K.In base):Ok P w K mg base 4 t.oY t.nY ["self"] (yk K t Rd.jW WV):=by
 refine T.nD.fn.qw ko (λ vs H Q E h=>?_) λ cdv A outer s H vs Q E hr h=>?_
 ·obtain⟨r,dx,l,bs,rest,rfl,_⟩:=h;rfl
 ·obtain⟨r,dx,l,bs,rest,rfl,R,hb,h⟩:=h
  have hr1:=hr.mono (show 1<=3 by decide);refine⟨_,ja (jH (kW T.jm T.lC (nR T) hr jA (pv 0)))
   (ja (jB (i:=1) ko.nd rfl (Or.inl rfl) (nt (pv 0) rfl))
   (ja (mT nJ (pW (jG T.AS (zw T) hr1 rfl jA (iY (kW T.jm T.kH (oN T) hr1 jA (pv 0)) jb))) (jf (rC (pv 0) jt Ak)))
   (ja (jH (jG T.mO (j8 T kb) hr1 rfl (jw xl_of) (iY (rB nM nM jt (kB DT (nt (pv 0) rfl) (pv 1)) (j9 T.Cv rfl)) jb)))
   (ja (jB (i:=2) ko.nd rfl (Or.inl rfl) jt)
   (ja (qN nJ rfl (kK (EQ HQ (nt (pv 0) rfl) (zS (pv 1)) (zS (nt (pv 0) rfl)))) (jS (i:=3) ko.nd rfl (Or.inl rfl))
    (jf (jB (i:=2) ko.nd rfl (Or.inl rfl) (kB DT (kB Ae (kB ud (pv 2) jt) (pv 3)) (j9 T.G2 rfl)))))
   (ja (jH (jG T.mO (j8 T kb) hr1 rfl (jw xl_of) (iY (oG nM (pv 2) (j9 T.xW rfl) (kN _)) jb)))
   (jf (jx (pv 2))))))))),?_⟩
  have hc:=mP R.yg;generalize hcc:Rd.skip false rest=c at hc
  have R':=R.put hc;refine⟨_,rfl,r,dx,_,rfl,R.ins,uZ _ _ (by decide) (by decide),r,dx,l,bs,rest,rfl,R,hb,?_⟩;rw[hcc];rw[wA,hcc] at h;refine⟨_,rfl,r,_,dx,_,_,rfl,R'.ins,T.jm.cl,T.jy,lz _ _,?_⟩;refine⟨λ m σ H'=>∃x,x <:+ c/\x.dropWhile Ra61.isDigit=c.dropWhile Ra61.isDigit/\m=x.length/\σ=[some (.ref r),some (.int (pl bs c)),none,none]/\H'=kJ t H r dx l bs x,⟨_,c,fN _,rfl,rfl,rfl,rfl⟩,?_⟩;rintro m σ H' ⟨x,hx,ex,rfl,rfl,rfl⟩;have Rx:=R.put (hx.trans hc);refine⟨_,rfl,r,dx,_,rfl,Rx.ins,oO,r,dx,l,bs,x,rfl,Rx,_,rfl,_,rfl,?_⟩;have fin:Ra61.isDigit (Rd.here x)=false->x=c.dropWhile Ra61.isDigit:=λ hd=>by
   cases x with
   |nil=>rw[<-ex];rfl
   |cons d q=>rw[<-ex,eu (by rw[sJ] at hd;simp[hd])]
  cases hd:Ra61.isDigit (Rd.here x) with
  |true=>
   cases x with
   |nil=>rw[BH] at hd;exact absurd hd (by decide)
   |cons d q=>
    refine tZ rfl ⟨λ σ H'=>σ=[some (.ref r),some (.int (pl bs c)),none,none]/\H'=kJ t H r dx l bs q,?_,?_⟩
    ·rintro σ' H' ⟨rfl,rfl⟩;exact⟨q.length,aD _,q,sI hx,by rw[<-ex,bH (show Ra61.isDigit d=true from hd)],rfl,rfl,rfl⟩
    ·refine⟨_,rfl,r,_,dx,_,_,rfl,Rx.ins,T.jm.cl,T.jy,lz _ _,_,_,rfl,rfl,dx,_,Rx.ins,(by show 2<1000;decide),rfl,?_⟩;rw[u3 (hx.trans hc) (by simp),oZ];rfl
  |false=>
   obtain rfl:=fin hd;refine t6 rfl ?_;have hl1:=hc.length_le;have hl2:=EA (f:=Ra61.isDigit) c;refine⟨_,rfl,r,_,dx,_,_,rfl,Rx.ins,T.jm.cl,T.jy,lz _ _,_,rfl,_,_,rfl,rfl,_,_,rfl,rfl,?_⟩;have q1:decide ((1:Int)<=pl bs (c.dropWhile Ra61.isDigit)-pl bs c)=decide (1<=(c.takeWhile Ra61.isDigit).length):=by
    rw[aS,decide_eq_true_eq,decide_eq_true_eq];unfold pl;omega
   have q2:decide (pl bs (c.dropWhile Ra61.isDigit)-pl bs c<=7)=decide ((c.takeWhile Ra61.isDigit).length<=7):=by
    rw[aS,decide_eq_true_eq,decide_eq_true_eq];unfold pl;omega
   refine⟨_,rfl,?_⟩
   by_cases w1:1<=(c.takeWhile Ra61.isDigit).length
   case neg=>
    rw[if_neg (λ z=>w1 z.1)] at h;exact t6 (q1.trans (decide_eq_false w1)) ⟨_,rfl,qO (h _)⟩
   refine tZ (q1.trans (decide_eq_true w1)) ⟨_,_,rfl,rfl,?_⟩
   by_cases hw:(c.takeWhile Ra61.isDigit).length<=7
   ·rw[if_pos ⟨w1,hw⟩] at h;refine⟨_,rfl,tZ (q2.trans (decide_eq_true hw)) ?_⟩;refine⟨_,rfl,r,_,dx,_,_,rfl,Rx.ins,T.jm.cl,T.mY,ye _ _,_,rfl,_,rfl,_,rfl,r,_,dx,_,_,rfl,Rx.ins,T.jm.cl,T.jy,lz _ _,_,rfl,l,_,rfl,Rx.txt,λ p hp=>?_⟩;rw[IX hc];have s2:=jh (o:=.lst (jJ (c.takeWhile Ra61.isDigit))) hp;refine⟨p,rfl,⟨_,jz.of iZ⟩,xf (K:=K) (a:=p) (xs:=jJ (c.takeWhile Ra61.isDigit))
     (λ i σ H'=>∃v3,σ=[some (.ref r),some (.int (pl bs c)),some (.int (Ra61.value ((c.takeWhile Ra61.isDigit).take i):Nat)),v3]/\H'=upd (kJ t H r dx l bs (c.dropWhile Ra61.isDigit)) p (.lst (jJ (c.takeWhile Ra61.isDigit))))
     ⟨none,rfl,rfl⟩ (λ i σ H' _ ⟨_,_,e⟩=>by rw[e];exact jz.of iZ) ?_ ?_⟩
    ·rintro i y σ H' hi ⟨v3,rfl,rfl⟩;unfold jJ at hi;rw[ai] at hi
     cases ei:(c.takeWhile Ra61.isDigit)[i]? with
     |none=>rw[ei] at hi;cases hi
     |some d=>
      rw[ei] at hi;obtain rfl:=(aR hi).symm;have Z5:=Nu (FY c d (au ei));refine⟨_,rfl,_,_,rfl,rfl,.inr ⟨by decide,by decide⟩,_,rfl,_,_,rfl,rfl,_,_,rfl,rfl,some (.int (d:Int)),?_,rfl⟩;have et:(c.takeWhile Ra61.isDigit).take (i+1)=(c.takeWhile Ra61.isDigit).take i++[d]:=by rw[gB,ei];rfl
      rw[et,Ht];have:((Ra61.value ((c.takeWhile Ra61.isDigit).take i):Nat):Int)*10+(d:Int)-48=((10*Ra61.value ((c.takeWhile Ra61.isDigit).take i)+(d-48):Nat):Int):=by omega
      rw[<-this];rfl
    ·rintro σ H' ⟨v3,rfl,rfl⟩;rw[jV,eF];refine⟨_,rfl,_,_,rfl,rfl,_,rfl,?_⟩;have e:decide (((Ra61.value (c.takeWhile Ra61.isDigit):Nat):Int)<=1000000)=decide (Ra61.value (c.takeWhile Ra61.isDigit)<=1000000):=qk _ 1000000
     by_cases hv:Ra61.value (c.takeWhile Ra61.isDigit)<=1000000
     ·rw[if_pos hv] at h;refine tZ (by rw[e];exact decide_eq_true hv) ⟨_,rfl,?_⟩;exact h.2 _ _ (Rx.same s2) (Kp.trans Kp.upd (Kp.of s2)) rfl
     ·rw[if_neg hv] at h;exact t6 (by rw[e];exact decide_eq_false hv) (h _)
   ·rw[if_neg (λ z=>hw z.2)] at h;exact⟨_,rfl,t6 (q2.trans (decide_eq_false hw)) (h _)⟩
theorem yl{l:Addr}{p:Int}{m:Str}(h1:¬m = "place":=by decide)(h2:¬m = "text":=by decide):(EI l p).lookup m=none:=uZ _ _ h1 h2
theorem nS{α:Type}{f:List Nat->Option (α×List Nat)}{rep:α->V->Hp->Prop}{H:Hp}{r dx l:Addr}{bs rest:List Nat}{Q:VK}{E:XK}(R:yf K t H r dx l bs rest)(hb:∀c∈bs,c<256)
  (hn:f rest=none->∀H',E (.ref t.jr) none H') (hs:∀x,f rest=some x->x.2 <:+ bs/\∀v H',yf K t H' r dx l bs x.2->Kp r H H'->rep x.1 v H'->Q v H'):yk K t f rep [.ref r] H Q E:=by
 refine⟨r,dx,l,bs,rest,rfl,R,hb,?_⟩
 cases e:f rest with
 |none=>exact hn e
 |some x=>exact hs x e
theorem lN{bs b:List Nat}{x}(s:b <:+ bs)(h:Rd.jP b=some x):x.2 <:+ bs:=by
 rw[zB] at h
 split at h
 ·split at h
  ·cases h;exact (dN _).trans (mP s)
  ·cases h
 ·cases h
theorem nT{bs b:List Nat}{x}(s:b <:+ bs)(h:Rd.jW b=some x):x.2 <:+ bs:=by
 rw[wA] at h
 split at h
 ·split at h
  ·cases h;exact (dN _).trans (mP s)
  ·cases h
 ·cases h
def WW(n:Int)(v:V)(_:Hp):Prop:=v=.int n
theorem EB(T:Txt K mg t)(kb:K.In base):Ok P w K mg base 5 t.zj t.xD ["reader"] (yk K t Rd.oS WW):=by
 refine T.Dm.fn.qw tu (λ vs H Q E h=>?_) λ cdv A outer s H vs Q E hr h=>?_
 ·obtain⟨r,dx,l,bs,rest,rfl,_⟩:=h;rfl
 ·obtain⟨r,dx,l,bs,rest,rfl,R,hb,h⟩:=h
  refine⟨_,ja (jB (i:=1) tu.nd rfl (Or.inl rfl) (rG T.jm T.kZ (oE T) hr jA (pv 0) (iY (j9 T.Io rfl) jb)))
   (ja (jB (i:=2) tu.nd rfl (Or.inl rfl) (kW T.jm T.nD (u4 T kb) hr (jw xl_of) (pv 0)))
   (ja (jH (jG T.mO (j8 T kb) (hr.mono (by decide)) rfl (jw xl_of) (iY (oG nM (pv 2) (j9 T.zM rfl) (kN _)) jb)))
   (jf (jx (ua (pW (pv 1)) (CQ yz (pv 2)) (pv 2)))))),?_⟩
  refine⟨_,rfl,r,dx,_,rfl,R.ins,yl,r,dx,l,bs,rest,45,rfl,by decide,R,hb,?_⟩;unfold Rd.oS at h;rw[ak] at h;have s1:=jR (m:=45) R.yg;generalize Rd.passes 45 rest=y at h s1
  have R1:=R.put s1;refine⟨_,rfl,r,dx,_,rfl,R1.ins,yl,nS R1 hb (λ e H'=>?_) λ x e=>⟨nT s1 e,λ v H' R2 k2 hv=>?_⟩⟩
  ·rw[e] at h;exact h H'
  ·rw[e,ak] at h;obtain rfl:v=.int (x.1:Int):=hv;refine⟨_,rfl,_,_,rfl,rfl,_,rfl,?_⟩;have e2:decide ((x.1:Int)<=1000)=decide (x.1<=1000):=qk _ 1000
   by_cases hg:x.1<=1000
   ·rw[if_pos hg] at h;refine tZ (e2.trans (decide_eq_true hg)) ⟨_,rfl,_,rfl,?_⟩;have fin:=h.2 (.int (if y.1=true then -(x.1:Int) else (x.1:Int))) H' R2 (Kp.trans Kp.upd k2) rfl
    cases hy:y.1 with
    |true=>rw[hy] at fin;exact uh ⟨_,rfl,_,rfl,fin⟩
    |false=>rw[hy] at fin;exact qO ⟨_,rfl,fin⟩
   ·rw[if_neg hg] at h;exact t6 (e2.trans (decide_eq_false hg)) (h _)
def US(x:List Nat×Nat)(v:V)(H:Hp):Prop:=∃a b,v=.ref a/\H a=some (.tup [.ref b,.int (x.2:Int)])/\H b=some (.tup (jJ x.1))
theorem qM{bs b:List Nat}{x}(s:b <:+ bs)(h:Rd.m8 b=some x):x.2 <:+ bs:=by
 obtain⟨a,h1,h⟩:=Rd.bind_some h
 obtain⟨y,h2,h⟩:=Rd.bind_some h
 cases h2
 obtain⟨n,h3,h⟩:=Rd.bind_some h
 obtain⟨_,h⟩:=Rd.jj h
 cases h
 have s2:=jR (m:=47) (lN s h1)
 split at h3
 ·exact nT s2 h3
 ·cases h3;exact s2
theorem zC(T:Txt K mg t)(kb:K.In base):Ok P w K mg base 5 t.AO t.zk ["reader"] (yk K t Rd.m8 US):=by
 refine T.AU.fn.qw qB (λ vs H Q E h=>?_) λ cdv A outer s H vs Q E hr h=>?_
 ·obtain⟨r,dx,l,bs,rest,rfl,_⟩:=h;rfl
 ·obtain⟨r,dx,l,bs,rest,rfl,R,hb,h⟩:=h
  refine⟨_,ja (jB (i:=1) qB.nd rfl (Or.inl rfl) (kW T.jm T.lW (pS T kb) hr (jw xl_of) (pv 0)))
   (ja (jB (i:=2) qB.nd rfl (Or.inl rfl) jt)
   (ja (rA (pW (rG T.jm T.kZ (oE T) hr jA (pv 0) (iY (j9 T.Ip rfl) jb)))
    (jf (jB (i:=2) qB.nd rfl (Or.inl rfl) (kW T.jm T.nD (u4 T kb) hr (jw xl_of) (pv 0)))) m7)
   (ja (jH (jG T.mO (j8 T kb) (hr.mono (by decide)) rfl (jw xl_of) (iY (rB nM nM jt (pv 2) (j9 T.xX rfl)) jb)))
   (jf (jx (LN (iY (pv 1) (iY (pv 2) jb)))))))),?_⟩
  unfold Rd.m8 at h;refine⟨_,rfl,r,dx,_,rfl,R.ins,yl,nS R hb (λ e H'=>?_) λ x e=>⟨lN R.yg e,λ v H1 R1 k1 hv=>?_⟩⟩
  ·rw[e] at h;exact h H'
  ·rw[e,ak,ak] at h;obtain⟨b,rfl,hb1⟩:=hv;have s2:=jR (m:=47) R1.yg;refine⟨_,rfl,r,dx,_,rfl,R1.ins,yl,r,dx,l,bs,x.2,47,rfl,by decide,R1,hb,_,rfl,?_⟩;generalize Rd.passes 47 x.2=y at h s2
   have R2:=R1.put s2;have Yl:b≠r:=nH hb1 R1.ins (by intro q;cases q);have fin:∀(n:Nat) (Nv:List Nat) (H3:Hp),yf K t H3 r dx l bs Nv->Kp r (kJ t H1 r dx l bs y.2) H3 ->
     Hs (if 1<=n/\n<=1000 then some ((x.1,n),Nv) else none:Option ((List Nat×Nat)×List Nat)) (∀H',E (.ref t.jr) none H') (λ z=>z.2 <:+ bs/\∀v H',yf K t H' r dx l bs z.2->Kp r H H'->US z.1 v H'->Q v H') ->
     Jo (Lv (HH (yS t) [] E (Al (DU (Gm λ i j=>.bl (decide (i<=j))) (Gm λ i j=>.bl (decide (i<=j))) (tC (.int 1)) (wY 2) (tC (.int 1000))) EN)))
      (OB (TU (Al (wY 1) (Al (wY 2) EN)))) { nx:=λ _ H'=>Q .pT H',rt:=Q } [some (.ref r),some (.ref b),some (.int (n:Int))] H3:=by
    intro n Nv H3 R3 k3 h;refine VF (x:=(n:Int)) rfl ?_;have e2:(decide ((1:Int)<=n)&&decide ((n:Int)<=1000))=decide (1<=n/\n<=1000):=by
     rw[aS,aQ,decide_eq_true_eq,decide_eq_true_eq,decide_eq_true_eq];omega
    rw[e2]
    by_cases hn:1<=n/\n<=1000
    ·rw[if_pos hn] at h;refine⟨_,rfl,tZ (decide_eq_true hn) ⟨_,rfl,_,rfl,(by show 2<=sizeLine;decide),λ p hp=>?_⟩⟩;have s3:=jh (o:=.tup [.ref b,.int (n:Int)]) hp;have Z6:H3 b=some (.tup (jJ x.1)):=k3 b _ Yl (Kp.upd b _ Yl hb1);exact h.2 _ _ (R3.same s3) (((k1.trans Kp.upd).trans k3).trans (Kp.of s3)) ⟨p,b,rfl,iZ,s3 _ _ Z6⟩
    ·rw[if_neg hn] at h;exact⟨_,rfl,t6 (decide_eq_false hn) (h _)⟩
   cases hy:y.1 with
   |true=>
    rw[hy,if_pos rfl] at h;refine uh ⟨_,rfl,r,dx,_,rfl,R2.ins,yl,nS R2 hb (λ e H'=>?_) λ z e=>⟨nT s2 e,λ v H3 R3 k3 hv=>?_⟩⟩
    ·rw[e] at h;exact h H'
    ·rw[e,ak] at h;obtain rfl:v=.int (z.1:Int):=hv;exact fin z.1 z.2 H3 R3 k3 h
   |false=>
    rw[hy] at h;exact qO (fin 1 y.2 _ R2 (Kp.refl _ _) h)
def zP(nm g wy tot:V):List (Str×V):=mU "total" tot (mU "ways" wy (mU "gain" g (mU "name" nm [])))
def KL(nm cs:V):List (Str×V):=mU "choices" cs (mU "name" nm [])
theorem FZ(nm g wy tot:V):(zP nm g wy tot).lookup ("name":Str)=some nm:=by
 unfold zP;rw[jn,if_neg (by decide),jn,if_neg (by decide),jn,if_neg (by decide),jn,if_pos rfl]
theorem ym(nm g wy tot:V):(zP nm g wy tot).lookup ("gain":Str)=some g:=by
 unfold zP;rw[jn,if_neg (by decide),jn,if_neg (by decide),jn,if_pos rfl]
theorem u5(nm g wy tot:V):(zP nm g wy tot).lookup ("ways":Str)=some wy:=by
 unfold zP;rw[jn,if_neg (by decide),jn,if_pos rfl]
theorem pU(nm g wy tot:V):(zP nm g wy tot).lookup ("total":Str)=some tot:=by
 unfold zP;rw[jn,if_pos rfl]
theorem P5(nm g wy tot VG:V):mU "ways" VG (zP nm g wy tot)=zP nm g VG tot:=rfl
theorem F1(nm cs:V):(KL nm cs).lookup ("name":Str)=some nm:=by
 unfold KL;rw[jn,if_neg (by decide),jn,if_pos rfl]
theorem zD(nm cs:V):(KL nm cs).lookup ("choices":Str)=some cs:=by
 unfold KL;rw[jn,if_pos rfl]
def BK(t:ng):Sp:=λ vs H Q _=>∃x dx nm g wy tot,vs=[.ref x,nm,g,wy,tot]/\H x=some (.ins t.jU dx [])/\Q .pT (upd H x (.ins t.jU dx (zP nm g wy tot)))
theorem u7(T:Txt K mg t):Ok P w K mg base 1 t.v8 t.uK ["self","name","gain","ways","total"] (BK t):=by
 refine T.uQ.fn.qw AL (λ vs H Q E h=>?_) λ cdv A outer s H vs Q E hr h=>?_
 ·obtain⟨x,dx,nm,g,wy,tot,rfl,_⟩:=h;rfl
 ·obtain⟨x,dx,nm,g,wy,tot,rfl,hx,h⟩:=h
  refine⟨_,ja (n6 (pv 0) (pv 1) rfl) (ja (n6 (pv 0) (pv 2) rfl) (ja (n6 (pv 0) (pv 3) rfl) (jf (n6 (pv 0) (pv 4) rfl)))),?_⟩;refine⟨_,rfl,_,rfl,x,_,dx,_,rfl,hx,T.jN.cl,T.rj,(by show 0<1000;decide),?_⟩;refine⟨_,rfl,_,rfl,x,_,dx,_,rfl,iZ,T.jN.cl,T.oH,(by show 1<1000;decide),?_⟩;refine⟨_,rfl,_,rfl,x,_,dx,_,rfl,iZ,T.jN.cl,T.lR,(by show 2<1000;decide),?_⟩;refine⟨_,rfl,_,rfl,x,_,dx,_,rfl,iZ,T.jN.cl,T.lD,(by show 3<1000;decide),?_⟩;rw[jL,jL,jL];exact h
def CB(t:ng):Sp:=λ vs H Q _=>∃x dx nm cs,vs=[.ref x,nm,cs]/\H x=some (.ins t.nj dx [])/\Q .pT (upd H x (.ins t.nj dx (KL nm cs)))
theorem CC(T:Txt K mg t):Ok P w K mg base 1 t.xM t.v9 ["self","name","choices"] (CB t):=by
 refine T.A0.fn.qw Ct (λ vs H Q E h=>?_) λ cdv A outer s H vs Q E hr h=>?_
 ·obtain⟨x,dx,nm,cs,rfl,_⟩:=h;rfl
 ·obtain⟨x,dx,nm,cs,rfl,hx,h⟩:=h
  refine⟨_,ja (n6 (pv 0) (pv 1) rfl) (jf (n6 (pv 0) (pv 2) rfl)),?_⟩;refine⟨_,rfl,_,rfl,x,_,dx,_,rfl,hx,T.tG.cl,T.tH,(by show 0<1000;decide),?_⟩;refine⟨_,rfl,_,rfl,x,_,dx,_,rfl,iZ,T.tG.cl,T.pD,(by show 1<1000;decide),?_⟩;rw[jL];exact h
def BL(t:ng):Sp:=λ vs H Q _=>∃x dx l,vs=[.ref x,.ref l]/\H x=some (.ins t.j5 dx [])/\Q .pT (upd H x (.ins t.j5 dx (EI l 0)))
theorem BN(T:Txt K mg t):Ok P w K mg base 1 t.vY t.uI ["self","text"] (BL t):=by
 refine T.zq.fn.qw AJ (λ vs H Q E h=>?_) λ cdv A outer s H vs Q E hr h=>?_
 ·obtain⟨x,dx,l,rfl,_⟩:=h;rfl
 ·obtain⟨x,dx,l,rfl,hx,h⟩:=h
  refine⟨_,ja (n6 (pv 0) (pv 1) rfl) (jf (n6 (pv 0) jt rfl)),?_⟩;refine⟨_,rfl,_,rfl,x,_,dx,_,rfl,hx,T.jm.cl,T.mY,(by show 0<1000;decide),?_⟩;refine⟨_,rfl,x,_,dx,_,rfl,iZ,T.jm.cl,T.jy,(by show 1<1000;decide),?_⟩;rw[jL];exact h
theorem oF{H:Hp}{x dx:Addr}{u v:HO}(h1:H x=none)(h2:H dx=none):jk H (upd (upd H dx u) x v):=λ b o e=>by
 rw[jd (je e h1),jd (je e h2)];exact e
theorem Om{X:Cx}(K:aj)(e:X.K=K:=by rfl):TY X (T3 K):=e ▸ Rw
theorem IY{X:Cx}(K:aj)(e:X.K=K:=by rfl):TY X (TZ K):=e ▸ HP
def TK(H H':Hp):Prop:=∀b xs,H b=some (.tup xs)->H' b=some (.tup xs)
theorem TK.trans{H H1 H2:Hp}(a:TK H H1)(b:TK H1 H2):TK H H2:=λ c xs e=>b c xs (a c xs e)
theorem jk.tk{H H':Hp}(s:jk H H'):TK H H':=λ b xs e=>s b _ e
theorem TK.upd{H:Hp}{p:Addr}{o u:HO}(e:H p=some u)(h:∀xs,u≠.tup xs):TK H (upd H p o):=λ b xs q=>by
 rw[jd (λ z=>by rw[z,e] at q;cases q;exact h xs rfl)];exact q
theorem Kp.tk{r dx:Addr}{C:Addr}{fs:List (Str×V)}{H H':Hp}(k:Kp r H H')(e:H r=some (.ins C dx fs)):TK H H':=λ b xs q=>k b _ (nH q e (by intro z;cases z)) q
structure wV(H:Hp)(as bn:List Addr)(ws:List (List Nat×Nat)):Prop where
 len:as.length=ws.length
 Hu:bn.length=ws.length
 at_:∀(i:Nat) (x:List Nat×Nat),ws[i]? = some x->∃a b,as[i]? = some a/\bn[i]? = some b/\H a=some (.tup [.ref b,.int (x.2:Int)])/\H b=some (.tup (jJ x.1))
theorem wV.tk{H H':Hp}{as bn:List Addr}{ws:List (List Nat×Nat)}(W:wV H as bn ws)(k:TK H H'):wV H' as bn ws:=⟨W.len,W.Hu,λ i x e=>let ⟨a,b,h1,h2,h3,h4⟩:=W.at_ i x e;⟨a,b,h1,h2,k _ _ h3,k _ _ h4⟩⟩
theorem wV.one{H:Hp}{a b:Addr}{x:List Nat×Nat}(h1:H a=some (.tup [.ref b,.int (x.2:Int)]))(h2:H b=some (.tup (jJ x.1))):wV H [a] [b] [x]:=
 ⟨rfl,rfl,λ i y e=>by
  cases i with
  |zero=>simp at e;subst e;exact⟨a,b,rfl,rfl,h1,h2⟩
  |succ i=>simp at e⟩
theorem wV.snoc{H:Hp}{as bn:List Addr}{ws:List (List Nat×Nat)}{a b:Addr}{x:List Nat×Nat}(W:wV H as bn ws)(h1:H a=some (.tup [.ref b,.int (x.2:Int)]))(h2:H b=some (.tup (jJ x.1))):wV H (as++[a]) (bn++[b]) (ws++[x]):=
 ⟨by simp[W.len],by simp[W.Hu],λ i y e=>by
  by_cases hi:i<ws.length
  ·rw[bL hi] at e;obtain⟨a',b',q1,q2,q3,q4⟩:=W.at_ i y e;exact⟨a',b',by rw[bL (by rw[W.len];exact hi)];exact q1,by rw[bL (by rw[W.Hu];exact hi)];exact q2,q3,q4⟩
  ·have hi':i<ws.length+1:=by have:=(ao.mp e).1;simpa using this
   have:i=ws.length:=by omega
   subst this;rw[bW] at e
   cases e;exact⟨a,b,by rw[<-W.len,bW],by rw[<-W.Hu,bW],h1,h2⟩⟩
def zn(w:List Nat):List Int:=w.map λ(n:Nat)=>(n:Int)
theorem vA(w:List Nat):jJ w=(zn w).map V.int:=by unfold jJ zn;rw[dw];rfl
theorem BO:∀{a b:List Nat},zn a=zn b->a=b
 |[],[],_=>rfl
 |[],_::_,h=>by simp[zn] at h
 |_::_,[],h=>by simp[zn] at h
 |x::a,y::b,h=>by
  have h':(x:Int)::zn a=(y:Int)::zn b:=h
  injection h' with h1 h2
  rw[Int.ofNat_inj.mp h1,BO h2]
theorem BP(l:List (List Nat)):(l.map zn).Nodup↔l.Nodup:=by
 rw[List.Nodup,cS]
 exact⟨λ z=>cT (λ h1 h2=>h1 (by rw[h2])) z,λ z=>cT (λ h1 h2=>h1 (BO h2)) z⟩
theorem wV.tups{H:Hp}{as bn:List Addr}{ws:List (List Nat×Nat)}(W:wV H as bn ws):pM K H bn ((ws.map λ w=>w.1).map zn):=
 ⟨by simp[W.Hu],λ i a k e1 e2=>by
  rw[ai,ai] at e2
  cases e:ws[i]? with
  |none=>rw[e] at e2;cases e2
  |some x=>
   rw[e] at e2;have e2:some (zn x.1)=some k:=e2
   cases e2;obtain⟨a',b',q1,q2,q3,q4⟩:=W.at_ i x e;rw[e1] at q2
   cases q2;rw[<-vA];exact rq.of q4⟩
theorem EC{H0 H:Hp}{l wl:Addr}{xs:List V}{o:HO}(h0:jz K H0 l xs)(hw:H0 wl=none)(h:jz K H l xs):jz K (upd H wl o) l xs:=by
 rcases h0 with h0 | h0
 ·have ne:l≠wl:=by
   rcases h0 with h0 | ⟨ob,h0⟩
   ·exact je h0 hw
   ·exact je h0 hw
  rcases h with (h | ⟨ob,h⟩) | h
  ·exact .inl (.inl (by rw[jd ne];exact h))
  ·exact .inl (.inr ⟨ob,by rw[jd ne];exact h⟩)
  ·exact .inr h
 ·exact .inr h0
def Ym(t:ng)(c:Ra61.RawChoice)(v:V)(H0 H:Hp):Prop:=∃a dx nm wy as bn,v=.ref a/\H a=some (.ins t.jU dx (zP (.ref nm) (.int c.gain) (.ref wy) (.int (c.ways.map λ w=>(w.2:Int)).sum))) /\
 H nm=some (.tup (jJ c.name))/\H wy=some (.lst (as.map V.ref))/\wV H as bn c.ways/\H0 a=none/\H0 wy=none
def BQ{α:Type}(K:aj)(t:ng)(f:List Nat->Option (α×List Nat))(rep:α->V->Hp->Hp->Prop):Sp:=λ vs H Q E=>∃r dx l bs rest,vs=[.ref r]/\yf K t H r dx l bs rest/\(∀c∈bs,c<256) /\
 Hs (f rest) (∀H',E (.ref t.jr) none H') λ x=>x.2 <:+ bs/\∀v H',yf K t H' r dx l bs x.2->Kp r H H'->rep x.1 v H H'->Q v H'
theorem DN{α:Type}{f:List Nat->Option (α×List Nat)}{rep:α->V->Hp->Hp->Prop}{H:Hp}{r dx l:Addr}{bs rest:List Nat}{Q:VK}{E:XK}(R:yf K t H r dx l bs rest)(hb:∀c∈bs,c<256)
  (hn:f rest=none->∀H',E (.ref t.jr) none H') (hs:∀x,f rest=some x->x.2 <:+ bs/\∀v H',yf K t H' r dx l bs x.2->Kp r H H'->rep x.1 v H H'->Q v H'):BQ K t f rep [.ref r] H Q E:=by
 refine⟨r,dx,l,bs,rest,rfl,R,hb,?_⟩
 cases e:f rest with
 |none=>exact hn e
 |some x=>exact hs x e
def Cb(H H':Hp):Prop:=∀b,H' b=none->H b=none
theorem Cb.refl(H:Hp):Cb H H:=λ _ e=>e
theorem Cb.trans{H H1 H2:Hp}(a:Cb H H1)(b:Cb H1 H2):Cb H H2:=λ c e=>a c (b c e)
theorem Kp.Cc{r:Addr}{H H':Hp}{o:HO}(k:Kp r H H')(e:H' r=some o):Cb H H':=λ b z=>by
 cases q:H b with
 |none=>rfl
 |some u=>
  by_cases hb:b=r
  ·rw[hb,e] at z;cases z
  ·rw[k b u hb q] at z;cases z
theorem jk.Cc{H H':Hp}(s:jk H H'):Cb H H':=λ b z=>by
 cases q:H b with
 |none=>rfl
 |some u=>rw[s b u q] at z;cases z
theorem yo{bs b:List Nat}{x}(s:b <:+ bs)(h:Rd.oS b=some x):x.2 <:+ bs:=by
 obtain⟨a,h1,h⟩:=Rd.bind_some h
 cases h1
 obtain⟨n,h3,h⟩:=Rd.bind_some h
 obtain⟨_,h⟩:=Rd.jj h
 cases h
 exact nT (jR s) h3
theorem take_snoc{α:Type}{l:List α}{i:Nat}{x:α}(h:l[i]? = some x):l.take (i+1)=l.take i++[x]:=by rw[gB,h];rfl
theorem WX{b:Addr}{n:Int}:ES [V.ref b,V.int n] 0=some (.ref b):=rfl
theorem Ol{b:Addr}{n:Int}:ES [V.ref b,V.int n] 1=some (.int n):=rfl
theorem BR(T:Txt K mg t)(kb:K.In base):Ok P w K mg base 6 t.vP t.uC ["reader"] (BQ K t Rd.kO (Ym t)):=by
 refine T.zm.fn.qw kF (λ vs H Q E h=>?_) λ cdv A outer s H vs Q E hr h=>?_
 ·obtain⟨r,dx,l,bs,rest,rfl,_⟩:=h;rfl
 ·obtain⟨r,dx,l,bs,rest,rfl,R,hb,h⟩:=h
  have IZ:=hr.mono (show 4<=5 by decide);have hr2:=hr.mono (show 2<=5 by decide);have hr1:=hr.mono (show 1<=5 by decide);refine⟨_,ja (jB (i:=1) kF.nd rfl (Or.inl rfl) (kW T.jm T.lW (pS T kb) IZ (jw xl_of) (pv 0)))<|
   ja (jB (i:=2) kF.nd rfl (Or.inl rfl) (jG T.Dm (EB T kb) hr rfl (jw xl_of) (iY (pv 0) jb)))<|
   ja (jH (jG T.mO (j8 T kb) hr1 rfl (jw xl_of) (iY (rG T.jm T.kZ (oE T) IZ jA (pv 0) (iY (j9 T.Pu rfl) jb)) jb)))<|
   ja (jB (i:=3) kF.nd rfl (Or.inl rfl) (mq (iY (jG T.AU (zC T kb) hr rfl (jw xl_of) (iY (pv 0) jb)) jb)))<|
   ja (mT nJ (pW (rG T.jm T.kZ (oE T) IZ jA (pv 0) (iY (j9 T.Pr rfl) jb)))
    (jf (jH (CZ bV cX cY vj (pv 3) (iY (jG T.AU (zC T kb) hr rfl (jw xl_of) (iY (pv 0) jb)) jb)))))<|
   ja (jH (jG T.mO (j8 T kb) hr1 rfl (jw xl_of) (iY (rG T.jm T.kZ (oE T) IZ jA (pv 0) (iY (j9 T.FG rfl) jb)) jb)))<|
   ja (jH (jG T.mO (j8 T kb) hr1 rfl (jw xl_of) (iY (jG T.tE (rm T) hr1 rfl jA (iY
     (nI (own:=[("way",4)]) rfl kF.nd (kK (pv 3)) (jO rfl) (λ _ _ _ _ _=>jS (i:=4) kF.nd rfl (Or.inl rfl)) (λ _ _ _ _ _=>kj) (λ _ _ _ _ _=>mh (Om K) (pv 4) jt (λ _ _=>rfl))) jb)) jb)))<|
   jf (jx (Ay T.jN T.uQ (u7 T) hr2 rfl jA (iY (pv 1)<|iY (pv 2)<|iY (pv 3)<|iY (jT (LS rfl) (by rfl) T.QK M2 (iY
     (nI (own:=[("way",4)]) rfl kF.nd (kK (pv 3)) (jO rfl) (λ _ _ _ _ _=>jS (i:=4) kF.nd rfl (Or.inl rfl)) (λ _ _ _ _ _=>kj) (λ _ _ _ _ _=>mh (Om K) (pv 4) jt (λ _ _=>rfl))) jb)) jb))),?_⟩
  rw[Rd.mV] at h;refine⟨_,rfl,r,dx,_,rfl,R.ins,yl,nS R hb (λ e H'=>?_) λ x e=>⟨lN R.yg e,λ v H1 R1 k1 hv=>?_⟩⟩
  ·rw[e] at h;exact h H'
  rw[e,ak] at h;have lx:=Rd.kE e;obtain⟨nm,rfl,hnm⟩:=hv;refine⟨_,rfl,nS R1 hb (λ e H'=>?_) λ g e=>⟨yo R1.yg e,λ v H2 R2 k2 hv=>?_⟩⟩
  ·rw[e] at h;exact h H'
  rw[e,ak] at h;have lg:=Rd.qA e;obtain rfl:v=.int g.1:=hv;refine⟨_,rfl,r,dx,_,rfl,R2.ins,yl,r,dx,l,bs,g.2,58,rfl,by decide,R2,hb,?_⟩;have s3:=jR (m:=58) R2.yg;have l3:=Rd.ju 58 g.2;generalize Rd.passes 58 g.2=y at h s3 l3
  refine⟨_,rfl,?_⟩
  cases hy:y.1 with
  |false=>rw[hy] at h;exact qO (h _)
  |true=>
  rw[hy,if_pos rfl] at h;refine uh ?_;have R3:=R2.put s3;have WB:TK H1 (kJ t H2 r dx l bs y.2):=(Kp.tk k2 R1.ins).trans (Kp.tk Kp.upd R2.ins);refine⟨_,rfl,nS R3 hb (λ e H'=>?_) λ w0 e=>⟨qM s3 e,λ v H4 R4 k4 hv=>?_⟩⟩
  ·rw[e] at h;exact h H'
  rw[e,ak] at h;have lw:=Rd.kP e;obtain⟨a0,b0,rfl,ha0,hb0⟩:=hv;have UT:=R.yg.length_le;have hlen:=R.len;refine⟨(by show 1<=sizeLine;decide),λ wl hwl=>?_⟩;have UU:=jh (o:=.lst [V.ref a0]) hwl;have Z7:TK H1 (upd H4 wl (.lst [V.ref a0])):=(WB.trans (Kp.tk k4 R3.ins)).trans (jk.tk UU);refine⟨λ m σ H'=>∃(acc:List (List Nat×Nat)) (as bn:List Addr) (q:List Nat),(Rd.MW w0.2).map (λ z=>(w0.1::z.1,z.2))=(Rd.MW q).map (λ z=>(acc++z.1,z.2))/\2*acc.length+q.length<=65536/\m=q.length /\
   σ=[some (.ref r),some (.ref nm),some (.int g.1),some (.ref wl),none]/\yf K t H' r dx l bs q/\H' wl=some (.lst (as.map V.ref))/\wV H' as bn acc/\TK H1 H'/\(∀b o,b≠r->H b=some o->H' b=some o)/\H wl=none,
   ⟨_,[w0.1],[a0],[b0],w0.2,rfl,?_,rfl,rfl,R4.same UU,iZ,wV.one (UU _ _ ha0) (UU _ _ hb0),Z7,?_,?_⟩,?_⟩
  ·simp;omega
  ·intro b o Cd eb;exact UU b o (k4 b o Cd (Kp.upd b o Cd (k2 b o Cd (k1 b o Cd eb))))
  ·cases q:H wl with
   |none=>rfl
   |some o=>
    have hne:wl≠r:=λ z=>by rw[z,R4.ins] at hwl;cases hwl
    rw[k4 wl o hne (Kp.upd wl o hne (k2 wl o hne (k1 wl o hne q)))] at hwl
    cases hwl
  rintro m σ H' ⟨acc,as,bn,q,inv,hq2,rfl,rfl,Rq,WY,W,Yn,kq,hw0⟩;refine⟨_,rfl,r,dx,_,rfl,Rq.ins,yl,r,dx,l,bs,q,44,rfl,by decide,Rq,hb,_,rfl,?_⟩;have hmap:((Rd.MW w0.2).bind λ r=>if (Rd.passes 59 r.2).1=true then if ((w0.1::r.1).map λ w=>w.1).Nodup then some ((⟨x.1,g.1,w0.1::r.1⟩:Ra61.RawChoice),(Rd.passes 59 r.2).2) else none else none) =
    (Rd.MW q).bind λ r=>if (Rd.passes 59 r.2).1=true then if ((acc++r.1).map λ w=>w.1).Nodup then some ((⟨x.1,g.1,acc++r.1⟩:Ra61.RawChoice),(Rd.passes 59 r.2).2) else none else none:=by
   have:=congrArg (λ o:Option (List (List Nat×Nat)×List Nat)=>o.bind λ r=>if (Rd.passes 59 r.2).1=true then if (r.1.map λ w=>w.1).Nodup then some ((⟨x.1,g.1,r.1⟩:Ra61.RawChoice),(Rd.passes 59 r.2).2) else none else none) inv;simp only[Option.bind_map] at this
   exact this
  rw[hmap,Rd.xu] at h;have sq:=jR (m:=44) Rq.yg;have lq:=Rd.ju 44 q;have Yo:=Rd.vn (m:=44) (b:=q) (by decide);have hstep:=Rd.xu q;generalize Rd.passes 44 q=y2 at h sq lq Yo hstep
  have R6:=Rq.put sq;have Z8:TK H' (kJ t H' r dx l bs y2.2):=Kp.tk Kp.upd Rq.ins;have hwr:wl≠r:=nH WY Rq.ins (by intro z;cases z);have Yp:kJ t H' r dx l bs y2.2 wl=some (.lst (as.map V.ref)):=by unfold kJ;rw[jd hwr];exact WY
  cases Lj:y2.1 with
  |true=>
   rw[Lj,if_pos rfl] at h hstep;refine uh ⟨λ σ H7=>∃(q7:List Nat) (x7:List Nat×Nat) (a7 b7:Addr),(Rd.MW w0.2).map (λ z=>(w0.1::z.1,z.2))=(Rd.MW q7).map (λ z=>((acc++[x7])++z.1,z.2))/\q7.length<q.length/\2*(acc++[x7]).length+q7.length<=65536 /\
    σ=[some (.ref r),some (.ref nm),some (.int g.1),some (.ref wl),none]/\yf K t H7 r dx l bs q7/\H7 wl=some (.lst ((as++[a7]).map V.ref))/\wV H7 (as++[a7]) (bn++[b7]) (acc++[x7])/\TK H1 H7/\(∀b o,b≠r->H b=some o->H7 b=some o),?_,?_⟩
   ·rintro σ7 H7 ⟨q7,x7,a7,b7,i1,i2,i3,rfl,i5,i6,i7,i8,i9⟩;exact⟨_,i2,acc++[x7],as++[a7],bn++[b7],q7,i1,i3,rfl,rfl,i5,i6,i7,i8,i9,hw0⟩
   ·refine⟨_,rfl,.inl ⟨rfl,_,jz.of Yp⟩,?_⟩;refine⟨_,rfl,nS R6 hb (λ e H'=>?_) λ x7 e=>⟨qM sq e,λ v H7 R7 k7 hv=>?_⟩⟩
    ·rw[e] at h;exact h H'
    obtain⟨a7,b7,rfl,ha7,hb7⟩:=hv;have P6:H7 wl=some (.lst (as.map V.ref)):=k7 wl _ hwr Yp;have S8:TK H' H7:=Z8.trans (Kp.tk k7 R6.ins);have l7:=Rd.kP e;have l8:=Yo Lj;have hasl:as.length<=65536:=by rw[W.len];omega
    refine⟨wl,_,_,rfl,rfl,P6,?_,?_⟩
    ·rw[ah,sizeLine_eq];omega
    have Yq:TK H7 (upd H7 wl (.lst (as.map V.ref++[.ref a7]))):=TK.upd P6 (by intro xs z;cases z);refine⟨x7.2,x7.1,a7,b7,?_,by omega,by simp;omega,rfl,?_,?_,?_,(Yn.trans S8).trans Yq,?_⟩
    ·rw[inv,hstep,e,ak,iz]
     congr 1;funext z;simp
    ·exact⟨by rw[jd hwr.symm];exact R7.ins,EC R.txt hw0 R7.txt,R7.yg,R7.len⟩
    ·rw[iZ,bw];rfl
    ·exact ((W.tk S8).snoc ha7 hb7).tk Yq
    ·intro b o Cd eb;rw[jd (je eb hw0)];exact k7 b o Cd (Kp.upd b o Cd (kq b o Cd eb))
  |false=>
   rw[Lj] at h;simp only[aI,if_false,ak,cQ] at h
   refine qO ?_;refine⟨_,rfl,r,dx,_,rfl,R6.ins,yl,r,dx,l,bs,y2.2,59,rfl,by decide,R6,hb,?_⟩;have s7:=jR (m:=59) R6.yg;generalize Rd.passes 59 y2.2=y3 at h s7
   refine⟨_,rfl,?_⟩
   cases Yr:y3.1 with
   |false=>rw[Yr] at h;exact qO (h _)
   |true=>
   rw[Yr,if_pos rfl] at h;refine uh ?_;have R7:=R6.put s7;rw[oZ] at R7;rw[oZ];have S8:TK H' (kJ t H' r dx l bs y3.2):=Kp.tk Kp.upd Rq.ins;have P6:kJ t H' r dx l bs y3.2 wl=some (.lst (as.map V.ref)):=by unfold kJ;rw[jd hwr];exact WY
   have W7:=W.tk S8;generalize hHc:kJ t H' r dx l bs y3.2=Hc at R7 S8 P6 W7
   have kc:∀b o,b≠r->H b=some o->Hc b=some o:=λ b o Cd eb=>by rw[<-hHc];exact Kp.upd b o Cd (kq b o Cd eb)
   have acl:acc.length<=32768:=by omega
   refine⟨_,rfl,wl,rfl,⟨_,jz.of P6⟩,λ D hD=>lU (K:=K) (a:=wl) (xs:=as.map V.ref) (λ i H8=>H8=upd Hc D (.lst ((bn.map V.ref).take i))) rfl (λ i H8 _ e8=>by rw[e8];exact jz.of (by rw[jd (je P6 hD)];exact P6)) ?_ ?_⟩
   ·rintro i v H8 hi rfl;rw[ai] at hi;obtain⟨ha,ea⟩:∃a,as[i]? = some a:=by
     cases ea:as[i]? with
     |none=>rw[ea] at hi;cases hi
     |some a=>exact⟨a,rfl⟩
    rw[ea] at hi
    cases hi;have hil:i<acc.length:=by rw[<-W7.len];exact (ao.mp ea).1
    obtain⟨a',b',q1,q2,q3,q4⟩:=W7.at_ i acc[i] (af hil);rw[ea] at q1
    cases q1;refine⟨rfl,?_⟩;refine⟨_,rfl,ha,_,_,_,rfl,rfl,rq.of (by rw[jd (je q3 hD)];exact q3),WX,(bn.map V.ref).take i,iZ,?_,?_⟩
    ·rw[aU,sizeLine_eq];have:=W7.Hu;simp;omega
    ·rw[jL,take_snoc (l:=bn.map V.ref) (x:=V.ref b') (by rw[ai,q2];rfl)]
   ·rintro H8 rfl;rw[ah,show (bn.map V.ref).take as.length=bn.map V.ref from ay (by rw[ah,W7.Hu,W7.len];exact aq _)];have ED:=jh (o:=.lst (bn.map V.ref)) hD;refine⟨D,bn,_,rfl,jz.of iZ,(W7.tk (jk.tk ED)).tups,by simp;exact acl,λ H9 P7=>?_⟩;refine⟨_,rfl,?_⟩;have end_:decide (((acc.map λ w=>w.1).map zn).Nodup)=decide ((acc.map λ w=>w.1).Nodup):=by
     rw[aS,decide_eq_true_eq,decide_eq_true_eq];exact BP _
    by_cases nd:(acc.map λ w=>w.1).Nodup
    case neg=>rw[if_neg nd] at h;exact t6 (end_.trans (decide_eq_false nd)) (h _)
    rw[if_pos nd] at h;refine tZ (end_.trans (decide_eq_true nd)) ?_;have sm:=ED.trans P7;have WZ:=sm _ _ P6;have W9:=W7.tk (jk.tk sm);refine⟨_,rfl,_,rfl,_,rfl,_,rfl,wl,rfl,⟨_,jz.of WZ⟩,λ D2 Lk=>lU (K:=K) (a:=wl) (xs:=as.map V.ref) (λ i OZ=>OZ=upd H9 D2 (.lst (((acc.map λ w=>(w.2:Int)).map V.int).take i))) rfl (λ i OZ _ UQ=>by rw[UQ];exact jz.of (by rw[jd (je WZ Lk)];exact WZ)) ?_ ?_⟩
    ·rintro i v OZ hi rfl;rw[ai] at hi;obtain⟨ha,ea⟩:∃a,as[i]? = some a:=by
      cases ea:as[i]? with
      |none=>rw[ea] at hi;cases hi
      |some a=>exact⟨a,rfl⟩
     rw[ea] at hi
     cases hi;have hil:i<acc.length:=by rw[<-W9.len];exact (ao.mp ea).1
     obtain⟨a',b',q1,q2,q3,q4⟩:=W9.at_ i acc[i] (af hil);rw[ea] at q1
     cases q1;refine⟨rfl,?_⟩;refine⟨_,rfl,ha,_,_,_,rfl,rfl,rq.of (by rw[jd (je q3 Lk)];exact q3),Ol,_,iZ,?_,?_⟩
     ·rw[aU,sizeLine_eq];simp;omega
     ·rw[jL,take_snoc (l:=(acc.map λ w=>(w.2:Int)).map V.int) (x:=V.int ((acc[i]).2:Int)) (by rw[ai,ai,af hil];rfl)]
    ·rintro OZ rfl;rw[ah,show ((acc.map λ w=>(w.2:Int)).map V.int).take as.length=(acc.map λ w=>(w.2:Int)).map V.int from ay (by rw[ah,ah,W9.len];exact aq _)];have UW:=jh (o:=.lst ((acc.map λ w=>(w.2:Int)).map V.int)) Lk;refine⟨D2,_,rfl,jz.of iZ,?_⟩;intro c dc hc hdc hne;refine⟨c,dc,_,_,_,_,rfl,iZ,rfl,?_⟩;rw[jL];have BS:=(sm.trans UW).trans (oF (u:=.own c) (v:=.ins t.jU dc (zP (.ref nm) (.int g.1) (.ref wl) (.int (acc.map λ w=>(w.2:Int)).sum))) hc hdc);refine h.2 _ _ (R7.same BS) (λ b o Cd eb=>BS b o (kc b o Cd eb)) ⟨c,dc,nm,wl,as,bn,rfl,iZ,?_,BS _ _ P6,W7.tk (jk.tk BS),?_,hw0⟩
     ·exact (jk.tk BS) _ _ (S8 _ _ (Yn _ _ hnm))
     ·exact (Kp.Cc kc R7.ins) c ((jk.Cc (sm.trans UW)) c hc)
theorem yp{H:Hp}:∀k:List Int,An K H (k.map V.int) (k.map PyData.int)
 |[]=>.nil
 |i::k=>.cons (.int i) (yp k)
theorem lay_ints:∀k:List Int,PyData.canLayAll0 (k.map PyData.int)=true
 |[]=>by rw[bO,PyData.canLayAll0]
 |i::k=>by rw[aT,PyData.canLayAll0,lay_ints k,PyData.canLay0];rfl
theorem wW:∀k:List Int,PyData.depthAll (k.map PyData.int)=0
 |[]=>by rw[bO,PyData.depthAll]
 |i::k=>by rw[aT,PyData.depthAll,wW k,PyData.depth];rfl;all_goals (intros;simp)
theorem shaped_ints(k:List Int):SeqAt.shaped (.tuple (k.map PyData.int))=true:=by
 unfold SeqAt.shaped
 rw[PyData.canLay0,PyData.depth,lay_ints,wW];rfl
theorem BU:∀k m:List Int,PyData.eqvAll (k.map PyData.int) (m.map PyData.int)=decide (k=m)
 |[],[]=>by simp[PyData.eqvAll]
 |[],_::_=>by simp[PyData.eqvAll]
 |_::_,[]=>by simp[PyData.eqvAll]
 |i::k,j::m=>by
  rw[aT,aT,PyData.eqvAll,BU k m,PyData.eqv,aS];simp
def W0(K:aj):R2:=λ x y H Q=>∃(a b:Addr) (k m:List Int),x=.ref a/\y=.ref b/\rq K H a (k.map V.int)/\rq K H b (m.map V.int)/\Q (.bl (decide (k=m))) H
theorem Sj{X:Cx}(K:aj)(hu:X.A.units+64<cLine)(e:X.K=K:=by rfl):vg X (compareOp .Eq) (W0 K):=by
 subst e
 intro pins s σ H x y v u Q I rx ry h
 obtain⟨a,b,k,m,rfl,rfl,ha,hb,q⟩:=h
 refine LV hu pins s σ H _ _ v u Q I rx ry ⟨_,_,.tup ha (yp k),.tup hb (yp m),shaped_ints k,shaped_ints m,?_⟩
 rw[PyData.eqv,BU];exact q
theorem jM{X:Cx}{e:Expr}{f:Str}{pos:Pos}{ta:TE}(K:aj)(he:PE X e ta)(hb:attributeBase e f X.env (eval e X.env)=eval e X.env)(eK:X.K=K:=by rfl):PE X (.Attribute e f pos) (LM K ta f):=eK ▸ nt he hb
structure Ea{α:Type}(R:α->Addr->Prop)(as:List Addr)(xs:List α):Prop where
 len:as.length=xs.length
 at_:∀(i:Nat) (x:α),xs[i]? = some x->∃a,as[i]? = some a/\R x a
theorem Ea.mono{α:Type}{R S:α->Addr->Prop}{as:List Addr}{xs:List α}(E:Ea R as xs)(h:∀x a,R x a->S x a):Ea S as xs:=
 ⟨E.len,λ i x e=>let ⟨a,e1,e2⟩:=E.at_ i x e;⟨a,e1,h x a e2⟩⟩
theorem Ea.nil{α:Type}{R:α->Addr->Prop}:Ea R [] []:=⟨rfl,λ i x e=>by simp at e⟩
theorem Ea.snoc{α:Type}{R:α->Addr->Prop}{as:List Addr}{xs:List α}{a:Addr}{x:α}(E:Ea R as xs)(h:R x a):Ea R (as++[a]) (xs++[x]):=
 ⟨by simp[E.len],λ i y e=>by
  by_cases hi:i<xs.length
  ·rw[bL hi] at e;obtain⟨a',q1,q2⟩:=E.at_ i y e;exact⟨a',by rw[bL (by rw[E.len];exact hi)];exact q1,q2⟩
  ·have hi':i<xs.length+1:=by have:=(ao.mp e).1;simpa using this
   obtain rfl:i=xs.length:=by omega
   rw[bW] at e
   cases e;exact⟨a,by rw[<-E.len,bW],h⟩⟩
theorem Ea.get{α:Type}{R:α->Addr->Prop}{as:List Addr}{xs:List α}(E:Ea R as xs){i:Nat}{a:Addr}(h:as[i]? = some a):∃x,xs[i]? = some x/\R x a:=by
 have hi:i<xs.length:=by rw[<-E.len];exact (ao.mp h).1
 obtain⟨a',e1,e2⟩:=E.at_ i _ (af hi)
 rw[h] at e1
 cases e1
 exact⟨_,af hi,e2⟩
theorem lS{as:List Addr}{i:Nat}{v:V}(h:(as.map V.ref)[i]? = some v):∃a,as[i]? = some a/\v=.ref a:=by
 rw[ai] at h
 cases e:as[i]? with
 |none=>rw[e] at h;cases h
 |some a=>rw[e] at h;cases h;exact⟨a,rfl,rfl⟩
abbrev DO(t:ng)(H0 H:Hp)(c:Ra61.RawChoice)(a:Addr):Prop:=Ym t c (.ref a) H0 H
theorem DO.kp{H0 H H':Hp}{c:Ra61.RawChoice}{a p:Addr}{o u:HO}(h:DO t H0 H c a)(hp:H0 p=some o)(hq:H p=some u)(hu:∀xs,u≠.tup xs)(k:Kp p H H'):DO t H0 H' c a:=by
 obtain⟨a',dx,nm,wy,as,bn,e,h1,h2,h3,h4,h5,h6⟩:=h
 have tk:TK H H':=λ b xs q=>k b _ (λ z=>by rw[z,hq] at q;cases q;exact hu xs rfl) q
 exact⟨a',dx,nm,wy,as,bn,e,k _ _ (λ z=>by rw[z,hp] at h5;cases h5) h1,tk _ _ h2,k _ _ (λ z=>by rw[z,hp] at h6;cases h6) h3,h4.tk tk,h5,h6⟩
theorem DO.same{H0 H H':Hp}{c:Ra61.RawChoice}{a:Addr}(h:DO t H0 H c a)(s:jk H H'):DO t H0 H' c a:=by
 obtain⟨a',dx,nm,wy,as,bn,e,h1,h2,h3,h4,h5,h6⟩:=h
 exact⟨a',dx,nm,wy,as,bn,e,s _ _ h1,s _ _ h2,s _ _ h3,h4.tk (jk.tk s),h5,h6⟩
theorem DO.Cc{H0 UX H:Hp}{c:Ra61.RawChoice}{a:Addr}(h:DO t H0 H c a)(s:Cb UX H0):DO t UX H c a:=by
 obtain⟨a',dx,nm,wy,as,bn,e,h1,h2,h3,h4,h5,h6⟩:=h
 exact⟨a',dx,nm,wy,as,bn,e,h1,h2,h3,h4,s _ h5,s _ h6⟩
def Gv(t:ng)(H0 H:Hp)(s:Ra61.RawState)(a cl:Addr)(nL:List Addr):Prop:=∃dx nm,H a=some (.ins t.nj dx (KL (.ref nm) (.ref cl)))/\H nm=some (.tup (jJ s.name))/\H cl=some (.lst (nL.map V.ref)) /\
 Ea (DO t H0 H) nL s.choices/\nL.Nodup/\H0 a=none/\H0 cl=none
def StI(t:ng)(s:Ra61.RawState)(v:V)(H0 H:Hp):Prop:=∃a cl nL,v=.ref a/\Gv t H0 H s a cl nL
theorem BV{b:List Nat}{x}(h:Rd.kO b=some x):x.2.length+2<=b.length:=by
 rw[Rd.mV] at h
 obtain⟨a,h1,h⟩:=Rd.bind_some h
 obtain⟨g,h2,h⟩:=Rd.bind_some h
 obtain⟨_,h⟩:=Rd.jj h
 obtain⟨y,h4,h⟩:=Rd.bind_some h
 obtain⟨r,h5,h⟩:=Rd.bind_some h
 obtain⟨_,h⟩:=Rd.jj h
 obtain⟨_,h⟩:=Rd.jj h
 cases h
 have:=Rd.kE h1;have:=Rd.qA h2;have:=Rd.ju 58 g.2;have:=Rd.kP h4;have:=Rd.uw h5;have:=Rd.ju 59 r.2
 simp only;omega
theorem u9{bs b:List Nat}{x}(s:b <:+ bs)(h:Rd.kO b=some x):x.2 <:+ bs:=by
 rw[Rd.mV] at h
 obtain⟨a,h1,h⟩:=Rd.bind_some h
 obtain⟨g,h2,h⟩:=Rd.bind_some h
 obtain⟨_,h⟩:=Rd.jj h
 obtain⟨y,h4,h⟩:=Rd.bind_some h
 obtain⟨r,h5,h⟩:=Rd.bind_some h
 obtain⟨_,h⟩:=Rd.jj h
 obtain⟨_,h⟩:=Rd.jj h
 cases h
 have s2:=qM (jR (m:=58) (yo (lN s h1) h2)) h4
 refine jR ?_
 clear h1 h2 h4
 generalize y.2=q at h5 s2
 have:∀(n:Nat) (q:List Nat),q.length<n->q <:+ bs->∀r,Rd.MW q=some r->r.2 <:+ bs:=by
  intro n
  induction n with
  |zero=>intro q h;omega
  |succ n ih=>
   intro q hq sq r e;rw[Rd.xu] at e;have hp:=Rd.ju 44 q
   split at e
   ·rename_i hx
    have hl:=Rd.vn (m:=44) (by decide) hx;obtain⟨w,e1,e⟩:=Rd.bind_some e;obtain⟨z,e2,rfl⟩:=Rd.map_some e;have:=Rd.kP e1;exact ih w.2 (by omega) (qM (jR sq) e1) z e2
   ·cases e;exact jR sq
 exact this _ q (aD _) s2 r h5
theorem CD(T:Txt K mg t):wI mg "STATE_WORD" (.ref t.pN):=⟨_,T.El,rfl⟩
theorem I0{k:List Nat}:decide (zn k=([115,116,97,116,101]:List Int))=decide (k=[115,116,97,116,101]):=by
 rw[aS,decide_eq_true_eq,decide_eq_true_eq]
 exact⟨λ z=>BO z,λ z=>by rw[z];rfl⟩
theorem Ny{H0 H:Hp}{nL:List Addr}{acc:List Ra61.RawChoice}(W:Ea (DO t H0 H) nL acc):∃nms:List Addr,nms.length=acc.length/\∀(i:Nat) (c:Ra61.RawChoice),acc[i]? = some c->∃a dx wy n,nL[i]? = some a/\nms[i]? = some n/\H a=some (.ins t.jU dx (zP (.ref n) (.int c.gain) (.ref wy) (.int (c.ways.map λ w=>(w.2:Int)).sum)))/\H n=some (.tup (jJ c.name)):=by
 have key:∀i:Fin acc.length,∃n,∃a dx wy,nL[i.1]? = some a/\H a=some (.ins t.jU dx (zP (.ref n) (.int (acc[i.1]).gain) (.ref wy) (.int ((acc[i.1]).ways.map λ w=>(w.2:Int)).sum)))/\H n=some (.tup (jJ (acc[i.1]).name)):=λ i=>by
  obtain⟨a,e,a',dx,nm,wy,as,bn,e2,h1,h2,_⟩:=W.at_ i.1 _ (af i.2)
  cases e2;exact⟨nm,a,dx,wy,e,h1,h2⟩
 refine⟨List.ofFn λ i:Fin acc.length=>gP (key i),by simp,λ i c e=>?_⟩
 obtain⟨hi,rfl⟩:=ao.mp e
 obtain⟨a,dx,wy,q1,q2,q3⟩:=fH (key ⟨i,hi⟩)
 exact⟨a,dx,wy,_,q1,by rw[List.getElem?_ofFn];simp[hi],q2,q3⟩
theorem CF(T:Txt K mg t)(kb:K.In base):Ok P w K mg base 7 t.xE t.vQ ["reader"] (BQ K t Rd.readState (StI t)):=by
 refine T.AV.fn.qw mW (λ vs H Q E h=>?_) λ cdv A outer s H vs Q E hr h=>?_
 ·obtain⟨r,dx,l,bs,rest,rfl,_⟩:=h;rfl
 ·obtain⟨r,dx,l,bs,rest,rfl,R,hb,h⟩:=h
  have IZ:=hr.mono (show 4<=6 by decide);have hr2:=hr.mono (show 2<=6 by decide);have hr1:=hr.mono (show 1<=6 by decide);refine⟨_,ja (jH (jG T.mO (j8 T kb) hr1 rfl (jw xl_of) (iY (oG (Sj K hr.units) (kW T.jm T.lW (pS T kb) IZ (jw xl_of) (pv 0)) (j9 (CD T) rfl) (kN _)) jb)))<|
   ja (jB (i:=1) mW.nd rfl (Or.inl rfl) (kW T.jm T.lW (pS T kb) IZ (jw xl_of) (pv 0)))<|
   ja (jH (jG T.mO (j8 T kb) hr1 rfl (jw xl_of) (iY (rG T.jm T.kZ (oE T) IZ jA (pv 0) (iY (j9 T.Ek rfl) jb)) jb)))<|
   ja (jB (i:=2) mW.nd rfl (Or.inl rfl) (mq jb))<|
   ja (mT nJ (DS (pW (rG T.jm T.kZ (oE T) IZ jA (pv 0) (iY (j9 T.Cy rfl) jb))))
    (jf (jH (CZ bV cX cY vj (pv 2) (iY (jG T.zm (BR T kb) hr rfl (jw xl_of) (iY (pv 0) jb)) jb)))))<|
   ja (jH (jG T.mO (j8 T kb) hr1 rfl (jw xl_of) (iY (oG nM (jT jI (by rfl) T.qi nE (iY (pv 2) jb)) (j9 T.A4 rfl) (kN _)) jb)))<|
   ja (jH (jG T.mO (j8 T kb) hr1 rfl (jw xl_of) (iY (jG T.tE (rm T) hr1 rfl jA (iY
     (nI (own:=[("choice",3)]) rfl mW.nd (kK (pv 2)) (jO rfl) (λ _ _ _ _ _=>jS (i:=3) mW.nd rfl (Or.inl rfl)) (λ _ _ _ _ _=>kj) (λ _ _ _ _ _=>jM K (pv 3) rfl)) jb)) jb)))<|
   jf (jx (Ay T.tG T.A0 (CC T) hr2 rfl jA (iY (pv 1)<|iY (pv 2)<|jb))),?_⟩
  rw[Rd.nO] at h;refine⟨_,rfl,r,dx,_,rfl,R.ins,yl,nS R hb (λ e H'=>?_) λ x e=>⟨lN R.yg e,λ v H1 R1 k1 hv=>?_⟩⟩
  ·rw[e] at h;exact h H'
  rw[e,ak] at h;have lx:=Rd.kE e;obtain⟨sw,rfl,hsw⟩:=hv;refine⟨sw,t.pN,zn x.1,_,rfl,rfl,rq.of (by rw[<-vA];exact hsw),T.Em _,_,rfl,?_⟩
  by_cases hx:x.1=[115,116,97,116,101]
  case neg=>rw[if_neg hx] at h;exact t6 (I0.trans (decide_eq_false hx)) (h _)
  rw[if_pos hx] at h;refine tZ (I0.trans (decide_eq_true hx)) ?_;refine⟨_,rfl,r,dx,_,rfl,R1.ins,yl,nS R1 hb (λ e H'=>?_) λ y e=>⟨lN R1.yg e,λ v H2 R2 k2 hv=>?_⟩⟩
  ·rw[e] at h;exact h H'
  rw[e,ak] at h;have ly:=Rd.kE e;obtain⟨nm,rfl,hnm⟩:=hv;refine⟨_,rfl,r,dx,_,rfl,R2.ins,yl,r,dx,l,bs,y.2,123,rfl,by decide,R2,hb,?_⟩;have s3:=jR (m:=123) R2.yg;have l3:=Rd.ju 123 y.2;generalize Rd.passes 123 y.2=z at h s3 l3
  refine⟨_,rfl,?_⟩
  cases hz:z.1 with
  |false=>rw[hz] at h;exact qO (h _)
  |true=>
  rw[hz,if_pos rfl] at h;refine uh ?_;have R3:=R2.put s3;have UT:=R.yg.length_le;have hlen:=R.len;have k3:Kp r H (kJ t H2 r dx l bs z.2):=(k1.trans k2).trans Kp.upd;have UY:kJ t H2 r dx l bs z.2 nm=some (.tup (jJ y.1)):=Kp.tk Kp.upd R2.ins _ _ hnm;generalize kJ t H2 r dx l bs z.2=H3 at R3 k3 UY
  refine⟨(by show 0<=sizeLine;decide),λ cl hcl=>?_⟩;have W2:=jh (o:=.lst []) hcl;have Sk:H cl=none:=Kp.Cc k3 R3.ins cl hcl;have R4:=R3.same W2;have k4:Kp r H (upd H3 cl (.lst [])):=k3.trans (Kp.of W2);have UZ:=W2 _ _ UY;have Sl:upd H3 cl (.lst []) cl=some (.lst []):=iZ;show Jo _ _ _ _ (upd H3 cl (.lst []));generalize upd H3 cl (.lst [])=H4 at R4 k4 UZ Sl
  refine⟨λ m σ H'=>∃(acc:List Ra61.RawChoice) (nL:List Addr) (q:List Nat),Rd.MC z.2=(Rd.MC q).map (λ u=>(acc++u.1,u.2))/\2*acc.length+q.length<=65536/\m=q.length /\
   σ=[some (.ref r),some (.ref nm),some (.ref cl),none]/\yf K t H' r dx l bs q/\H' cl=some (.lst (nL.map V.ref))/\Ea (DO t H4 H') nL acc/\nL.Nodup/\(∀b o,b≠r->H b=some o->H' b=some o)/\H' nm=some (.tup (jJ y.1))/\Cb H4 H'/\(∀a∈nL,∃o,H' a=some o),
   ⟨_,[],[],z.2,?_,?_,rfl,rfl,R4,Sl,Ea.nil,iu,k4,UZ,Cb.refl _,by simp⟩,?_⟩
  ·simp
  ·simp;omega
  rintro m σ H' ⟨acc,nL,q,inv,hq2,rfl,rfl,Rq,Ys,W,nd,kq,hnq,lq4,onq⟩;refine⟨_,rfl,r,dx,_,rfl,Rq.ins,yl,r,dx,l,bs,q,125,rfl,by decide,Rq,hb,_,rfl,?_⟩;have hmap:((Rd.MC z.2).bind λ c=>if c.1.length<=8 then if (c.1.map λ c=>c.name).Nodup then some ((⟨y.1,c.1⟩:Ra61.RawState),c.2) else none else none) =
    (Rd.MC q).bind λ c=>if (acc++c.1).length<=8 then if ((acc++c.1).map λ c=>c.name).Nodup then some ((⟨y.1,acc++c.1⟩:Ra61.RawState),c.2) else none else none:=by
   rw[inv];simp only[Option.bind_map];rfl
  rw[hmap,Rd.xw] at h;have sq:=jR (m:=125) Rq.yg;have lq:=Rd.ju 125 q;have hstep:=Rd.xw q;generalize Rd.passes 125 q=y2 at h sq lq hstep
  have R6:=Rq.put sq;have W3:cl≠r:=nH Ys Rq.ins (by intro z;cases z);have hc6:kJ t H' r dx l bs y2.2 cl=some (.lst (nL.map V.ref)):=by unfold kJ;rw[jd W3];exact Ys
  have W6:Ea (DO t H4 (kJ t H' r dx l bs y2.2)) nL acc:=W.mono λ x a h=>h.kp R4.ins Rq.ins (by intro xs z;cases z) Kp.upd
  have k6:Kp r H' (kJ t H' r dx l bs y2.2):=Kp.upd;have W4:kJ t H' r dx l bs y2.2 nm=some (.tup (jJ y.1)):=Kp.tk k6 Rq.ins _ _ hnq;have U0:Cb H' (kJ t H' r dx l bs y2.2):=Kp.Cc k6 R6.ins;have W5:∀a∈nL,∃o,kJ t H' r dx l bs y2.2 a=some o:=λ a ha=>by
   by_cases z:a=r
   ·exact⟨_,by rw[z];exact R6.ins⟩
   ·obtain⟨o,eo⟩:=onq a ha;exact⟨o,k6 _ _ z eo⟩
  generalize kJ t H' r dx l bs y2.2=H6 at R6 hc6 W6 k6 W4 U0 W5
  cases Lj:y2.1 with
  |false=>
   rw[Lj] at h hstep;simp only[aI,if_false] at h hstep
   refine⟨λ σ H7=>∃(q7:List Nat) (x7:Ra61.RawChoice) (a7:Addr),Rd.MC z.2=(Rd.MC q7).map (λ u=>((acc++[x7])++u.1,u.2))/\q7.length<q.length/\2*(acc++[x7]).length+q7.length<=65536 /\
    σ=[some (.ref r),some (.ref nm),some (.ref cl),none]/\yf K t H7 r dx l bs q7/\H7 cl=some (.lst ((nL++[a7]).map V.ref))/\Ea (DO t H4 H7) (nL++[a7]) (acc++[x7])/\(nL++[a7]).Nodup/\(∀b o,b≠r->H b=some o->H7 b=some o)/\H7 nm=some (.tup (jJ y.1))/\Cb H4 H7/\(∀a∈nL++[a7],∃o,H7 a=some o),?_,?_⟩
   ·rintro σ7 H7 ⟨q7,x7,a7,i1,i2,i3,rfl,i5,i6,i7,i8,i9,Xa,i11,i12⟩;exact⟨_,i2,acc++[x7],nL++[a7],q7,i1,i3,rfl,rfl,i5,i6,i7,i8,i9,Xa,i11,i12⟩
   ·refine⟨_,rfl,.inl ⟨rfl,_,jz.of hc6⟩,?_⟩;refine⟨_,rfl,DN R6 hb (λ e H'=>?_) λ x7 e=>⟨u9 sq e,λ v H7 R7 k7 hv=>?_⟩⟩
    ·rw[e] at h;exact h H'
    have l7:x7.2.length+2<=y2.2.length:=BV e;obtain⟨a7,dx7,nm7,wy7,as7,bn7,rfl,hch⟩:=hv;have Xb:H7 cl=some (.lst (nL.map V.ref)):=k7 cl _ W3 hc6;have Yt:nL.length<=65536:=by rw[W.len];omega
    have Xc:DO t H6 H7 x7.1 a7:=⟨a7,dx7,nm7,wy7,as7,bn7,rfl,hch⟩
    have U1:Cb H4 H6:=lq4.trans U0;refine⟨cl,_,_,rfl,rfl,Xb,?_,?_⟩
    ·rw[ah,sizeLine_eq];omega
    have k8:Kp cl H7 (upd H7 cl (.lst (nL.map V.ref++[.ref a7]))):=Kp.upd;have Xd:Cb H7 (upd H7 cl (.lst (nL.map V.ref++[.ref a7]))):=Kp.Cc k8 iZ;have Sm:Ea (DO t H4 H7) (nL++[a7]) (acc++[x7.1]):=Ea.snoc (W6.mono λ x a h=>h.kp R4.ins R6.ins (by intro xs z;cases z) k7) (Xc.Cc U1);refine⟨x7.2,x7.1,a7,?_,by omega,by simp;omega,rfl,?_,?_,Sm.mono λ x a h=>h.kp Sl Xb (by intro xs z;cases z) k8,?_,?_,?_,(U1.trans (Kp.Cc k7 R7.ins)).trans Xd,?_⟩
    ·rw[inv,hstep,e,ak,iz]
     congr 1;funext z;simp
    ·exact⟨by rw[jd W3.symm];exact R7.ins,EC R.txt Sk R7.txt,R7.yg,R7.len⟩
    ·rw[iZ,bw];rfl
    ·rw[cU];refine⟨nd,by simp,λ a ha b hb e2=>?_⟩;obtain rfl:b=a7:=by simpa using hb
     obtain⟨o,eo⟩:=W5 a ha;rw[e2,hch.2.2.2.2.1] at eo
     cases eo
    ·intro b o Cd eb;rw[jd (je eb Sk)];exact k7 b o Cd (k6 b o Cd (kq b o Cd eb))
    ·exact TK.upd Xb (by intro xs z;cases z) _ _ (Kp.tk k7 R6.ins _ _ W4)
    ·intro a ha;have:∃o,H7 a=some o:=by
      rcases bu.mp ha with ha | ha
      ·obtain⟨o,eo⟩:=W5 a ha
       by_cases z:a=r
       ·exact⟨_,by rw[z];exact R7.ins⟩
       ·exact⟨o,k7 _ _ z eo⟩
      ·obtain rfl:a=a7:=by simpa using ha
       exact⟨_,hch.1⟩
     obtain⟨o,eo⟩:=this
     by_cases z:a=cl
     ·exact⟨_,by rw[z];exact iZ⟩
     ·exact⟨o,by rw[jd z];exact eo⟩
  |true=>
   rw[Lj] at h;simp only[if_true,ak,cQ] at h
   refine qO ?_;have acl:acc.length<=32768:=by omega
   refine⟨_,rfl,cl,_,rfl,.inl (jz.of hc6),_,_,rfl,rfl,_,rfl,?_⟩;have e8:decide (((nL.map V.ref).length:Int)<=8)=decide (acc.length<=8):=by rw[ah,W.len];exact qk _ 8
   by_cases h8:acc.length<=8
   case neg=>rw[if_neg h8] at h;exact t6 (e8.trans (decide_eq_false h8)) (h _)
   rw[if_pos h8] at h;refine tZ (e8.trans (decide_eq_true h8)) ?_;have sm8':∀{D:Addr} {xs:List V},H6 D=none->jk H6 (upd H6 D (.lst xs)):=λ hD=>jh hD
   obtain⟨nms,N6⟩:=Ny W6;refine⟨_,rfl,cl,rfl,⟨_,jz.of hc6⟩,λ D hD=>lU (K:=K) (a:=cl) (xs:=nL.map V.ref) (λ i H8=>H8=upd H6 D (.lst ((nms.map V.ref).take i))) rfl (λ i H8 _ e8=>by rw[e8];exact jz.of (by rw[jd (je hc6 hD)];exact hc6)) ?_ ?_⟩
   ·rintro i v H8 hi rfl;obtain⟨ha,ea,rfl⟩:=lS hi;have hil:i<acc.length:=by rw[<-W6.len];exact (ao.mp ea).1
    obtain⟨a',Ll,wy,n,q1,q2,q3,q4⟩:=N6.2 i acc[i] (af hil);rw[ea] at q1
    cases q1;refine⟨rfl,?_⟩;refine⟨_,rfl,ha,_,Ll,_,_,rfl,(by rw[jd (je q3 hD)];exact q3),T.jN.cl,T.rj,FZ _ _ _ _,(nms.map V.ref).take i,iZ,?_,?_⟩
    ·rw[aU,sizeLine_eq];have:=N6.1;simp;omega
    ·rw[jL,take_snoc (l:=nms.map V.ref) (x:=V.ref n) (by rw[ai,q2];rfl)]
   ·rintro H8 rfl;rw[ah,show (nms.map V.ref).take nL.length=nms.map V.ref from ay (by rw[ah,N6.1,W6.len];exact aq _)];have ED:=jh (o:=.lst (nms.map V.ref)) hD;refine⟨D,nms,(acc.map λ c=>c.name).map zn,rfl,jz.of iZ,⟨by simp[N6.1],λ i a k e1 e2=>?_⟩,by simp;exact acl,λ H9 P7=>?_⟩
    ·rw[ai,ai] at e2
     cases e:acc[i]? with
     |none=>rw[e] at e2;cases e2
     |some x=>
      rw[e] at e2;have e2:some (zn x.name)=some k:=e2
      cases e2;obtain⟨a',Ll,wy,n,q1,q2,q3,q4⟩:=N6.2 i x e;rw[e1] at q2
      cases q2;rw[<-vA];exact rq.of (ED _ _ q4)
    refine⟨_,rfl,?_⟩;have end_:decide (((acc.map λ c=>c.name).map zn).Nodup)=decide ((acc.map λ c=>c.name).Nodup):=by
     rw[aS,decide_eq_true_eq,decide_eq_true_eq];exact BP _
    by_cases P8:(acc.map λ c=>c.name).Nodup
    case neg=>rw[if_neg P8] at h;exact t6 (end_.trans (decide_eq_false P8)) (h _)
    rw[if_pos P8] at h;refine tZ (end_.trans (decide_eq_true P8)) ?_;have sm:=ED.trans P7;refine⟨_,rfl,_,rfl,?_⟩;intro c dc hc hdc hne;refine⟨c,dc,_,_,rfl,iZ,rfl,?_⟩;rw[jL];have BS:=sm.trans (oF (u:=.own c) (v:=.ins t.nj dc (KL (.ref nm) (.ref cl))) hc hdc);have U3:Kp r H H6:=λ b o Cd eb=>k6 b o Cd (kq b o Cd eb)
    refine h.2 _ _ (R6.same BS) (λ b o Cd eb=>BS b o (U3 b o Cd eb)) ⟨c,cl,nL,rfl,dc,nm,iZ,BS _ _ W4,BS _ _ hc6,?_,nd,?_,Sk⟩
    ·exact W6.mono λ x a h=>(h.same BS).Cc (Kp.Cc k4 R4.ins)
    ·exact (Kp.Cc U3 R6.ins) c ((jk.Cc sm) c hc)
def Xe(K:aj):R2:=λ x y H Q=>∃(a l:Addr) (k:List Int) (as:List Addr) (kl:List (List Int)),x=.ref a/\rq K H a (k.map V.int)/\y=.ref l/\jz K H l (as.map V.ref)/\pM K H as kl /\
  Q (.bl (decide (k∈kl))) H
theorem P9{X:Cx}(K:aj)(hu:X.A.units+64<cLine)(e:X.K=K:=by rfl):vg X (compareOp .In) (Xe K):=e ▸ RO hu
def Qa(K:aj):V->List V->Hp->VK->Prop:=λ x xs H Q=>∃(a l:Addr) (k:List Int) (as:List Addr) (kl:List (List Int)) (j:Nat),x=.ref l/\xs=[.ref a]/\rq K H a (k.map V.int)/\jz K H l (as.map V.ref)/\pM K H as kl /\
  kl[j]? = some k/\(∀m,m<j->kl[m]?≠some k)/\Q (.int (j:Nat)) H
theorem Hv{X:Cx}(K:aj)(hu:X.A.units+64<cLine)(e:X.K=K:=by rfl):VA X "list.index" (Qa K):=e ▸ J4 hu
theorem Sn{X:Cx}(K:aj){o e:Expr}{es:List Expr}{to:TE}{t:TA}{name:Str}{apos cpos:Pos}{T id:String}{r:V->List V->Hp->VK->Prop}(pa:PlainAttrs T)(slot:Slot T name id)(hty:typeOf (.builtin id)=pure (.type "method_descriptor"))(hm:VA X id r)(ho:PE X o to)(ha:PA X (e::es) t)(eK:X.K=K:=by rfl)
  (hbase:attributeBase o name X.env (eval o X.env)=eval o X.env:=by rfl)
  (hfew:((backTo cpos (starEach (e::es) X.env)).all (λ x=>!x.1)&&(backToKw cpos (keywordEach [] X.env)).all (λ x=>x.1.isSome)
   && decide ((e::es).length+([]:List Keyword).length+(if ([]:List Keyword).isEmpty then 0 else 1)<30))=true:=by rfl)
  (hline:(apos.endLine==cpos.line)=true:=by rfl) (hs:starEach (e::es) X.env=(false,eval e X.env)::starEach es X.env:=by rfl) (hplain:(backTo cpos (starEach es X.env)).any (·.1)=false:=by rfl) :
  PE X (.Call (.Attribute o name apos) (e::es) [] cpos) (XN K T r to t):=eK ▸ CZ pa slot hty hm ho ha hbase hfew hline hs hplain
def KN(H:Hp)(x:Nat×Nat)(a:Addr):Prop:=H a=some (.tup [.int (x.1:Int),.int (x.2:Int)])
theorem Nz{H H':Hp}{a:Addr}{xs:List V}(e:jk H H')(h:rq K H a xs):rq K H' a xs:=by
 rcases h with (h | ⟨o,h⟩) | h
 ·exact .inl (.inl (e _ _ h))
 ·exact .inl (.inr ⟨o,e _ _ h⟩)
 ·exact .inr h
theorem Hw{names:List (List Nat)}{x:List Nat}(h:names.contains x=true):∃j,Rd.placeOf names x=j/\(names.map zn)[j]? = some (zn x)/\∀m,m<j->(names.map zn)[m]?≠some (zn x):=by
 have hm:x∈names:=by simpa using h
 cases e:names.findIdx? (λ y=>y==x) with
 |none=>
  rw[eH] at e;have:=e x hm;simp at this
 |some j=>
  refine⟨j,by unfold Rd.placeOf;rw[e];rfl,?_,?_⟩
  ·rw[bX] at e;obtain⟨h1,h2,_⟩:=e;have h2:names[j]=x:=by simpa using h2
   rw[ai,af h1,h2];rfl
  ·intro m hm e2;rw[bX] at e;obtain⟨h1,_,h3⟩:=e;have:=h3 m hm;rw[ai,af (by omega)] at e2;have e2:some (zn names[m])=some (zn x):=e2;exact this (by simpa using BO (aR e2))
theorem Sq{names:List (List Nat)}{x:List Nat}:decide (zn x∈names.map zn)=names.contains x:=by
 rw[aS,decide_eq_true_eq]
 simp only[az,List.contains_iff_mem]
 exact⟨λ⟨y,h1,h2⟩=>BO h2 ▸ h1,λ h=>⟨x,h,rfl⟩⟩
theorem pM.tk{H H':Hp}{as:List Addr}{kl:List (List Int)}(T:pM K H as kl)(s:jk H H'):pM K H' as kl:=⟨T.len,λ i a k e1 e2=>Nz s (T.at_ i a k e1 e2)⟩
def KO(K:aj)(t:ng):Sp:=λ vs H Q E=>∃(wl nl:Addr) (as bn S9:List Addr) (ws:List (List Nat×Nat)) (names:List (List Nat)),vs=[.ref wl,.ref nl]/\jz K H wl (as.map V.ref)/\wV H as bn ws /\
 jz K H nl (S9.map V.ref)/\pM K H S9 (names.map zn)/\ws.length<=32768 /\
 if (ws.all λ w=>names.contains w.1)=true then (∀(p:Addr) (ps:List Addr) H',jk H H'->H p=none->H' p=some (.lst (ps.map V.ref))->Ea (KN H') ps (ws.map λ w=>(Rd.placeOf names w.1,w.2))->Q (.ref p) H') else ∀H',E (.ref t.jr) none H'
theorem KP(T:Txt K mg t)(kb:K.In base):Ok P w K mg base 2 t.rM t.qC ["ways","names"] (KO K t):=by
 refine T.uO.fn.qw lI (λ vs H Q E h=>?_) λ cdv A outer s H vs Q E hr h=>?_
 ·obtain⟨wl,nl,as,bn,S9,ws,names,rfl,_⟩:=h;rfl
 ·obtain⟨wl,nl,as,bn,S9,ws,names,rfl,hwl,W,hnl,N,hn,h⟩:=h
  refine⟨_,ja (jH (jG T.mO (j8 T kb) hr rfl (jw xl_of) (iY (jT (LU rfl) (by rfl) T.QL M3 (iY
    (nI (own:=[("way",2)]) rfl lI.nd (kK (pv 0)) (jO rfl) (λ _ _ _ _ _=>jS (i:=2) lI.nd rfl (Or.inl rfl)) (λ _ _ _ _ _=>kj)
     (λ _ _ _ _ _=>oG (P9 K hr.units) (mh (Om K) (pv 2) jt (λ _ _=>rfl)) (pv 1) (by with_unfolding_all rfl))) jb)) jb)))<|
   jf (jx (nI (own:=[("way",2)]) rfl lI.nd (kK (pv 0)) (jO rfl) (λ _ _ _ _ _=>jS (i:=2) lI.nd rfl (Or.inl rfl)) (λ _ _ _ _ _=>kj)
     (λ _ _ _ _ _=>LN (iY (Sn K bV gO PySem.F.type_list_index (Hv K hr.units) (pv 1) (iY (mh (Om K) (pv 2) jt (λ _ _=>rfl)) jb))<|iY (mh (Om K) (pv 2) jt (λ _ _=>rfl)) jb)))),?_⟩
  obtain hsz:ws.length<sizeLine:=by rw[sizeLine_eq];omega
  refine⟨_,rfl,wl,rfl,⟨_,hwl⟩,λ D hD=>lU (K:=K) (a:=wl) (xs:=as.map V.ref) (λ i H8=>H8=upd H D (.lst (((ws.map λ w=>names.contains w.1).map V.bl).take i))) rfl (λ i H8 _ e8=>by rw[e8];exact jk.seq (jh hD) hwl) ?_ ?_⟩
  ·rintro i v H8 hi rfl;obtain⟨ha,ea,rfl⟩:=lS hi;have hil:i<ws.length:=by rw[<-W.len];exact (ao.mp ea).1
   obtain⟨a',b',q1,q2,q3,q4⟩:=W.at_ i ws[i] (af hil);rw[ea] at q1
   cases q1;have sm:=jh (o:=.lst (((ws.map λ w=>names.contains w.1).map V.bl).take i)) hD;refine⟨rfl,?_⟩;refine⟨_,rfl,ha,_,_,_,rfl,rfl,rq.of (sm _ _ q3),WX,_,rfl,b',nl,zn (ws[i]).1,S9,names.map zn,rfl,rq.of (by rw[<-vA];exact sm _ _ q4),rfl,jk.seq sm hnl,pM.tk N sm,_,iZ,?_,?_⟩
   ·rw[aU];simp;omega
   ·rw[jL,Sq,take_snoc (l:=(ws.map λ w=>names.contains w.1).map V.bl) (x:=V.bl (names.contains (ws[i]).1)) (by rw[ai,ai,af hil];rfl)]
  ·rintro H8 rfl;rw[ah,show ((ws.map λ w=>names.contains w.1).map V.bl).take as.length=(ws.map λ w=>names.contains w.1).map V.bl from ay (by rw[ah,ah,W.len];exact aq _)];have ED:=jh (o:=.lst ((ws.map λ w=>names.contains w.1).map V.bl)) hD;refine⟨D,_,rfl,jz.of iZ,_,rfl,?_⟩;have e8:((ws.map λ w=>names.contains w.1).all id)=(ws.all λ w=>names.contains w.1):=by rw[iQ];rfl
   cases hall:(ws.all λ w=>names.contains w.1) with
   |false=>rw[hall] at h;exact t6 (e8.trans hall) (h _)
   |true=>
   rw[hall,if_pos rfl] at h;refine tZ (e8.trans hall) ?_;have Ss:=jk.seq ED hwl;have W8:=W.tk (jk.tk ED);have Su:=jk.seq ED hnl;have N8:=pM.tk N ED;generalize upd H D (.lst ((ws.map λ w=>names.contains w.1).map V.bl))=H8 at ED Ss W8 Su N8
   refine⟨_,rfl,wl,rfl,⟨_,Ss⟩,λ D2 Lk=>lU (K:=K) (a:=wl) (xs:=as.map V.ref) (λ i H9=>∃ps:List Addr,ps.length=i/\jk H8 H9/\H9 D2=some (.lst (ps.map V.ref))/\Ea (KN H9) ps ((ws.map λ w=>(Rd.placeOf names w.1,w.2)).take i))
    ⟨[],rfl,jh Lk,iZ,Ea.nil⟩ (λ i H9 _ ⟨_,_,e,_,_⟩=>jk.seq e Ss) ?_ ?_⟩
   ·rintro i v H9 hi ⟨ps,hps,s9,h9,E9⟩;obtain⟨ha,ea,rfl⟩:=lS hi;have hil:i<ws.length:=by rw[<-W.len];exact (ao.mp ea).1
    obtain⟨a',b',q1,q2,q3,q4⟩:=W8.at_ i ws[i] (af hil);rw[ea] at q1
    cases q1;obtain⟨j,hj,hj1,hj2⟩:=Hw (names:=names) (x:=(ws[i]).1) (by
     have:=aY.mp hall ws[i] (aV hil);exact this)
    have hix:=rq.of (K:=K) (s9 _ _ q3);refine⟨rfl,?_⟩;refine⟨_,rfl,.inl ⟨rfl,_,jk.seq s9 Su⟩,_,rfl,ha,_,_,_,rfl,rfl,hix,WX,b',nl,zn (ws[i]).1,S9,names.map zn,j,rfl,rfl,rq.of (by rw[<-vA];exact s9 _ _ q4),jk.seq s9 Su,pM.tk N8 s9,hj1,hj2,_,rfl,ha,_,_,_,rfl,rfl,hix,Ol,(by show 2<=sizeLine;decide),λ p hp=>?_⟩;have sp:=jh (o:=.tup [.int (j:Int),.int ((ws[i]).2:Int)]) hp;refine⟨ps.map V.ref,sp _ _ h9,?_,ps++[p],by simp[hps],?_,?_,?_⟩
    ·rw[ah,hps];omega
    ·intro b o eb;rw[jd (je eb Lk)];exact sp _ _ (s9 _ _ eb)
    ·rw[iZ,bw];rfl
    ·have Wy:TK (upd H9 p (.tup [.int (j:Int),.int ((ws[i]).2:Int)])) (upd (upd H9 p (.tup [.int (j:Int),.int ((ws[i]).2:Int)])) D2 (.lst (ps.map V.ref++[.ref p]))):=TK.upd (sp _ _ h9) (by intro xs z;cases z);rw[take_snoc (l:=ws.map λ w=>(Rd.placeOf names w.1,w.2)) (x:=(j,(ws[i]).2)) (by rw[ai,af hil,<-hj];rfl)];exact Ea.snoc (E9.mono λ x a h=>Wy _ _ (sp _ _ h)) (Wy _ _ iZ)
   ·rintro H9 ⟨ps,hps,s9,h9,E9⟩;rw[ah] at hps E9;rw[ay (by rw[ah,W.len];exact aq _)] at E9;exact h D2 ps H9 (ED.trans s9) (jk.Cc ED _ Lk) h9 E9
theorem BW{α:Type}{a:α}{l:List α}(h:a∈l):∃i:Nat,l[i]? = some a:=cF h
theorem Gv.kp{H0 H H':Hp}{s:Ra61.RawState}{a cl p:Addr}{nL:List Addr}{o u:HO}(h:Gv t H0 H s a cl nL)(hp:H0 p=some o)(hq:H p=some u)(hu:∀xs,u≠.tup xs)(k:Kp p H H'):Gv t H0 H' s a cl nL:=by
 obtain⟨dx,nm,h1,h2,h3,h4,h5,h6,h7⟩:=h
 exact⟨dx,nm,k _ _ (λ z=>by rw[z,hp] at h6;cases h6) h1,k _ _ (λ z=>by rw[z,hq] at h2;cases h2;exact hu _ rfl) h2,k _ _ (λ z=>by rw[z,hp] at h7;cases h7) h3,h4.mono λ x a h=>h.kp hp hq hu k,h5,h6,h7⟩
theorem Gv.same{H0 H H':Hp}{s:Ra61.RawState}{a cl:Addr}{nL:List Addr}(h:Gv t H0 H s a cl nL)(k:jk H H'):Gv t H0 H' s a cl nL:=by
 obtain⟨dx,nm,h1,h2,h3,h4,h5,h6,h7⟩:=h
 exact⟨dx,nm,k _ _ h1,k _ _ h2,k _ _ h3,h4.mono λ x a h=>h.same k,h5,h6,h7⟩
theorem Gv.Cc{H0 UX H:Hp}{s:Ra61.RawState}{a cl:Addr}{nL:List Addr}(h:Gv t H0 H s a cl nL)(k:Cb UX H0):Gv t UX H s a cl nL:=by
 obtain⟨dx,nm,h1,h2,h3,h4,h5,h6,h7⟩:=h
 exact⟨dx,nm,h1,h2,h3,h4.mono λ x a h=>h.Cc k,h5,k _ h6,k _ h7⟩
theorem Gv.here{H0 H:Hp}{s:Ra61.RawState}{a cl:Addr}{nL:List Addr}(h:Gv t H0 H s a cl nL){c:Addr}(hc:c∈nL):∃o,H c=some o:=by
 obtain⟨dx,nm,h1,h2,h3,h4,h5,h6,h7⟩:=h
 obtain⟨i,hi⟩:=BW hc
 obtain⟨x,_,a',dx,nm,wy,as,bn,e,q,_⟩:=h4.get hi
 cases e
 exact⟨_,q⟩
theorem Gv.new{H0 H:Hp}{s:Ra61.RawState}{a cl:Addr}{nL:List Addr}(h:Gv t H0 H s a cl nL){c:Addr}(hc:c∈nL):H0 c=none:=by
 obtain⟨dx,nm,h1,h2,h3,h4,h5,h6,h7⟩:=h
 obtain⟨i,hi⟩:=BW hc
 obtain⟨x,_,a',dx,nm,wy,as,bn,e,_,_,_,_,q,_⟩:=h4.get hi
 cases e
 exact q
abbrev SX:=Ra61.RawState×Addr×List Addr
abbrev QU(t:ng)(H0 H:Hp)(nU:List Addr)(sx:List SX):Prop:=Ea (λ x a=>Gv t H0 H x.1 a x.2.1 x.2.2) nU sx
def Lm(t:ng)(H:Hp)(c:Ra61.Choice)(a:Addr):Prop:=∃dx nm wy ps,H a=some (.ins t.jU dx (zP (.ref nm) (.int c.gain) (.ref wy) (.int (c.ways.map λ w=>(w.2:Int)).sum)))/\H nm=some (.tup (jJ c.name))/\H wy=some (.lst (ps.map V.ref))/\Ea (KN H) ps c.ways
def Sv(t:ng)(H:Hp)(s:Ra61.State)(a:Addr):Prop:=∃dx nm cl nL,H a=some (.ins t.nj dx (KL (.ref nm) (.ref cl)))/\H nm=some (.tup (jJ s.name))/\H cl=some (.lst (nL.map V.ref))/\Ea (Lm t H) nL s.choices
def NB(t:ng)(net:Ra61.Net)(v:V)(H:Hp):Prop:=∃sl nU,v=.ref sl/\H sl=some (.lst (nU.map V.ref))/\Ea (Sv t H) nU net
theorem Lm.same{H H':Hp}{c:Ra61.Choice}{a:Addr}(h:Lm t H c a)(k:jk H H'):Lm t H' c a:=by
 obtain⟨dx,nm,wy,ps,h1,h2,h3,h4⟩:=h
 exact⟨dx,nm,wy,ps,k _ _ h1,k _ _ h2,k _ _ h3,h4.mono λ x a h=>k _ _ h⟩
theorem Sv.same{H H':Hp}{c:Ra61.State}{a:Addr}(h:Sv t H c a)(k:jk H H'):Sv t H' c a:=by
 obtain⟨dx,nm,wy,ps,h1,h2,h3,h4⟩:=h
 exact⟨dx,nm,wy,ps,k _ _ h1,k _ _ h2,k _ _ h3,h4.mono λ x a h=>h.same k⟩
theorem Lm.ki{H H':Hp}{c:Ra61.Choice}{a p C dp:Addr}{fs:List (Str×V)}(h:Lm t H c a)(hp:H p=some (.ins C dp fs))(hn:a≠p)(k:Kp p H H'):Lm t H' c a:=by
 obtain⟨dx,nm,wy,ps,h1,h2,h3,h4⟩:=h
 exact⟨dx,nm,wy,ps,k _ _ hn h1,Kp.tk k hp _ _ h2,k _ _ (nH h3 hp (by intro z;cases z)) h3,h4.mono λ x a h=>Kp.tk k hp _ _ h⟩
theorem DO.ki{H0 H H':Hp}{c:Ra61.RawChoice}{a p C dp:Addr}{fs:List (Str×V)}(h:DO t H0 H c a)(hp:H p=some (.ins C dp fs))(hn:a≠p)(k:Kp p H H'):DO t H0 H' c a:=by
 obtain⟨a',dx,nm,wy,as,bn,e,h1,h2,h3,h4,h5,h6⟩:=h
 cases e
 exact⟨a,dx,nm,wy,as,bn,rfl,k _ _ hn h1,Kp.tk k hp _ _ h2,k _ _ (nH h3 hp (by intro z;cases z)) h3,h4.tk (Kp.tk k hp),h5,h6⟩
def Tc(names:List (List Nat))(c:Ra61.RawChoice):Ra61.Choice:=⟨c.name,c.gain,c.ways.map λ w=>(Rd.placeOf names w.1,w.2)⟩
def Ja(t:ng)(H0 H:Hp)(names:List (List Nat))(dn:List Addr)(x:SX)(a:Addr):Prop:=∃dx nm,H a=some (.ins t.nj dx (KL (.ref nm) (.ref x.2.1)))/\H nm=some (.tup (jJ x.1.name))/\H x.2.1=some (.lst (x.2.2.map V.ref)) /\
 Ea (λ c a=>(a∈dn->Lm t H (Tc names c) a/\(c.ways.all λ w=>names.contains w.1)=true)/\(¬a∈dn->DO t H0 H c a)) x.2.2 x.1.choices
theorem Ja.same{H0 H H':Hp}{names:List (List Nat)}{dn:List Addr}{x:SX}{a:Addr}(h:Ja t H0 H names dn x a)(k:jk H H'):Ja t H0 H' names dn x a:=by
 obtain⟨dx,nm,h1,h2,h3,h4⟩:=h
 exact⟨dx,nm,k _ _ h1,k _ _ h2,k _ _ h3,h4.mono λ x a h=>⟨λ q=>⟨(h.1 q).1.same k,(h.1 q).2⟩,λ q=>(h.2 q).same k⟩⟩
theorem U4{a b c d e f:V}:zP a b c d≠KL e f:=λ z=>by
 have h1:=ym a b c d
 rw[z] at h1
 unfold KL at h1
 rw[jn,if_neg (by decide),jn,if_neg (by decide)] at h1
 cases h1
theorem Ja.step{H0 H H':Hp}{names:List (List Nat)}{dn:List Addr}{x:SX}{a p dp:Addr}{n g wv tv:V}{c:Ra61.RawChoice}(h:Ja t H0 H names dn x a)(hp:H p=some (.ins t.jU dp (zP n g wv tv)))(k:Kp p H H')
  (new:∀i:Nat,x.2.2[i]? = some p->∀c,x.1.choices[i]? = some c->Lm t H' (Tc names c) p/\(c.ways.all λ w=>names.contains w.1)=true):Ja t H0 H' names (dn++[p]) x a:=by
 obtain⟨dx,nm,h1,h2,h3,h4⟩:=h
 refine⟨dx,nm,k _ _ (λ z=>?_) h1,Kp.tk k hp _ _ h2,k _ _ (nH h3 hp (by intro z;cases z)) h3,h4.len,λ i c e=>?_⟩
 ·rw[z,hp] at h1
  have h1:=aR h1
  injection h1 with _ _ e
  exact U4 e
 ·obtain⟨a',e1,e2⟩:=h4.at_ i c e
  refine⟨a',e1,λ hm=>?_,λ hm=>?_⟩
  ·by_cases hap:a'=p
   ·subst hap;exact new i e1 c e
   ·rcases bu.mp hm with hm | hm
    ·exact⟨(e2.1 hm).1.ki hp hap k,(e2.1 hm).2⟩
    ·exact absurd (by simpa using hm) hap
  ·have hap:a'≠p:=λ z=>hm (by rw[z];simp)
   exact (e2.2 λ z=>hm (bu.mpr (.inl z))).ki hp hap k
theorem Ja.of{H0 H:Hp}{names:List (List Nat)}{x:SX}{a:Addr}(h:Gv t H0 H x.1 a x.2.1 x.2.2):Ja t H0 H names [] x a:=by
 obtain⟨dx,nm,h1,h2,h3,h4,_⟩:=h
 exact⟨dx,nm,h1,h2,h3,h4.mono λ x a h=>⟨λ z=>by simp at z,λ _=>h⟩⟩
def U5(names:List (List Nat))(s:Ra61.RawState):Ra61.State:=⟨s.name,s.choices.map (Tc names)⟩
theorem KQ(raw:List Ra61.RawState):Rd.placed raw=raw.map (U5 (raw.map λ s=>s.name)):=rfl
theorem Ja.all{H0 H:Hp}{names:List (List Nat)}{dn:List Addr}{x:SX}{a:Addr}(h:Ja t H0 H names dn x a)(hd:∀c∈x.2.2,c∈dn):Sv t H (U5 names x.1) a/\(x.1.choices.all λ c=>c.ways.all λ w=>names.contains w.1)=true:=by
 obtain⟨dx,nm,h1,h2,h3,h4⟩:=h
 constructor
 ·refine⟨dx,nm,_,_,h1,h2,h3,?_,λ i c e=>?_⟩
  ·rw[h4.len];simp[U5]
  ·simp only[U5,ai] at e
   cases ec:x.1.choices[i]? with
   |none=>rw[ec] at e;cases e
   |some c'=>
    rw[ec] at e
    cases e;obtain⟨a',e1,e2⟩:=h4.at_ i c' ec;exact⟨a',e1,(e2.1 (hd _ (au e1))).1⟩
 ·rw[aY]
  intro c hc;obtain⟨i,hi⟩:=BW hc;obtain⟨a',e1,e2⟩:=h4.at_ i c hi;exact (e2.1 (hd _ (au e1))).2
theorem NC{H0 H:Hp}{nU:List Addr}{sx:List SX}(W:QU t H0 H nU sx):∃nms:List Addr,nms.length=sx.length/\∀(i:Nat) (x:SX),sx[i]? = some x->∃a dx n,nU[i]? = some a/\nms[i]? = some n/\H a=some (.ins t.nj dx (KL (.ref n) (.ref x.2.1)))/\H n=some (.tup (jJ x.1.name)):=by
 have key:∀i:Fin sx.length,∃n,∃a dx,nU[i.1]? = some a/\H a=some (.ins t.nj dx (KL (.ref n) (.ref (sx[i.1]).2.1)))/\H n=some (.tup (jJ (sx[i.1]).1.name)):=λ i=>by
  obtain⟨a,e,dx,nm,h1,h2,_⟩:=W.at_ i.1 _ (af i.2);exact⟨nm,a,dx,e,h1,h2⟩
 refine⟨List.ofFn λ i:Fin sx.length=>gP (key i),by simp,λ i c e=>?_⟩
 obtain⟨hi,rfl⟩:=ao.mp e
 obtain⟨a,dx,q1,q2,q3⟩:=fH (key ⟨i,hi⟩)
 exact⟨a,dx,_,q1,by rw[List.getElem?_ofFn];simp[hi],q2,q3⟩
theorem CG{bs b:List Nat}{x}(s:b <:+ bs)(h:Rd.readState b=some x):x.2 <:+ bs:=by
 rw[Rd.nO] at h
 obtain⟨a,h1,h⟩:=Rd.bind_some h
 obtain⟨_,h⟩:=Rd.jj h
 obtain⟨y,h4,h⟩:=Rd.bind_some h
 obtain⟨_,h⟩:=Rd.jj h
 obtain⟨r,h5,h⟩:=Rd.bind_some h
 obtain⟨_,h⟩:=Rd.jj h
 obtain⟨_,h⟩:=Rd.jj h
 cases h
 have s2:=jR (m:=123) (lN (lN s h1) h4)
 clear h1 h4
 generalize (Rd.passes 123 y.2).2=q at h5 s2
 have:∀(n:Nat) (q:List Nat),q.length<n->q <:+ bs->∀r,Rd.MC q=some r->r.2 <:+ bs:=by
  intro n
  induction n with
  |zero=>intro q h;omega
  |succ n ih=>
   intro q hq sq r e;rw[Rd.xw] at e;have hp:=Rd.ju 125 q
   split at e
   ·cases e;exact jR sq
   ·obtain⟨w,e1,e⟩:=Rd.bind_some e;obtain⟨z,e2,rfl⟩:=Rd.map_some e;have:=Rd.lQ e1;exact ih w.2 (by omega) (u9 (jR sq) e1) z e2
 exact this _ q (aD _) s2 r h5
def KR(K:aj)(t:ng):Sp:=λ vs H Q E=>∃l bs,vs=[.ref l]/\jz K H l (jJ bs)/\bs.length<=65536/\(∀c∈bs,c<256) /\
 Hs (Rd.ku bs) (∀H',E (.ref t.jr) none H') λ net=>∀v H',jk H H'->NB t net v H'->Q v H'
theorem ND{H0 H:Hp}{nU:List Addr}{sx:List SX}(W:QU t H0 H nU sx){c:Addr}(hc:c∈sx.flatMap λ x=>x.2.2):∃o,H c=some o:=by
 obtain⟨x,hx,hc⟩:=fP.mp hc
 obtain⟨i,hi⟩:=BW hx
 obtain⟨a,_,h⟩:=W.at_ i x hi
 exact h.here hc
theorem BX{b:List Nat}{x}(h:Rd.kO b=some x):2*x.1.ways.length<=b.length:=by
 rw[Rd.mV] at h
 obtain⟨a,h1,h⟩:=Rd.bind_some h
 obtain⟨g,h2,h⟩:=Rd.bind_some h
 obtain⟨_,h⟩:=Rd.jj h
 obtain⟨y,h4,h⟩:=Rd.bind_some h
 obtain⟨r,h5,h⟩:=Rd.bind_some h
 obtain⟨_,h⟩:=Rd.jj h
 obtain⟨_,h⟩:=Rd.jj h
 cases h
 have:=Rd.kE h1;have:=Rd.qA h2;have:=Rd.ju 58 g.2;have:=Rd.kP h4;have:=Rd.MV _ _ (aD _) _ h5
 simp only[aJ];omega
theorem NE:∀(n:Nat) (b:List Nat),b.length<n->∀r,Rd.MC b=some r->∀c∈r.1,2*c.ways.length<=b.length
 |0,b,h,_,_=>by omega
 |n+1,b,h,r,e=>by
  rw[Rd.xw] at e;have hp:=Rd.ju 125 b
  split at e
  ·cases e;simp
  ·obtain⟨w,e1,e⟩:=Rd.bind_some e;obtain⟨z,e2,rfl⟩:=Rd.map_some e;have l:=Rd.lQ e1;intro c hc
   rcases aA.mp hc with rfl | hc
   ·have:=BX e1;omega
   ·have:=NE n w.2 (by omega) z e2 c hc;omega
theorem NF:∀(n:Nat) (b:List Nat),b.length<n->∀r,Rd.MS b=some r->∀s∈r,∀c∈s.choices,2*c.ways.length<=b.length
 |0,b,h,_,_=>by omega
 |n+1,b,h,r,e=>by
  rw[Rd.xx] at e;have hp:=Rd.kD false b
  split at e
  ·cases e;simp
  ·obtain⟨w,e1,e⟩:=Rd.bind_some e;obtain⟨z,e2,rfl⟩:=Rd.map_some e;have l:=Rd.lY e1;intro s hs
   rcases aA.mp hs with rfl | hs
   ·rw[Rd.nO] at e1;obtain⟨a,h1,e1⟩:=Rd.bind_some e1;obtain⟨_,e1⟩:=Rd.jj e1;obtain⟨y,h4,e1⟩:=Rd.bind_some e1;obtain⟨_,e1⟩:=Rd.jj e1;obtain⟨r,h5,e1⟩:=Rd.bind_some e1;obtain⟨_,e1⟩:=Rd.jj e1;obtain⟨_,e1⟩:=Rd.jj e1
    cases e1;intro c hc;have:=Rd.kE h1;have:=Rd.kE h4;have:=Rd.ju 123 y.2;have:=NE _ _ (aD _) _ h5 c hc;omega
   ·intro c hc;have:=NF n w.2 (by omega) z e2 s hs c hc;omega
theorem Sw{H H':Hp}{p C dp a:Addr}{fs:List (Str×V)}{xs:List V}(h:rq K H a xs)(hp:H p=some (.ins C dp fs))(k:Kp p H H'):rq K H' a xs:=by
 rcases h with (h | ⟨o,h⟩) | h
 ·exact .inl (.inl (k _ _ (nH h hp (by intro z;cases z)) h))
 ·exact .inl (.inr ⟨o,k _ _ (nH h hp (by intro z;cases z)) h⟩)
 ·exact .inr h
theorem pM.ki{H H':Hp}{p C dp:Addr}{fs:List (Str×V)}{as:List Addr}{kl:List (List Int)}(T:pM K H as kl)(hp:H p=some (.ins C dp fs))(k:Kp p H H'):pM K H' as kl:=⟨T.len,λ i a k' e1 e2=>Sw (T.at_ i a k' e1 e2) hp k⟩
theorem KU{sx:List SX}{i:Nat}{x:SX}(h:sx[i]? = some x):(sx.take (i+1)).flatMap (λ x=>x.2.2)=(sx.take i).flatMap (λ x=>x.2.2)++x.2.2:=by
 rw[take_snoc h,gc];simp
theorem F2{sx:List SX}{i j:Nat}{x:SX}{c:Addr}(nd:(sx.flatMap λ x=>x.2.2).Nodup)(h:sx[i]? = some x)(hc:x.2.2[j]? = some c):¬c∈(sx.take i).flatMap (λ x=>x.2.2)++x.2.2.take j:=by
 obtain⟨hi,rfl⟩:=ao.mp h
 obtain⟨hj,rfl⟩:=ao.mp hc
 have e:sx.flatMap (λ x=>x.2.2)=((sx.take i).flatMap (λ x=>x.2.2)++(sx[i]).2.2.take j)++((sx[i]).2.2.drop j++(sx.drop (i+1)).flatMap (λ x=>x.2.2)):=by
  conv=>lhs;rw[<-ia i sx,gc,bC hi,fD]
  conv=>lhs;rw[show (sx[i]).2.2=(sx[i]).2.2.take j++(sx[i]).2.2.drop j from (ia _ _).symm]
  simp only[cG]
 rw[e,cU] at nd
 intro hm
 refine nd.2.2 _ hm _ ?_ rfl
 refine bu.mpr (.inl ?_)
 rw[bC hj]
 exact aO
theorem NG{sx:List SX}{i j i' j':Nat}{x x':SX}{c:Addr}(nd:(sx.flatMap λ x=>x.2.2).Nodup)(h:sx[i]? = some x)(hc:x.2.2[j]? = some c)(h':sx[i']? = some x')(hc':x'.2.2[j']? = some c):i'=i/\j'=j:=by
 have main:∀{i j i' j':Nat} {x x':SX},sx[i]? = some x->x.2.2[j]? = some c->sx[i']? = some x'->x'.2.2[j']? = some c->¬(i'<i\/(i'=i/\j'<j)):=by
  intro i j i' j' x x' h hc h' hc' z;refine F2 nd h hc (bu.mpr ?_)
  rcases z with z | ⟨rfl,z⟩
  ·refine .inl (fP.mpr ⟨x',?_,au hc'⟩);exact au (i:=i') (by rw[List.getElem?_take,if_pos z];exact h')
  ·rw[h] at h'
   cases h';exact .inr (au (i:=j') (by rw[List.getElem?_take,if_pos z];exact hc'))
 have:=main h hc h' hc'
 have:=main h' hc' h hc
 omega
theorem BY(T:Txt K mg t)(kb:K.In base):Ok P w K mg base 8 t.vR t.uD ["text"] (KR K t):=by
 refine T.zo.fn.qw kG (λ vs H Q E h=>?_) λ cdv A outer s H vs Q E hr h=>?_
 ·obtain⟨l,bs,rfl,_⟩:=h;rfl
 ·obtain⟨l,bs,rfl,hl,hlen,hb,h⟩:=h
  have IZ:=hr.mono (show 4<=7 by decide);have hr2:=hr.mono (show 2<=7 by decide);have hr1:=hr.mono (show 1<=7 by decide);refine⟨_,ja (jB (i:=1) kG.nd rfl (Or.inl rfl) (Ay T.jm T.zq (BN T) hr2 rfl jA (iY (pv 0) jb)))<|
   ja (jB (i:=2) kG.nd rfl (Or.inl rfl) (mq jb))<|
   ja (mT nJ (DS (pW (kW T.jm T.wz (KI T) IZ jA (pv 1))))
    (jf (jH (CZ bV cX cY vj (pv 2) (iY (jG T.AV (CF T kb) hr rfl (jw xl_of) (iY (pv 1) jb)) jb)))))<|
   ja (jH (jG T.mO (j8 T kb) hr1 rfl (jw xl_of) (iY (rB nM nM jt (jT jI (by rfl) T.qi nE (iY (pv 2) jb)) (j9 T.Cw rfl)) jb)))<|
   ja (E1 (i:=3) (own:=[("state",4)]) rfl kG.nd rfl rfl (HS kG.kind rfl rfl rfl) (kK (pv 2)) (jO rfl) (λ _ _ _ _ _=>jS (i:=4) kG.nd rfl (Or.inl rfl)) (λ _ _ _ _ _=>kj) (λ _ _ _ _ _=>jM K (pv 4) rfl))<|
   ja (jH (jG T.mO (j8 T kb) hr1 rfl (jw xl_of) (iY (jG T.tE (rm T) hr1 rfl jA (iY (pv 3) jb)) jb)))<|
   ja (qN nJ rfl (kK (pv 2)) (jS (i:=4) kG.nd rfl (Or.inl rfl))
    (jf (qN nJ rfl (kK (nt (pv 4) rfl)) (jS (i:=5) kG.nd rfl (Or.inl rfl))
     (jf (n6 (pv 5) (jG T.uO (KP T kb) hr2 rfl (jw xl_of) (iY (nt (pv 5) rfl)<|iY (pv 3) jb)) rfl)))))<|
   jf (jx (pv 2)),?_⟩
  rw[Rd.qP] at h;refine⟨_,rfl,?_⟩;intro r dx hr0 hdx hne;refine⟨r,dx,l,rfl,iZ,rfl,?_⟩;rw[jL];have VH:=oF (u:=.own r) (v:=.ins t.j5 dx (EI l 0)) hr0 hdx;have R1:yf K t (upd (upd H dx (.own r)) r (.ins t.j5 dx (EI l 0))) r dx l bs bs:=⟨by rw[iZ];unfold pl;rw[iV];rfl,jk.seq VH hl,fN _,hlen⟩
  generalize upd (upd H dx (.own r)) r (.ins t.j5 dx (EI l 0))=H1 at VH R1
  refine⟨(by show 0<=sizeLine;decide),λ sl hsl=>?_⟩;have Yu:=jh (o:=.lst []) hsl;have U6:H sl=none:=jk.Cc VH sl hsl;have R2:=R1.same Yu;have Sx:=VH.trans Yu;have Sy:upd H1 sl (.lst []) sl=some (.lst []):=iZ;have U7:H r=none:=hr0;show Jo _ _ _ _ (upd H1 sl (.lst []));generalize upd H1 sl (.lst [])=H2 at R2 Sx Sy
  refine⟨λ m σ H'=>∃(sx:List SX) (nU:List Addr) (q:List Nat),Rd.MS bs=(Rd.MS q).map (λ u=>sx.map (·.1)++u)/\sx.length+q.length<=65536/\m=q.length /\
   σ=[some (.ref l),some (.ref r),some (.ref sl),none,none,none]/\yf K t H' r dx l bs q/\H' sl=some (.lst (nU.map V.ref))/\QU t H2 H' nU sx/\(sx.flatMap λ x=>x.2.2).Nodup/\jk H H'/\Cb H2 H',
   ⟨_,[],[],bs,?_,?_,rfl,rfl,R2,Sy,Ea.nil,by simp,Sx,Cb.refl _⟩,?_⟩
  ·simp
  ·simp;omega
  rintro m σ H' ⟨sx,nU,q,inv,hq2,rfl,rfl,Rq,Yv,W,nd,smq,lq2⟩;refine⟨_,rfl,r,dx,_,rfl,Rq.ins,yl,r,dx,l,bs,q,rfl,Rq,hb,_,rfl,?_⟩;rw[inv,Rd.xx] at h;have sq:=mP Rq.yg;have lq:=Rd.kD false q;have hstep:=Rd.xx q;generalize Rd.skip false q=y2 at h sq lq hstep
  have R6:=Rq.put sq;have VI:sl≠r:=nH Yv Rq.ins (by intro z;cases z);have k6:Kp r H' (kJ t H' r dx l bs y2):=Kp.upd;have W6:QU t H2 (kJ t H' r dx l bs y2) nU sx:=W.mono λ x a h=>h.kp R2.ins Rq.ins (by intro xs z;cases z) k6
  have QV:kJ t H' r dx l bs y2 sl=some (.lst (nU.map V.ref)):=k6 _ _ VI Yv;have U0:Cb H' (kJ t H' r dx l bs y2):=Kp.Cc k6 R6.ins;have Xf:jk H (kJ t H' r dx l bs y2):=λ b o eb=>k6 b o (je eb U7) (smq b o eb)
  generalize kJ t H' r dx l bs y2=H6 at R6 k6 W6 QV U0 Xf
  by_cases Lj:y2=[]
  case neg=>
   rw[if_neg Lj] at h hstep;refine tZ (by rw[decide_eq_false Lj];rfl) ?_;refine⟨λ σ H7=>∃(q7:List Nat) (x7:SX) (a7:Addr),Rd.MS bs=(Rd.MS q7).map (λ u=>(sx++[x7]).map (·.1)++u)/\q7.length<q.length/\(sx++[x7]).length+q7.length<=65536 /\
    σ=[some (.ref l),some (.ref r),some (.ref sl),none,none,none]/\yf K t H7 r dx l bs q7/\H7 sl=some (.lst ((nU++[a7]).map V.ref))/\QU t H2 H7 (nU++[a7]) (sx++[x7])/\((sx++[x7]).flatMap λ x=>x.2.2).Nodup/\jk H H7/\Cb H2 H7,?_,?_⟩
   ·rintro σ7 H7 ⟨q7,x7,a7,i1,i2,i3,rfl,i5,i6,i7,i8,i9,Xa⟩;exact⟨_,i2,sx++[x7],nU++[a7],q7,i1,i3,rfl,rfl,i5,i6,i7,i8,i9,Xa⟩
   ·refine⟨_,rfl,.inl ⟨rfl,_,jz.of QV⟩,?_⟩;refine⟨_,rfl,DN R6 hb (λ e H'=>?_) λ x7 e=>⟨CG sq e,λ v H7 R7 k7 hv=>?_⟩⟩
    ·rw[e] at h;exact h H'
    have l7:=Rd.lY e;obtain⟨a7,Yw,SA,rfl,hst⟩:=hv;have Yx:H7 sl=some (.lst (nU.map V.ref)):=k7 sl _ VI QV;have Yy:nU.length<=65536:=by rw[W.len];omega
    have U8:Cb H2 H6:=lq2.trans U0;refine⟨sl,_,_,rfl,rfl,Yx,?_,?_⟩
    ·rw[ah,sizeLine_eq];omega
    have k8:Kp sl H7 (upd H7 sl (.lst (nU.map V.ref++[.ref a7]))):=Kp.upd;have Xd:Cb H7 (upd H7 sl (.lst (nU.map V.ref++[.ref a7]))):=Kp.Cc k8 iZ;have Sm:QU t H2 H7 (nU++[a7]) (sx++[(x7.1,Yw,SA)]):=Ea.snoc (W6.mono λ x a h=>h.kp R2.ins R6.ins (by intro xs z;cases z) k7) (hst.Cc U8);have Xg:sl≠r:=VI;refine⟨x7.2,(x7.1,Yw,SA),a7,?_,by omega,by simp;omega,rfl,?_,?_,Sm.mono λ x a h=>h.kp Sy Yx (by intro xs z;cases z) k8,?_,?_,(U8.trans (Kp.Cc k7 R7.ins)).trans Xd⟩
    ·rw[inv,hstep,e,ak,iz]
     congr 1;funext z;simp
    ·exact⟨by rw[jd VI.symm];exact R7.ins,EC hl U6 R7.txt,R7.yg,R7.len⟩
    ·rw[iZ,bw];rfl
    ·rw[gc,cU];refine⟨nd,by simpa using hst.choose_spec.choose_spec.2.2.2.2.1,λ a ha b hb e2=>?_⟩;have hb:b∈SA:=by simpa using hb
     obtain⟨o,eo⟩:=ND W6 ha;rw[e2,hst.new hb] at eo
     cases eo
    ·intro b o eb;rw[jd (je eb U6)];exact k7 b o (je eb U7) (Xf b o eb)
  case pos=>
   rw[if_pos Lj] at h;simp only[bE,cQ,ak] at h
   refine t6 (by rw[decide_eq_true Lj];rfl) ?_;have nl:(sx.map (·.1)).length=nU.length:=by rw[ah,W.len]
   refine⟨_,rfl,sl,_,rfl,.inl (jz.of QV),_,_,rfl,rfl,?_⟩;have q1:decide ((1:Int)<=((nU.map V.ref).length:Int))=decide (1<=(sx.map (·.1)).length):=by rw[ah,<-nl];exact qk 1 _
   have q2:decide (((nU.map V.ref).length:Int)<=16)=decide ((sx.map (·.1)).length<=16):=by rw[ah,<-nl];exact qk _ 16
   refine⟨_,rfl,?_⟩
   by_cases w1:1<=(sx.map (·.1)).length
   case neg=>
    rw[if_neg (λ z=>w1 z.1)] at h;exact t6 (q1.trans (decide_eq_false w1)) ⟨_,rfl,qO (h _)⟩
   refine tZ (q1.trans (decide_eq_true w1)) ⟨_,_,rfl,rfl,?_⟩
   by_cases w2:(sx.map (·.1)).length<=16
   case neg=>
    rw[if_neg (λ z=>w2 z.2)] at h;exact⟨_,rfl,t6 (q2.trans (decide_eq_false w2)) (h _)⟩
   rw[if_pos ⟨w1,w2⟩] at h;refine⟨_,rfl,tZ (q2.trans (decide_eq_true w2)) ?_⟩;have sxl:sx.length<=16:=by rw[ah] at w2;exact w2
   obtain⟨nms,N6⟩:=NC W6;refine⟨_,rfl,sl,rfl,⟨_,jz.of QV⟩,λ D hD=>lU (K:=K) (a:=sl) (xs:=nU.map V.ref) (λ i H8=>H8=upd H6 D (.lst ((nms.map V.ref).take i))) rfl (λ i H8 _ e8=>by rw[e8];exact jz.of (by rw[jd (je QV hD)];exact QV)) ?_ ?_⟩
   ·rintro i v H8 hi rfl;obtain⟨ha,ea,rfl⟩:=lS hi;have hil:i<sx.length:=by rw[<-W6.len];exact (ao.mp ea).1
    obtain⟨a',Ll,n,p1,p2,p3,p4⟩:=N6.2 i sx[i] (af hil);rw[ea] at p1
    cases p1;refine⟨rfl,?_⟩;refine⟨_,rfl,ha,_,Ll,_,_,rfl,(by rw[jd (je p3 hD)];exact p3),T.tG.cl,T.tH,F1 _ _,(nms.map V.ref).take i,iZ,?_,?_⟩
    ·rw[aU,sizeLine_eq];have:=N6.1;simp;omega
    ·rw[jL,take_snoc (l:=nms.map V.ref) (x:=V.ref n) (by rw[ai,p2];rfl)]
   ·rintro H8 rfl;rw[ah,show (nms.map V.ref).take nU.length=nms.map V.ref from ay (by rw[ah,N6.1,W6.len];exact aq _)];have ED:=jh (o:=.lst (nms.map V.ref)) hD;have U9:upd H6 D (.lst (nms.map V.ref)) D=some (.lst (nms.map V.ref)):=iZ;have N8:pM K (upd H6 D (.lst (nms.map V.ref))) nms (((sx.map (·.1)).map λ s=>s.name).map zn):=⟨by simp[N6.1],λ i a k e1 e2=>by
     rw[ai,ai,ai] at e2
     cases e:sx[i]? with
     |none=>rw[e] at e2;cases e2
     |some x=>
      rw[e] at e2;have e2:some (zn x.1.name)=some k:=e2
      cases e2;obtain⟨a',Ll,n,p1,p2,p3,p4⟩:=N6.2 i x e;rw[e1] at p2
      cases p2;rw[<-vA];exact rq.of (ED _ _ p4)⟩
    have Yz:=ED _ _ QV;have W8:QU t H2 (upd H6 D (.lst (nms.map V.ref))) nU sx:=W6.mono λ x a h=>h.same ED
    have Va:=Xf.trans ED;show Jo _ _ _ _ (upd H6 D (.lst (nms.map V.ref)));generalize upd H6 D (.lst (nms.map V.ref))=H8 at ED U9 N8 Yz W8 Va
    refine⟨_,rfl,D,nms,_,rfl,jz.of U9,N8,by simp;omega,λ H9 P7=>?_⟩;refine⟨_,rfl,?_⟩;generalize hnames:((sx.map (·.1)).map λ s=>s.name)=names at h N8
    have end_:decide ((names.map zn).Nodup)=decide (names.Nodup):=by
     rw[aS,decide_eq_true_eq,decide_eq_true_eq];exact BP _
    by_cases P8:names.Nodup
    case neg=>rw[if_neg P8] at h;exact t6 (end_.trans (decide_eq_false P8)) (h _)
    rw[if_pos P8] at h;refine tZ (end_.trans (decide_eq_true P8)) ?_;have hD9:=P7 _ _ U9;have N9:=pM.tk N8 P7;have YA:=P7 _ _ Yz;have W9:QU t H2 H9 nU sx:=W8.mono λ x a h=>h.same P7
    have Xh:=Va.trans P7;have raws:Rd.MS bs=some (sx.map (·.1)):=by rw[inv,hstep,if_pos Lj];simp
    have few:=NF _ _ (aD _) _ raws;refine⟨_,rfl,sl,rfl,⟨_,jz.of YA⟩,xf (K:=K) (a:=sl) (xs:=nU.map V.ref)
     (λ i σ Hc=>∃v4 v5,σ=[some (.ref l),some (.ref r),some (.ref sl),some (.ref D),v4,v5]/\Hc sl=some (.lst (nU.map V.ref))/\Hc D=some (.lst (nms.map V.ref))/\pM K Hc nms (names.map zn)/\jk H Hc/\Ea (Ja t H2 Hc names ((sx.take i).flatMap λ x=>x.2.2)) nU sx)
     ⟨none,none,rfl,YA,hD9,N9,Xh,W9.mono λ x a h=>Ja.of h⟩ (λ i σ Hc _ ⟨_,_,_,e,_⟩=>jz.of e) ?_ ?_⟩
    ·rintro i v σ Hc hi ⟨v4,v5,rfl,hsc,hDc,Nc,smc,Wc⟩;obtain⟨ha,ea,rfl⟩:=lS hi;obtain⟨x,ex,dxs,nm,g1,g2,g3,g4⟩:=Wc.get ea;refine⟨_,rfl,ha,_,dxs,_,_,rfl,g1,T.tG.cl,T.pD,zD _ _,x.2.1,rfl,⟨_,jz.of g3⟩,?_⟩;refine xf (K:=K) (a:=x.2.1) (xs:=x.2.2.map V.ref)
      (λ j σ Hd=>∃v5,σ=[some (.ref l),some (.ref r),some (.ref sl),some (.ref D),some (.ref ha),v5]/\Hd sl=some (.lst (nU.map V.ref))/\Hd D=some (.lst (nms.map V.ref))/\pM K Hd nms (names.map zn)/\jk H Hd/\Ea (Ja t H2 Hd names ((sx.take i).flatMap (λ x=>x.2.2)++x.2.2.take j)) nU sx)
      ⟨v5,rfl,hsc,hDc,Nc,smc,by rw[gy,cQ];exact Wc⟩ (λ j σ Hd _ ⟨_,_,_,_,_,_,e⟩=>by
       obtain⟨x',SY,_,_,_,_,g3',_⟩:=e.get ea;rw[ex] at SY
       cases SY;exact jz.of g3') ?_ ?_
     ·rintro j v σ Hd hj ⟨v5',rfl,Td,Te,Nd,Vb,Wd⟩;obtain⟨ca,ec,rfl⟩:=lS hj;obtain⟨x',SY,dxs',Ur,k1,k2,k3,k4⟩:=Wd.get ea;rw[ex] at SY
      cases SY;obtain⟨c,YB,_,raw⟩:=k4.get ec;obtain⟨a',Ll,VJ,wy,as,bn,e0,c1,c2,c3,c4,c5,c6⟩:=raw (F2 nd ex ec)
      cases e0;have hx:x.1∈sx.map (·.1):=az.mpr ⟨x,au ex,rfl⟩;have O1:c∈x.1.choices:=au YB;have hfew:=few _ hx _ O1;refine⟨_,rfl,ca,_,Ll,_,_,rfl,c1,T.jN.cl,T.lR,u5 _ _ _ _,_,rfl,wy,D,as,bn,nms,c.ways,names,rfl,jz.of c3,c4,jz.of Te,Nd,by omega,?_⟩
      by_cases hall:(c.ways.all λ w=>names.contains w.1)=true
      case neg=>
       rw[if_neg hall];have hno:¬((sx.map (·.1)).all λ s=>s.choices.all λ c=>c.ways.all λ w=>names.contains w.1)=true:=λ z=>by
        have z1:=aY.mp z x.1 hx;have z2:=aY.mp z1 c O1;exact hall z2
       rw[if_neg hno] at h;exact h
      rw[if_pos hall];intro p ps He Qc hp YC Ee;have QW:=Qc _ _ c1;refine⟨_,rfl,ca,_,Ll,_,rfl,QW,T.jN.cl,T.lR,(by show 4<1000;decide),?_⟩;rw[P5];have kp:Kp ca He (upd He ca (.ins t.jU Ll (zP (.ref VJ) (.int c.gain) (.ref p) (.int (c.ways.map λ w=>(w.2:Int)).sum)))):=Kp.upd;have new:Lm t (upd He ca (.ins t.jU Ll (zP (.ref VJ) (.int c.gain) (.ref p) (.int (c.ways.map λ w=>(w.2:Int)).sum)))) (Tc names c) ca:=by
       refine⟨Ll,VJ,p,ps,?_,Kp.tk kp QW _ _ (Qc _ _ c2),kp _ _ (nH YC QW (by intro z;cases z)) YC,Ee.mono λ x a h=>Kp.tk kp QW _ _ h⟩;rw[iZ];have:((Tc names c).ways.map λ w=>(w.2:Int))=(c.ways.map λ w=>(w.2:Int)):=by unfold Tc;rw[dw];rfl
       rw[this];rfl
      generalize upd He ca (.ins t.jU Ll (zP (.ref VJ) (.int c.gain) (.ref p) (.int (c.ways.map λ w=>(w.2:Int)).sum)))=Hf at kp new
      refine⟨some (.ref ca),rfl,kp _ _ (nH (Qc _ _ Td) QW (by intro z;cases z)) (Qc _ _ Td),kp _ _ (nH (Qc _ _ Te) QW (by intro z;cases z)) (Qc _ _ Te),pM.ki (pM.tk Nd Qc) QW kp,?_,?_⟩
      ·intro b o eb;refine kp b o (λ z=>?_) (Qc _ _ (Vb _ _ eb));rw[z,jk.Cc Sx _ c5] at eb
       cases eb
      ·rw[take_snoc ec,<-cG];refine⟨Wd.len,λ i' x' e'=>?_⟩;obtain⟨a',e1,e2⟩:=Wd.at_ i' x' e';refine⟨a',e1,Ja.step (c:=c) (e2.same Qc) QW kp λ j' e3 c' e4=>?_⟩;obtain⟨rfl,rfl⟩:i'=i/\j'=j:=NG nd ex ec e' e3;rw[ex] at e'
       cases e';rw[YB] at e4
       cases e4;exact⟨new,hall⟩
     ·rintro σ Hd ⟨v5',rfl,Td,Te,Nd,Vb,Wd⟩;rw[ah,eF,<-KU ex] at Wd;exact⟨_,_,rfl,Td,Te,Nd,Vb,Wd⟩
    ·rintro σ Hd ⟨v4,v5,rfl,Td,Te,Nd,Vb,Wd⟩;rw[ah,W.len,eF] at Wd;have fin:∀(i:Nat) (x:SX),sx[i]? = some x->∃a,nU[i]? = some a/\Sv t Hd (U5 names x.1) a/\(x.1.choices.all λ c=>c.ways.all λ w=>names.contains w.1)=true:=λ i x e=>by
      obtain⟨a,e1,e2⟩:=Wd.at_ i x e;exact⟨a,e1,e2.all λ c hc=>fP.mpr ⟨x,au e,hc⟩⟩
     have hall:((sx.map (·.1)).all λ s=>s.choices.all λ c=>c.ways.all λ w=>names.contains w.1)=true:=by
      rw[aY];intro s hs;obtain⟨x,hx,rfl⟩:=az.mp hs;obtain⟨i,hi⟩:=BW hx;obtain⟨_,_,_,z⟩:=fin i x hi;exact z
     rw[if_pos hall,KQ,hnames] at h;refine⟨_,rfl,h _ _ Vb ⟨sl,nU,rfl,Td,?_,λ i s e=>?_⟩⟩
     ·rw[W.len];simp
     ·rw[ai,ai] at e
      cases ex:sx[i]? with
      |none=>rw[ex] at e;cases e
      |some x=>
       rw[ex] at e
       cases e;obtain⟨a,e1,e2,_⟩:=fin i x ex;exact⟨a,e1,e2⟩
theorem pV(T:Txt K mg t)(kb:K.In base):OwnCls "OutOfRange" t.jE [.type "Exception",.type "BaseException",.type "object"] "Exception.__new__" mg base:=rE kb T.xT.mg T.xT.ex
def NH(t:ng):Sp:=λ vs H Q E=>∃n a b:Int,vs=[.int n,.int a,.int b]/\if a<=n/\n<=b then Q .pT H else E (.ref t.jE) none H
theorem pG(T:Txt K mg t)(kb:K.In base):Ok P w K mg base 1 t.uE t.tP ["number","least","greatest"] (NH t):=by
 refine T.pO.fn.qw zL (λ vs H Q E h=>?_) λ cdv A outer s H vs Q E hr h=>?_
 ·obtain⟨n,a,b,rfl,_⟩:=h;rfl
 ·obtain⟨n,a,b,rfl,h⟩:=h
  refine⟨_,jf (rA (DS (LH nM nM (pv 1) (pv 0) (pv 2))) (jf (xo xl_of rfl (pV T kb) cz)) m7),?_⟩;refine⟨_,rfl,_,rfl,_,_,rfl,rfl,_,rfl,?_⟩
  by_cases h1:a<=n
  case neg=>
   rw[if_neg (λ z=>h1 z.1)] at h;exact t6 (decide_eq_false h1) ⟨_,rfl,uh h⟩
  refine tZ (decide_eq_true h1) ⟨_,rfl,_,_,rfl,rfl,_,rfl,?_⟩
  by_cases h2:n<=b
  ·rw[if_pos ⟨h1,h2⟩] at h;exact t6 (by rw[decide_eq_true h2];rfl) h
  ·rw[if_neg (λ z=>h2 z.2)] at h;exact tZ (by rw[decide_eq_false h2];rfl) h
theorem sL(T:Txt K mg t)(kb:K.In base):OwnCls "NoSuchGoal" t.jF [.type "Exception",.type "BaseException",.type "object"] "Exception.__new__" mg base:=rE kb T.xU.mg T.xU.ex
theorem vc(T:Txt K mg t)(kb:K.In base):OwnCls "GainTooLow" t.j6 [.type "Exception",.type "BaseException",.type "object"] "Exception.__new__" mg base:=rE kb T.xV.mg T.xV.ex
theorem sM(T:Txt K mg t)(kb:K.In base):OwnCls "NoRoom" t.lK [.type "Exception",.type "BaseException",.type "object"] "Exception.__new__" mg base:=rE kb T.FF.mg T.FF.ex
inductive Told(t:ng):Value->Int->Prop
 |range:Told t (.ref t.jE) (-1)
 |text:Told t (.ref t.jr) (-2)
 |goal:Told t (.ref t.jF) (-3)
 |gain:Told t (.ref t.j6) (-4)
 |room:Told t (.ref t.lK) (-7)
def Vc(t:ng)(Q:VK):XK:=λ cls _ H1=>∃c:Int,Told t cls c/\∀l,H1 l=none->Q (.ref l) (upd H1 l (.lst [.int c]))
theorem Hx(T:Txt K mg t)(kb:K.In base){A:Around}{outer:List Env}{s:Shared}{H:Hp}{Q:VK}{E:XK}{p:Addr}{o:Obj}{fd:FuncData}{k:Nat}(hr:mQ (k+1) A)(e0:yD P w K mg base A outer s H)
  (ho:s.heap.get? p=some o) (hd:o.data=.func fd)
  (run:∀(SD:Env) (A1:Around) (s1:Shared),mQ k A1->yD P w K mg base A1 (SD::outer) s1 H->(∀b o,s.heap.get? b=some o->s1.heap.get? b=some o) ->
   codeAny (model P w) A1 (.call (.ref p) ⟨[],[]⟩) (CR (wG P w) (SD::outer) P w H s1 Q (Vc t Q)) s1) :
  codeAny (model P w) A (.call (.ref t.AQ) ⟨[.ref p],[]⟩) (CR (wG P w) outer P w H s Q E) s:=by
 obtain⟨oc,od,kV,doc,pm,an,cdv,ct,osl,Xi,lk,hcd⟩:=T.answer.fn.ex
 have KX:K.In s.heap:=kb.keeps λ b o e=>(e0.bs b o e).1
 have hb:=T.answer.bd s [.ref p] KX rfl
 rw[Xi] at hb lk
 refine ME (vs:=[.ref p]) (us:=[.ref p]) (E:=E) lk hcd Kf rfl hr e0 hb (.cons rfl .nil) λ s1 hr1 I kp=>?_
 have hS:∀{D:Ends} {f:Flow} {s':Shared},D.rt=Q->(∀σ H,¬D.nx σ H)->(∀σ H,¬D.bk σ H)->(∀σ H,¬D.ct σ H)->SP (Am (wG P w) P w K mg base ["work"] "answer" (ji xy) t.AQ cdv A outer s H E) [] D f s'->(match f with
    |.ret u=>CR (wG P w) outer P w H s Q E (.ok (.ret u)) s'
    |.next=>CR (wG P w) outer P w H s Q E (.ok (.ret .none)) s'
    |_=>False):=by
  intro D f s' e1 e2 e3 e4 h
  cases f with
  |ret u=>obtain⟨v,σ',H',J,rv,q⟩:=h;rw[e1] at q;exact⟨v,H',J.os,J.bare,J.base,J.hok,rv,q⟩
  |next=>obtain⟨σ',H',_,q⟩:=h;exact (e2 _ _ q).elim
  |brk=>obtain⟨σ',H',_,q⟩:=h;exact (e3 _ _ q).elim
  |cont=>obtain⟨σ',H',_,q⟩:=h;exact (e4 _ _ q).elim
 refine wpAny_execs_cons (wpAny_mono (MG (Ds:={ nx:=λ _ _=>False,rt:=Q }) (i:=0) (p:=p) (E:=Vc t Q) I rfl rfl rfl (Or.inl rfl) rfl (kp _ _ ho) hd (run _ _ s1 hr1 I.OQ kp) ?_) (λ f s' h=>?_) λ e s' h=>h)
 ·rintro a C a0 B h3 s' H1 fl again ⟨c,tc,hq⟩
  have I3:=again h3 fl (Heap.UpToSlots.refl _);have ox:=cz
  cases tc with
  |range=>exact hit I3 fl rfl (pV T kb) ox (λ E=>jf (jx (mq (iY (j9 T.A7 rfl) jb)))) ⟨(by show 1<=sizeLine;decide),hq⟩ again
  |text=>
   refine miss I3 fl rfl (yR T kb) (pV T kb) ox T.rX ?_;exact hit I3 fl rfl (yR T kb) ox (λ E=>jf (jx (mq (iY (j9 T.A8 rfl) jb)))) ⟨(by show 1<=sizeLine;decide),hq⟩ again
  |goal=>
   refine miss I3 fl rfl (sL T kb) (pV T kb) ox T.rZ ?_;refine miss I3 fl rfl (sL T kb) (yR T kb) ox T.rY ?_;exact hit I3 fl rfl (sL T kb) ox (λ E=>jf (jx (mq (iY (j9 T.A9 rfl) jb)))) ⟨(by show 1<=sizeLine;decide),hq⟩ again
  |gain=>
   refine miss I3 fl rfl (vc T kb) (pV T kb) ox T.sj ?_;refine miss I3 fl rfl (vc T kb) (yR T kb) ox T.r9 ?_;refine miss I3 fl rfl (vc T kb) (sL T kb) ox T.sr ?_;exact hit I3 fl rfl (vc T kb) ox (λ E=>jf (jx (mq (iY (j9 T.Ba rfl) jb)))) ⟨(by show 1<=sizeLine;decide),hq⟩ again
  |room=>
   refine miss I3 fl rfl (sM T kb) (pV T kb) ox T.vE ?_;refine miss I3 fl rfl (sM T kb) (yR T kb) ox T.vD ?_;refine miss I3 fl rfl (sM T kb) (sL T kb) ox T.vF ?_;refine miss I3 fl rfl (sM T kb) (vc T kb) ox T.vG ?_;exact hit I3 fl rfl (sM T kb) ox (λ E=>jf (jx (mq (iY (j9 T.Kl rfl) jb)))) ⟨(by show 1<=sizeLine;decide),hq⟩ again
 ·have z:=hS (D:={ nx:=λ _ _=>False,rt:=Q }) rfl (λ _ _ z=>z) (λ _ _ z=>z) (λ _ _ z=>z) h
  cases f with
  |next=>exact wpAny_execs_nil z
  |ret u=>exact z
  |brk=>exact z
  |cont=>exact z
def Given(K:aj)(t:ng)(H:Hp)(Q:VK)(E:XK)(l:Addr)(bs:List Nat)(room:Int):Prop:=jz K H l (jJ bs)/\(∀c∈bs,c<256) /\
 if bs.length<=65536/\0<=room/\room<=65536 then Hs (Rd.ku bs) (∀H',E (.ref t.jr) none H') (λ net=>∀v H',jk H H'->NB t net v H'->Q v H') else ∀H',E (.ref t.jE) none H'
def NI(K:aj)(t:ng):Sp:=λ vs H Q E=>∃l bs room,vs=[.ref l,.int room]/\Given K t H Q E l bs room
theorem CH(T:Txt K mg t)(kb:K.In base):Ok P w K mg base 9 t.xF t.vS ["text","room"] (NI K t):=by
 refine T.AW.fn.qw Cs (λ vs H Q E h=>?_) λ cdv A outer s H vs Q E hr h=>?_
 ·obtain⟨l,bs,room,rfl,_⟩:=h;rfl
 ·obtain⟨l,bs,room,rfl,hl,hb,h⟩:=h
  have hr1:=hr.mono (show 1<=8 by decide);refine⟨_,ja (jH (jG T.pO (pG T kb) hr1 rfl (jw xl_of) (iY (jT jI (by rfl) T.qi nE (iY (pv 0) jb))<|iY jt<|iY (j9 T.A6 rfl) jb)))<|
   ja (jH (jG T.pO (pG T kb) hr1 rfl (jw xl_of) (iY (pv 1)<|iY jt<|iY (j9 T.zN rfl) jb)))<|
   jf (jx (jG T.zo (BY T kb) hr rfl (jw xl_of) (iY (pv 0) jb))),?_⟩
  refine⟨_,rfl,l,_,rfl,.inl hl,_,_,_,rfl,?_⟩;rw[jV]
  by_cases h1:bs.length<=65536
  case neg=>
   rw[if_neg (λ z=>h1 z.1)] at h;rw[if_neg (λ z=>h1 (by omega))];exact h _
  rw[if_pos ⟨by omega,by omega⟩];refine⟨_,rfl,_,_,_,rfl,?_⟩
  by_cases h2:0<=room/\room<=65536
  case neg=>
   rw[if_neg (λ z=>h2 z.2)] at h;rw[if_neg h2];exact h _
  rw[if_pos ⟨h1,h2⟩] at h;rw[if_pos h2];exact⟨_,rfl,l,bs,rfl,hl,h1,hb,h⟩
def NJ(K:aj)(t:ng):Sp:=λ vs H Q E=>∃l bs room g,vs=[.ref l,.int room,.int g]/\jz K H l (jJ bs)/\(∀c∈bs,c<256) /\
 if (0<=g/\g<=65535)/\bs.length<=65536/\0<=room/\room<=65536 then Hs (Rd.ku bs) (∀H',E (.ref t.jr) none H') (λ net=>if 2^net.length<=g.toNat then ∀H',E (.ref t.jF) none H' else ∀v H',jk H H'->NB t net v H'->Q v H') else ∀H',E (.ref t.jE) none H'
theorem NK{g:Int}{n:Nat}(hg:0<=g):decide (V.int (g/2^n)=V.int 0)=decide (¬2^n<=g.toNat):=by
 rw[mw,aS,beq_iff_eq,decide_eq_true_eq]
 obtain⟨m,rfl⟩:=fi hg
 have e:(m:Int)/2^n=((m/2^n:Nat):Int):=by push_cast;rfl
 rw[e,bM]
 have hp:0<2^n:=Nat.two_pow_pos n
 constructor
 ·intro z q
  have:m/2^n=0:=by omega
  rw[Nat.div_eq_zero_iff] at this;omega
 ·intro q
  have:m/2^n=0:=Nat.div_eq_of_lt (by omega);omega
theorem vI(T:Txt K mg t)(kb:K.In base):Ok P w K mg base 10 t.qd t.pK ["text","room","goals"] (NJ K t):=by
 refine T.rW.fn.qw pI (λ vs H Q E h=>?_) λ cdv A outer s H vs Q E hr h=>?_
 ·obtain⟨l,bs,room,g,rfl,_⟩:=h;rfl
 ·obtain⟨l,bs,room,g,rfl,hl,hb,h⟩:=h
  have hr1:=hr.mono (show 1<=9 by decide);refine⟨_,ja (jH (jG T.pO (pG T kb) hr1 rfl (jw xl_of) (iY (pv 2)<|iY jt<|iY (j9 T.yQ rfl) jb)))<|
   ja (jB (i:=3) pI.nd rfl (Or.inl rfl) (jG T.AW (CH T kb) hr rfl (jw xl_of) (iY (pv 0)<|iY (pv 1) jb)))<|
   ja (rA (lT CS (kB LB (pv 2) (jT jI (by rfl) T.qi nE (iY (pv 3) jb))) jt (kN _)) (jf (xo xl_of rfl (sL T kb) cz)) m7)<|
   jf (jx (pv 3)),?_⟩
  refine⟨_,rfl,_,_,_,rfl,?_⟩
  by_cases h1:0<=g/\g<=65535
  case neg=>
   rw[if_neg (λ z=>h1 z.1)] at h;rw[if_neg h1];exact h _
  rw[if_pos h1];refine⟨_,rfl,_,rfl,l,bs,room,rfl,hl,hb,?_⟩
  by_cases h2:bs.length<=65536/\0<=room/\room<=65536
  case neg=>
   rw[if_neg (λ z=>h2 z.2)] at h;rw[if_neg h2];exact h
  rw[if_pos ⟨h1,h2⟩] at h;rw[if_pos h2]
  cases e:Rd.ku bs with
  |none=>rw[e] at h;exact h
  |some net=>
   rw[e] at h;intro v H' sm hv;obtain⟨sl,nU,rfl,hsl,hst⟩:=id hv;refine⟨_,rfl,_,rfl,sl,_,rfl,.inl (jz.of hsl),_,_,rfl,rfl,by omega,rfl,_,rfl,?_⟩;have ez:=NK (g:=g) (n:=nU.length) h1.1;have en:((nU.map V.ref).length:Int).toNat=nU.length:=by simp
   have Xj:=hst.len;have eb:(!decide (V.int (g/2^((nU.map V.ref).length:Int).toNat)=V.int 0))=decide (2^nU.length<=g.toNat):=by
    rw[en,ez]
    by_cases z:2^nU.length<=g.toNat
    ·rw[decide_eq_false (λ q=>q z),decide_eq_true z];rfl
    ·rw[decide_eq_true z,decide_eq_false z];rfl
   have h:if 2^net.length<=g.toNat then ∀H',E (.ref t.jF) none H' else ∀v H',jk H H'->NB t net v H'->Q v H':=h
   rw[<-Xj] at h
   by_cases h3:2^nU.length<=g.toNat
   ·rw[if_pos h3] at h;exact tZ (eb.trans (decide_eq_true h3)) (h _)
   ·rw[if_neg h3] at h;exact t6 (eb.trans (decide_eq_false h3)) ⟨_,rfl,h _ _ sm hv⟩
theorem Qe{g:Int}{s:Nat}(hg:0<=g):Builtin.bitAnd (g/2^s) 1=if Ra61.isGoal g.toNat s=true then 1 else 0:=by
 rw[PyProof.Rows.bitAnd_m1]
 obtain⟨m,rfl⟩:=fi hg
 have e:(m:Int)/2^s%2=((m/2^s%2:Nat):Int):=by push_cast;rfl
 rw[e,bM]
 unfold Ra61.isGoal
 have:m/2^s%2=0\/m/2^s%2=1:=by omega
 rcases this with q | q<;>rw[q]<;>rfl
def lG(n:Nat)(g:Nat):List Int:=(aB n).map λ s=>if Ra61.isGoal g s=true then 1 else 0
def NL(K:aj):Sp:=λ vs H Q _=>∃g sl xs,vs=[.int g,.ref sl]/\0<=g/\jz K H sl xs/\xs.length<=16/\∀D,H D=none->Q (.ref D) (upd H D (.lst ((lG xs.length g.toNat).map V.int)))
theorem CI(T:Txt K mg t):Ok P w K mg base 1 t.xH t.vU ["goals","states"] (NL K):=by
 refine T.AX.fn.qw qY (λ vs H Q E h=>?_) λ cdv A outer s H vs Q E hr h=>?_
 ·obtain⟨g,sl,xs,rfl,_⟩:=h;rfl
 ·obtain⟨g,sl,xs,rfl,hg,hl,hn,h⟩:=h
  refine⟨_,jf (jx (nI (own:=[("place",2)]) rfl qY.nd (vf (by rfl) T.zY (iY (jT jI (by rfl) T.qi nE (iY (pv 1) jb)) jb)) (jO rfl) (λ _ _ _ _ _=>jS (i:=2) qY.nd rfl (Or.inl rfl)) (λ _ _ _ _ _=>kj)
   (λ _ _ _ _ _=>kB Rt (kB LB (pv 0) (pv 2)) jt))),?_⟩
  refine⟨_,rfl,sl,_,rfl,.inl hl,_,rfl,by omega,by omega,λ D hD=>?_⟩;have en:(xs.length:Int).toNat=xs.length:=by simp
  refine E2 (n:=(xs.length:Int).toNat) (λ i H8=>H8=upd H D (.lst (((lG xs.length g.toNat).map V.int).take i))) rfl ?_ ?_
  ·rintro i H8 hi rfl;rw[en] at hi;refine⟨rfl,?_⟩;refine⟨_,rfl,_,rfl,_,_,rfl,rfl,by omega,_,_,rfl,rfl,_,iZ,?_,?_⟩
   ·rw[aU,sizeLine_eq];unfold lG;simp;omega
   ·have e1:(0+(i:Int)).toNat=i:=by omega
    show upd (upd _ D _) D (.lst (_++[V.int (Builtin.bitAnd (g/2^(0+(i:Int)).toNat) 1)]))=_;rw[jL,e1,Qe hg,take_snoc (l:=(lG xs.length g.toNat).map V.int) (x:=V.int (if Ra61.isGoal g.toNat i=true then 1 else 0)) (by unfold lG;rw[ai,ai,aN hi];rfl)]
  ·rintro H8 rfl;rw[en,ay (by unfold lG;simp)];exact h D hD
theorem NN(x y:Int):iD y (x%y)=iD x y:=by
 rw[Int.emod_def,Int.gcd_comm x y]
 simp
def SE:Sp:=λ vs H Q _=>∃a b:Int,vs=[.int a,.int b]/\0<b/\Q (.int (iD a b:Nat)) H
theorem yq(T:Txt K mg t):Ok P w K mg base 1 t.rN t.qD ["number","other"] SE:=by
 refine T.uP.fn.qw mz (λ vs H Q E h=>?_) λ cdv A outer s H vs Q E hr h=>?_
 ·obtain⟨a,b,rfl,_⟩:=h;rfl
 ·obtain⟨a,b,rfl,hb,h⟩:=h
  refine⟨_,ja (mT nJ (lT CS (pv 1) jt (kN _))
    (ja (jB (i:=2) mz.nd rfl (Or.inl rfl) (kB Gz (pv 0) (pv 1)))<|
      ja (jB (i:=0) mz.nd rfl (Or.inl rfl) (pv 1))<|
      jf (jB (i:=1) mz.nd rfl (Or.inl rfl) (pv 2))))<|
   jf (jx (pv 0)),?_⟩
  refine⟨λ m σ H'=>∃(x y:Int) (v2:Option V),σ=[some (.int x),some (.int y),v2]/\0<=y/\(0<x\/0<y)/\iD x y=iD a b/\m=y.toNat/\H'=H,⟨_,a,b,none,rfl,by omega,.inr hb,rfl,rfl,rfl⟩,?_⟩;rintro m σ H' ⟨x,y,v2,rfl,hy,hxy,e,rfl,hH⟩;have hH':=hH.symm;subst hH';refine⟨_,rfl,rfl,_,rfl,?_⟩
  by_cases h0:y=0
  ·subst h0;refine t6 (by rw[mw];rfl) ⟨_,rfl,?_⟩;have hx:0<x:=by omega
   rw[Int.gcd_zero] at e;have ex:x=((iD a b:Nat):Int):=by omega
   rw[ex];exact h
  ·have hy1:0<y:=by omega
   refine tZ (by rw[mw];simpa using h0) ⟨λ σ H'=>∃v2,σ=[some (.int y),some (.int (x%y)),v2]/\H'=H,?_,?_⟩
   ·rintro σ' H' ⟨v2',rfl,hH2⟩;have hlt:=Int.emod_lt_of_pos x hy1;have hge:=Int.emod_nonneg x h0;exact⟨(x%y).toNat,by omega,y,x%y,v2',rfl,hge,.inl (by omega),(NN x y).trans e,rfl,hH2⟩
   ·refine⟨_,rfl,_,rfl,_,_,rfl,rfl,hy1,_,rfl,_,rfl,?_⟩;exact⟨_,rfl,rfl⟩
def Oo(jc bot:V):List (Str×V):=mU "bottom" bot (mU "tops" jc [])
def KW(os es:V):List (Str×V):=mU "ends" es (mU "options" os [])
theorem BZ(a b:V):(Oo a b).lookup ("tops":Str)=some a:=by
 unfold Oo;rw[jn,if_neg (by decide),jn,if_pos rfl]
theorem wX(a b:V):(Oo a b).lookup ("bottom":Str)=some b:=by
 unfold Oo;rw[jn,if_pos rfl]
theorem vd(a b:V):(KW a b).lookup ("options":Str)=some a:=by
 unfold KW;rw[jn,if_neg (by decide),jn,if_pos rfl]
theorem NO(a b:V):(KW a b).lookup ("ends":Str)=some b:=by
 unfold KW;rw[jn,if_pos rfl]
def B0(t:ng):Sp:=λ vs H Q _=>∃x dx a b,vs=[.ref x,a,b]/\H x=some (.ins t.mL dx [])/\Q .pT (upd H x (.ins t.mL dx (Oo a b)))
theorem ve(T:Txt K mg t):Ok P w K mg base 1 t.wc t.uL ["self","tops","bottom"] (B0 t):=by
 refine T.uR.fn.qw AM (λ vs H Q E h=>?_) λ cdv A outer s H vs Q E hr h=>?_
 ·obtain⟨x,dx,a,b,rfl,_⟩:=h;rfl
 ·obtain⟨x,dx,a,b,rfl,hx,h⟩:=h
  refine⟨_,ja (n6 (pv 0) (pv 1) rfl) (jf (n6 (pv 0) (pv 2) rfl)),?_⟩;refine⟨_,rfl,_,rfl,x,_,dx,_,rfl,hx,T.mj.cl,T.oJ,(by show 0<1000;decide),?_⟩;refine⟨_,rfl,_,rfl,x,_,dx,_,rfl,iZ,T.mj.cl,T.nk,(by show 1<1000;decide),?_⟩;rw[jL];exact h
def CJ(t:ng):Sp:=λ vs H Q _=>∃x dx a b,vs=[.ref x,a,b]/\H x=some (.ins t.lJ dx [])/\Q .pT (upd H x (.ins t.lJ dx (KW a b)))
theorem CK(T:Txt K mg t):Ok P w K mg base 1 t.xN t.wg ["self","options","ends"] (CJ t):=by
 refine T.A2.fn.qw Cu (λ vs H Q E h=>?_) λ cdv A outer s H vs Q E hr h=>?_
 ·obtain⟨x,dx,a,b,rfl,_⟩:=h;rfl
 ·obtain⟨x,dx,a,b,rfl,hx,h⟩:=h
  refine⟨_,ja (n6 (pv 0) (pv 1) rfl) (jf (n6 (pv 0) (pv 2) rfl)),?_⟩;refine⟨_,rfl,_,rfl,x,_,dx,_,rfl,hx,T.mS.cl,T.nq,(by show 0<1000;decide),?_⟩;refine⟨_,rfl,_,rfl,x,_,dx,_,rfl,iZ,T.mS.cl,T.xR,(by show 1<1000;decide),?_⟩;rw[jL];exact h
def Jb(t:ng)(H:Hp)(o:Fq.kX)(a:Addr):Prop:=∃dx nm wy ps,H a=some (.ins t.jU dx (zP (.ref nm) (.int o.gain) (.ref wy) (.int o.tot)))/\H nm=some (.tup (jJ o.name))/\H wy=some (.lst (ps.map V.ref))/\Ea (KN H) ps o.ways
theorem Jb.same{H H':Hp}{o:Fq.kX}{a:Addr}(h:Jb t H o a)(k:jk H H'):Jb t H' o a:=by
 obtain⟨dx,nm,wy,ps,h1,h2,h3,h4⟩:=h
 exact⟨dx,nm,wy,ps,k _ _ h1,k _ _ h2,k _ _ h3,h4.mono λ x a h=>k _ _ h⟩
def Jc(t:ng)(H:Hp)(os:List Fq.kX)(a:Addr):Prop:=∃as:List Addr,H a=some (.lst (as.map V.ref))/\Ea (Jb t H) as os
theorem Jc.same{H H':Hp}{os:List Fq.kX}{a:Addr}(h:Jc t H os a)(k:jk H H'):Jc t H' os a:=by
 obtain⟨as,h1,h2⟩:=h
 exact⟨as,k _ _ h1,h2.mono λ x a h=>h.same k⟩
def Qg(c:Ra61.Choice):Fq.kX:=⟨c.name,c.gain,c.ways,(c.weight:Int)⟩
theorem Lm.op{H:Hp}{c:Ra61.Choice}{a:Addr}(h:Lm t H c a):Jb t H (Qg c) a:=by
 obtain⟨dx,nm,wy,ps,h1,h2,h3,h4⟩:=h
 have e:(c.ways.map λ w=>(w.2:Int)).sum=((Qg c).tot):=by
  show _=(((c.ways.map λ w=>w.2).sum:Nat):Int)
  induction c.ways with
  |nil=>rfl
  |cons w r ih=>rw[aT,aT,cV,cV,ih,Int.natCast_add]
 exact⟨dx,nm,wy,ps,by rw[<-e];exact h1,h2,h3,h4⟩
theorem Ea.map{α β:Type}{R:α->Addr->Prop}{S:β->Addr->Prop}{f:α->β}{as:List Addr}{xs:List α}(E:Ea R as xs)(h:∀x a,R x a->S (f x) a):Ea S as (xs.map f):=
 ⟨by rw[ah];exact E.len,λ i y e=>by
  rw[ai] at e
  cases q:xs[i]? with
  |none=>rw[q] at e;cases e
  |some x=>rw[q] at e;cases e;obtain⟨a,e1,e2⟩:=E.at_ i x q;exact⟨a,e1,h x a e2⟩⟩
def Oq(t:ng)(H:Hp)(D:Addr)(o:Fq.kX)(a:Addr):Prop:=∃dx nm wy ps,H a=some (.ins t.jU dx (zP (.ref nm) (.int o.gain) (.ref wy) (.int o.tot)))/\H nm=some (.tup (jJ o.name))/\H wy=some (.lst (ps.map V.ref))/\Ea (KN H) ps o.ways/\wy≠D
def Jd(t:ng)(H:Hp)(D:Addr)(os:List Fq.kX)(a:Addr):Prop:=a≠D/\∃as:List Addr,H a=some (.lst (as.map V.ref))/\Ea (Oq t H D) as os
theorem Oq.op{H:Hp}{D:Addr}{o:Fq.kX}{a:Addr}(h:Oq t H D o a):Jb t H o a:=by
 obtain⟨dx,nm,wy,ps,h1,h2,h3,h4,_⟩:=h
 exact⟨dx,nm,wy,ps,h1,h2,h3,h4⟩
theorem Oq.same{H H':Hp}{D:Addr}{o:Fq.kX}{a:Addr}(h:Oq t H D o a)(k:jk H H'):Oq t H' D o a:=by
 obtain⟨dx,nm,wy,ps,h1,h2,h3,h4,h5⟩:=h
 exact⟨dx,nm,wy,ps,k _ _ h1,k _ _ h2,k _ _ h3,h4.mono λ x a h=>k _ _ h,h5⟩
theorem Oq.put{H:Hp}{D:Addr}{o:Fq.kX}{a:Addr}{xs ys:List V}(h:Oq t H D o a)(hD:H D=some (.lst xs)):Oq t (upd H D (.lst ys)) D o a:=by
 obtain⟨dx,nm,wy,ps,h1,h2,h3,h4,h5⟩:=h
 exact⟨dx,nm,wy,ps,by rw[jd (nH h1 hD (by intro z;cases z))];exact h1,by rw[jd (nH h2 hD (by intro z;cases z))];exact h2,by rw[jd h5];exact h3,h4.mono λ x a h=>by
  show (upd H D (.lst ys)) a=_;rw[jd (nH (show H a=_ from h) hD (by intro z;cases z))];exact h,h5⟩
theorem Jb.new{H H':Hp}{D:Addr}{o:Fq.kX}{a:Addr}(h:Jb t H o a)(hD:H D=none)(k:jk H H'):Oq t H' D o a:=by
 obtain⟨dx,nm,wy,ps,h1,h2,h3,h4⟩:=h
 exact⟨dx,nm,wy,ps,k _ _ h1,k _ _ h2,k _ _ h3,h4.mono λ x a h=>k _ _ h,je h3 hD⟩
theorem Jd.os{H:Hp}{D:Addr}{os:List Fq.kX}{a:Addr}(h:Jd t H D os a):Jc t H os a:=by
 obtain⟨_,as,h1,h2⟩:=h
 exact⟨as,h1,h2.mono λ x a h=>h.op⟩
theorem Jd.same{H H':Hp}{D:Addr}{os:List Fq.kX}{a:Addr}(h:Jd t H D os a)(k:jk H H'):Jd t H' D os a:=by
 obtain⟨h0,as,h1,h2⟩:=h
 exact⟨h0,as,k _ _ h1,h2.mono λ x a h=>h.same k⟩
theorem Jd.put{H:Hp}{D:Addr}{os:List Fq.kX}{a:Addr}{xs ys:List V}(h:Jd t H D os a)(hD:H D=some (.lst xs)):Jd t (upd H D (.lst ys)) D os a:=by
 obtain⟨h0,as,h1,h2⟩:=h
 exact⟨h0,as,by rw[jd h0];exact h1,h2.mono λ x a h=>h.put hD⟩
theorem Jc.new{H H':Hp}{D:Addr}{os:List Fq.kX}{a:Addr}(h:Jc t H os a)(hD:H D=none)(k:jk H H'):Jd t H' D os a:=by
 obtain⟨as,h1,h2⟩:=h
 exact⟨je h1 hD,as,k _ _ h1,h2.mono λ x a h=>h.new hD k⟩
def B3(m:Int)(o:Fq.kX):Fq.kX:=⟨o.name,o.gain*m,o.ways,o.tot⟩
def B4(t:ng)(H0 H:Hp)(o:Fq.kX)(a:Addr):Prop:=∃dx nm wy ps,H a=some (.ins t.jU dx (zP (.ref nm) (.int o.gain) (.ref wy) (.int o.tot)))/\H0 nm=some (.tup (jJ o.name))/\H0 wy=some (.lst (ps.map V.ref))/\Ea (KN H0) ps o.ways
def NP(K:aj)(t:ng):Sp:=λ vs H Q _=>∃(H0:Hp) (cl:Addr) (m:Int) (nL:List Addr) (os:List Fq.kX),vs=[.ref cl,.int m]/\jk H0 H/\(m=0\/m = -1)/\jz K H cl (nL.map V.ref)/\Ea (Jb t H0) nL os/\nL.length<=8 /\
 ∀(D:Addr) (as:List Addr) (H':Hp),jk H H'->H D=none->H' D=some (.lst (as.map V.ref))->Ea (B4 t H0 H') as (os.map (B3 m))->Q (.ref D) H'
theorem B4.op{H0 H:Hp}{o:Fq.kX}{a:Addr}(h:B4 t H0 H o a)(k:jk H0 H):Jb t H o a:=by
 obtain⟨dx,nm,wy,ps,h1,h2,h3,h4⟩:=h
 exact⟨dx,nm,wy,ps,h1,k _ _ h2,k _ _ h3,h4.mono λ x a h=>k _ _ h⟩
theorem B5(T:Txt K mg t):Ok P w K mg base 3 t.vV t.uF ["choices","times"] (NP K t):=by
 refine T.zp.fn.qw qb (λ vs H Q E h=>?_) λ cdv A outer s H vs Q E hr h=>?_
 ·obtain⟨H0,cl,m,nL,os,rfl,_⟩:=h;rfl
 ·obtain⟨H0,cl,m,nL,os,rfl,k0,hm,hl,W,hn,h⟩:=h
  refine⟨_,jf (jx (nI (own:=[("choice",2)]) rfl qb.nd (kK (pv 0)) (jO rfl) (λ _ _ _ _ _=>jS (i:=2) qb.nd rfl (Or.inl rfl)) (λ _ _ _ _ _=>kj)
   (λ _ _ _ _ _=>Ay T.jN T.uQ (u7 T) hr rfl jA (iY (jM K (pv 2) rfl)<|iY (kB ud (jM K (pv 2) rfl) (pv 1))<|iY (jM K (pv 2) rfl)<|iY (jM K (pv 2) rfl) jb)))),?_⟩
  refine⟨_,rfl,cl,rfl,⟨_,hl⟩,λ D hD=>lU (K:=K) (a:=cl) (xs:=nL.map V.ref) (λ i H9=>∃as:List Addr,as.length=i/\jk H H9/\H9 D=some (.lst (as.map V.ref))/\Ea (B4 t H0 H9) as ((os.map (B3 m)).take i))
   ⟨[],rfl,jh hD,iZ,Ea.nil⟩ (λ i H9 _ ⟨_,_,e,_,_⟩=>jk.seq e hl) ?_ ?_⟩
  ·rintro i v H9 hi ⟨as,has,s9,h9,E9⟩;obtain⟨ca,ea,rfl⟩:=lS hi;obtain⟨o,eo,dx,nm,wy,ps,c1,c2,c3,c4⟩:=W.get ea;have VL:=s9 _ _ (k0 _ _ c1);refine⟨rfl,?_⟩;refine⟨_,rfl,ca,_,dx,_,_,rfl,VL,T.jN.cl,T.rj,FZ _ _ _ _,_,rfl,ca,_,dx,_,_,rfl,VL,T.jN.cl,T.oH,ym _ _ _ _,_,rfl,_,_,rfl,rfl,?_,_,rfl,ca,_,dx,_,_,rfl,VL,T.jN.cl,T.lR,u5 _ _ _ _,_,rfl,ca,_,dx,_,_,rfl,VL,T.jN.cl,T.lD,pU _ _ _ _,?_⟩
   ·exact .inr (by rcases hm with rfl | rfl<;>exact⟨by decide,by decide⟩)
   intro x Xk hx Xl hne;refine⟨x,Xk,_,_,_,_,rfl,iZ,rfl,?_⟩;rw[jL];have sm:=oF (u:=.own x) (v:=.ins t.jU Xk (zP (.ref nm) (.int (o.gain*m)) (.ref wy) (.int o.tot))) hx Xl;refine⟨as.map V.ref,sm _ _ h9,?_,as++[x],by simp[has],?_,?_,?_⟩
   ·rw[ah,has,sizeLine_eq];have:=(ao.mp ea).1;omega
   ·intro b ob eb;rw[jd (je eb hD)];exact sm _ _ (s9 _ _ eb)
   ·rw[iZ,bw];rfl
   ·have hDl:=sm _ _ h9;rw[take_snoc (l:=os.map (B3 m)) (x:=B3 m o) (by rw[ai,eo];rfl)];have hxD:x≠D:=λ z=>by rw[z,h9] at hx;cases hx
    refine Ea.snoc (E9.mono λ o' a' h'=>?_) ⟨Xk,nm,wy,ps,by rw[jd hxD];exact iZ,c2,c3,c4⟩;obtain⟨TR,Ur,VG,ps',q1,q2,q3,q4⟩:=h';exact⟨TR,Ur,VG,ps',by rw[jd (nH q1 h9 (by intro z;cases z))];exact sm _ _ q1,q2,q3,q4⟩
  ·rintro H9 ⟨as,has,s9,h9,E9⟩;rw[ah] at has E9;rw[ay (by rw[ah,<-W.len];exact aq _)] at E9;exact h D as H9 s9 hD h9 E9
def NQ(t:ng)(H0 H:Hp)(os:List Fq.kX)(a:Addr):Prop:=∃as:List Addr,H a=some (.lst (as.map V.ref))/\Ea (B4 t H0 H) as os
theorem NQ.os{H0 H:Hp}{os:List Fq.kX}{a:Addr}(h:NQ t H0 H os a)(k:jk H0 H):Jc t H os a:=by
 obtain⟨as,h1,h2⟩:=h
 exact⟨as,h1,h2.mono λ x a h=>h.op k⟩
theorem B4.same{H0 H H':Hp}{o:Fq.kX}{a:Addr}(h:B4 t H0 H o a)(k:jk H H'):B4 t H0 H' o a:=by
 obtain⟨dx,nm,wy,ps,h1,h2,h3,h4⟩:=h
 exact⟨dx,nm,wy,ps,k _ _ h1,h2,h3,h4⟩
theorem NQ.same{H0 H H':Hp}{os:List Fq.kX}{a:Addr}(h:NQ t H0 H os a)(k:jk H H'):NQ t H0 H' os a:=by
 obtain⟨as,h1,h2⟩:=h
 exact⟨as,k _ _ h1,h2.mono λ x a h=>h.same k⟩
theorem B4.put{H0 H:Hp}{o:Fq.kX}{a D:Addr}{xs ys:List V}(h:B4 t H0 H o a)(hD:H D=some (.lst xs)):B4 t H0 (upd H D (.lst ys)) o a:=by
 obtain⟨dx,nm,wy,ps,h1,h2,h3,h4⟩:=h
 exact⟨dx,nm,wy,ps,by rw[jd (nH h1 hD (by intro z;cases z))];exact h1,h2,h3,h4⟩
theorem NQ.put{H0 H:Hp}{os:List Fq.kX}{a D:Addr}{xs ys:List V}(h:NQ t H0 H os a)(hD:H D=some (.lst xs))(ne:a≠D):NQ t H0 (upd H D (.lst ys)) os a:=by
 obtain⟨as,h1,h2⟩:=h
 exact⟨as,by rw[jd ne];exact h1,h2.mono λ x a h=>h.put hD⟩
def DP(N:Ra61.Net)(g:Nat)(m:Int)(s:Nat):List Fq.kX:=if Ra61.isGoal g s=true then [] else (Ra61.choicesOf N s).map (Fq.lX m)
def Qh(K:aj)(t:ng):Sp:=λ vs H Q _=>∃(ml sl:Addr) (m:Int) (N:Ra61.Net) (g:Nat) (nU:List Addr),vs=[.ref ml,.ref sl,.int m]/\(m=0\/m = -1)/\jz K H ml ((lG N.length g).map V.int)/\jz K H sl (nU.map V.ref)/\Ea (Sv t H) nU N/\Fq.Good N /\
 ∀(D:Addr) (ls:List Addr) (H':Hp),jk H H'->H D=none->H' D=some (.lst (ls.map V.ref))->Ea (Jc t H') ls (Fq.tK N g m)->Q (.ref D) H'
theorem NR{n g i:Nat}{v:V}(h:((lG n g).map V.int)[i]? = some v):i<n/\v=.int (if Ra61.isGoal g i=true then 1 else 0):=by
 unfold lG at h
 rw[ai,ai] at h
 by_cases hi:i<n
 ·rw[aN hi] at h
  cases h;exact⟨hi,rfl⟩
 ·rw[cB (by simpa using hi)] at h
  cases h
theorem zQ(T:Txt K mg t):Ok P w K mg base 4 t.uG t.tQ ["marks","states","times"] (Qh K t):=by
 refine T.xP.fn.qw pB (λ vs H Q E h=>?_) λ cdv A outer s H vs Q E hr h=>?_
 ·obtain⟨ml,sl,m,N,g,nU,rfl,_⟩:=h;rfl
 ·obtain⟨ml,sl,m,N,g,nU,rfl,hm,hml,hsl,W,G,h⟩:=h
  refine⟨_,jf (jx (nI (own:=[("mark",3),("state",4)]) rfl pB.nd (DZ (by rfl) T.Iq (iY (pv 0)<|iY (pv 1) jb)) (jO rfl)
   (λ _ _ _ _ _=>ur K (i:=3) (j:=4) rfl pB.nd rfl rfl (Or.inl rfl) (Or.inl rfl)) (λ _ _ _ _ _=>kj)
   (λ _ _ _ _ _=>ua (HZ K (pv 3)) (mq jb) (jG T.zp (B5 T) hr rfl jA (iY (jM K (pv 4) rfl)<|iY (pv 2) jb))))),?_⟩
  have nl:(lG N.length g).length=N.length:=by unfold lG;simp
  have hlen:((lG N.length g).map V.int).length=(nU.map V.ref).length:=by rw[ah,ah,nl,W.len]
  refine⟨_,rfl,_,rfl,ml,sl,_,_,rfl,hml,hsl,λ D hD=>GS (K:=K) (a:=ml) (b:=sl) (xs:=(lG N.length g).map V.int) (ys:=nU.map V.ref) hlen
   (λ i H9=>∃ls:List Addr,ls.length=i/\jk H H9/\H9 D=some (.lst (ls.map V.ref))/\Ea (λ os a=>NQ t H H9 os a/\a≠D) ls ((Fq.tK N g m).take i))
   ⟨[],rfl,jh hD,iZ,Ea.nil⟩ (λ i H9 _ ⟨_,_,e,_,_⟩=>⟨jk.seq e hml,jk.seq e hsl⟩) ?_ ?_⟩
  ·rintro i v u H9 T9 hi hj Qi ⟨ls,hls,s9,h9,E9⟩;obtain⟨hin,rfl⟩:=NR hi;obtain⟨sa,ea,rfl⟩:=lS hj;obtain⟨st,es,dx,nm,cl,nL,c1,c2,c3,c4⟩:=W.get ea;have hu:∀{b o},H9 b=some o->(upd H9 T9 (.tup [.int (if Ra61.isGoal g i=true then 1 else 0),.ref sa])) b=some o:=λ {b o} e=>by rw[jd (je e Qi)];exact e
   have tl:(Fq.tK N g m)[i]? = some (DP N g m i):=by
    unfold Fq.tK;rw[ai,aN hin];rfl
   have lsl:ls.length<sizeLine:=by rw[sizeLine_eq];have:=G.len.2;omega
   refine AB.at iZ ⟨rfl,?_⟩;have Je:jk H (upd H9 T9 (.tup [.int (if Ra61.isGoal g i=true then 1 else 0),.ref sa])):=λ b o e=>hu (s9 b o e)
   have fin:∀(z:Addr) (H4:Hp),jk (upd H9 T9 (.tup [.int (if Ra61.isGoal g i=true then 1 else 0),.ref sa])) H4->NQ t H H4 (DP N g m i) z->z≠D->∃acc,H4 D=some (.lst acc)/\acc.length<sizeLine/\∃ls:List Addr,ls.length=i+1/\jk H (upd H4 D (.lst (acc++[V.ref z]))) /\
     (upd H4 D (.lst (acc++[V.ref z]))) D=some (.lst (ls.map V.ref))/\Ea (λ os a=>NQ t H (upd H4 D (.lst (acc++[V.ref z]))) os a/\a≠D) ls ((Fq.tK N g m).take (i+1)):=λ z H4 k4 hz hne=>by
    have NS:=k4 _ _ (hu h9);refine⟨ls.map V.ref,NS,by rw[ah];exact lsl,ls++[z],by simp[hls],λ b o e=>?_,by rw[iZ,bw];rfl,?_⟩
    ·rw[jd (je e hD)];exact k4 _ _ (hu (s9 _ _ e))
    ·rw[take_snoc tl];exact Ea.snoc (E9.mono λ x a h=>⟨(h.1.same λ b o e=>k4 _ _ (hu e)).put NS h.2,h.2⟩) ⟨hz.put NS hne,hne⟩
   by_cases hg:Ra61.isGoal g i=true
   ·refine⟨_,rfl,true,?_,?_⟩
    ·rw[if_pos hg];rfl
    ·refine tZ rfl ?_;refine⟨by simp,λ z hz=>fin z _ (jh hz) ?_ (λ q=>by rw[q,hu h9] at hz;cases hz)⟩;have e0:DP N g m i=[]:=by unfold DP;rw[if_pos hg]
     rw[e0];exact⟨[],iZ,Ea.nil⟩
   ·refine⟨_,rfl,false,?_,?_⟩
    ·rw[if_neg hg];rfl
    ·have c3':jk H (upd H9 T9 (.tup [.int (if Ra61.isGoal g i=true then 1 else 0),.ref sa])):=Je;have stm:=au es;refine t6 rfl ?_;refine⟨_,rfl,sa,_,dx,_,_,rfl,Je _ _ c1,T.tG.cl,T.pD,zD _ _,_,rfl,H,cl,m,nL,st.choices.map Qg,rfl,Je,hm,.inl (.inl (Je _ _ c3)),c4.map λ x a h=>h.op,by rw[c4.len];exact G.few st stm,?_⟩;intro z as H4 k4 hz hz4 E4;refine fin z H4 k4 ⟨as,hz4,?_⟩ (λ q=>by rw[q,hu h9] at hz;cases hz);have e0:DP N g m i=(Ra61.choicesOf N i).map (Fq.lX m):=by unfold DP;rw[if_neg hg]
     rw[e0];have:(st.choices.map Qg).map (B3 m)=(Ra61.choicesOf N i).map (Fq.lX m):=by
      rw[dw];unfold Ra61.choicesOf;rw[es];rfl
     rw[<-this];exact E4
  ·rintro H9 ⟨ls,hls,s9,h9,E9⟩;rw[ah,nl] at hls E9;rw[ay (by unfold Fq.tK;simp)] at E9;exact h D ls H9 s9 hD h9 (E9.mono λ x a h=>h.1.os s9)
def Ln(K:aj)(t:ng)(H:Hp)(va:Addr)(jc:List Int)(bot:Int):Prop:=∃dv tl,H va=some (.ins t.mL dv (Oo (.ref tl) (.int bot)))/\jz K H tl (jc.map V.int)
theorem Ln.same{H H':Hp}{va:Addr}{jc:List Int}{bot:Int}(h:Ln K t H va jc bot)(k:jk H H'):Ln K t H' va jc bot:=by
 obtain⟨dv,tl,h1,h2⟩:=h
 exact⟨dv,tl,k _ _ h1,k.seq h2⟩
structure Small(o:Fq.kX)(n:Nat):Prop where
 gain:-1000<=o.gain/\o.gain<=1000
 tot:0<o.tot/\o.tot<=16000000
 ways:o.ways.length<=16/\∀w∈o.ways,w.1<n/\w.2<=1000000
theorem Small.gt{o:Fq.kX}{n:Nat}(S:Small o n):-(2^64)<o.gain*o.tot/\o.gain*o.tot<2^64:=by
 obtain⟨a,b⟩:=S.gain
 obtain⟨c,d⟩:=S.tot
 have h1:o.gain*o.tot<=1000*o.tot:=bP b (by omega)
 have h2:(-1000)*o.tot<=o.gain*o.tot:=bP a (by omega)
 constructor<;>omega
theorem SG{α:Type}{xs:List α}{i:Nat}(h:i<xs.length):ES xs (i:Int)=xs[i]?:=by
 unfold ES HL
 rw[if_pos (by omega),bM]
 by_cases q:i<xs.length
 ·simp[q]
 ·exact absurd h q
theorem SH{a b:Int}:ES [V.int a,V.int b] 0=some (.int a):=rfl
theorem Vd{a b:Int}:ES [V.int a,V.int b] 1=some (.int b):=rfl
def KY(K:aj)(t:ng):Sp:=λ vs H Q _=>∃(sf:V) (c va:Addr) (o:Fq.kX) (jc:List Int) (bot:Int),vs=[sf,.ref c,.ref va]/\Jb t H o c/\Ln K t H va jc bot/\Small o jc.length /\
 ∀H',jk H H'->Q (.int (o.top jc bot)) H'
theorem qv{jc:List Int}{i:Nat}(h:i<jc.length):ES (jc.map V.int) (i:Int)=some (.int (jc.getD i 0)):=by
 rw[SG (by rw[ah];exact h),ai,af h,aa,af h]
 rfl
theorem DQ(T:Txt K mg t):Ok P w K mg base 1 t.uN t.tW ["self","choice","values"] (KY K t):=by
 refine T.tF.fn.qw nc (λ vs H Q E h=>?_) λ cdv A outer s H vs Q E hr h=>?_
 ·obtain⟨sf,c,va,o,jc,bot,rfl,_⟩:=h;rfl
 ·obtain⟨sf,c,va,o,jc,bot,rfl,⟨dx,nm,wy,ps,c1,c2,c3,c4⟩,⟨dv,tl,v1,v2⟩,S,h⟩:=h
  refine⟨_,ja (jB (i:=3) nc.nd rfl (Or.inl rfl) (jT (LS rfl) (by rfl) T.QK M2 (iY
    (nI (own:=[("way",4)]) rfl nc.nd (kK (jM K (pv 1) rfl)) (jO rfl) (λ _ _ _ _ _=>jS (i:=4) nc.nd rfl (Or.inl rfl)) (λ _ _ _ _ _=>kj)
     (λ _ _ _ _ _=>kB ud (mh (Om K) (pv 4) jt (λ _ _=>rfl)) (mh (IY K) (jM K (pv 2) rfl) (mh (Om K) (pv 4) jt (λ _ _=>rfl)) (λ _ _=>rfl)))) jb)))<|
   jf (jx (kB Ae (kB ud (kB ud (jM K (pv 1) rfl) (jM K (pv 1) rfl)) (jM K (pv 2) rfl)) (pv 3))),?_⟩
  refine⟨_,rfl,c,_,dx,_,_,rfl,c1,T.jN.cl,T.lR,u5 _ _ _ _,wy,rfl,⟨_,jz.of c3⟩,λ D hD=>lU (K:=K) (a:=wy) (xs:=ps.map V.ref) (λ i H9=>H9=upd H D (.lst (((o.ways.map λ w=>(w.2:Int)*jc.getD w.1 0).map V.int).take i))) rfl (λ i H9 _ e9=>by rw[e9];exact jz.of (by rw[jd (je c3 hD)];exact c3)) ?_ ?_⟩
  ·rintro i v H9 hi rfl;obtain⟨pa,ea,rfl⟩:=lS hi;obtain⟨wv,ew,hw⟩:=c4.get ea;have hk:∀{b u},H b=some u->(upd H D (.lst (((o.ways.map λ w=>(w.2:Int)*jc.getD w.1 0).map V.int).take i))) b=some u:=λ {b u} e=>by rw[jd (je e hD)];exact e
   have wm:=S.ways.2 wv (au ew);refine⟨rfl,?_⟩;refine⟨_,rfl,pa,_,_,_,rfl,rfl,rq.of (hk hw),Vd,_,rfl,va,_,dv,_,_,rfl,hk v1,T.mj.cl,T.oJ,BZ _ _,_,rfl,pa,_,_,_,rfl,rfl,rq.of (hk hw),SH,tl,_,_,_,rfl,rfl,jk.seq (λ b u e=>hk e) v2,qv wm.1,_,_,rfl,rfl,?_,_,iZ,?_,?_⟩
   ·left;constructor<;>omega
   ·rw[aU,sizeLine_eq];have:=S.ways.1;simp;omega
   ·rw[jL,take_snoc (l:=(o.ways.map λ w=>(w.2:Int)*jc.getD w.1 0).map V.int) (x:=V.int ((wv.2:Int)*jc.getD wv.1 0)) (by rw[ai,ai,ew];rfl)]
  ·rintro H9 rfl;rw[ah,show ((o.ways.map λ w=>(w.2:Int)*jc.getD w.1 0).map V.int).take ps.length=(o.ways.map λ w=>(w.2:Int)*jc.getD w.1 0).map V.int from ay (by rw[ah,ah,c4.len];exact aq _)];have sm:=jh (o:=.lst ((o.ways.map λ w=>(w.2:Int)*jc.getD w.1 0).map V.int)) hD;refine⟨D,_,rfl,jz.of iZ,?_⟩;refine⟨_,rfl,c,_,dx,_,_,rfl,sm _ _ c1,T.jN.cl,T.oH,ym _ _ _ _,_,rfl,c,_,dx,_,_,rfl,sm _ _ c1,T.jN.cl,T.lD,pU _ _ _ _,_,_,rfl,rfl,?_,_,rfl,va,_,dv,_,_,rfl,sm _ _ v1,T.mj.cl,T.nk,wX _ _,_,_,rfl,rfl,?_,_,rfl,_,_,rfl,rfl,?_⟩
   ·have:=S.gain;left;constructor<;>omega
   ·exact .inl S.gt
   ·exact h _ sm
theorem zb{a b:V}{m:Str}(h1:(m==("options":Str))=false)(h2:(m==("ends":Str))=false):(KW a b).lookup m=none:=by
 unfold KW
 rw[jn,if_neg (λ z=>by rw[z] at h2;exact absurd h2 (by decide)),jn,if_neg (λ z=>by rw[z] at h1;exact absurd h1 (by decide))]
 rfl
def Ve(t:ng)(H:Hp)(q ol:Addr):Prop:=∃dq en,H q=some (.ins t.lJ dq (KW (.ref ol) en))
theorem Ve.same{H H':Hp}{q ol:Addr}(h:Ve t H q ol)(k:jk H H'):Ve t H' q ol:=by
 obtain⟨dq,en,h⟩:=h
 exact⟨dq,en,k _ _ h⟩
def KZ(K:aj)(t:ng):Sp:=λ vs H Q _=>∃(q ol a b va:Addr) (o p:Fq.kX) (jc:List Int) (bot:Int),vs=[.ref q,.ref a,.ref b,.ref va]/\Ve t H q ol/\Jb t H o a/\Jb t H p b/\Ln K t H va jc bot/\Small o jc.length/\Small p jc.length /\
 ∀H',jk H H'->Q (.bl (o.better p jc bot)) H'
theorem EE(T:Txt K mg t):Ok P w K mg base 2 t.qG t.qg ["self","choice","other","values"] (KZ K t):=by
 refine T.tY.fn.qw wM (λ vs H Q E h=>?_) λ cdv A outer s H vs Q E hr h=>?_
 ·obtain⟨q,ol,a,b,va,o,p,jc,bot,rfl,_⟩:=h;rfl
 ·obtain⟨q,ol,a,b,va,o,p,jc,bot,rfl,hq,ho,hp,hv,So,YD,h⟩:=h
  refine⟨_,jf (jx (oG TJ (kB ud (rG T.mS T.tF (DQ T) hr jA (pv 0) (iY (pv 1)<|iY (pv 3) jb)) (jM K (pv 2) rfl)) (kB ud (rG T.mS T.tF (DQ T) hr jA (pv 0) (iY (pv 2)<|iY (pv 3) jb)) (jM K (pv 1) rfl)) (kN _))),?_⟩;obtain⟨dq,en,q1⟩:=id hq;refine⟨_,rfl,q,dq,_,rfl,q1,zb (by decide) (by decide),_,rfl,_,rfl,.ref q,a,va,o,jc,bot,rfl,ho,hv,So,λ H1 k1=>?_⟩;obtain⟨dx,nm,wy,ps,b1,b2,b3,b4⟩:=hp.same k1;refine⟨_,rfl,b,_,dx,_,_,rfl,b1,T.jN.cl,T.lD,pU _ _ _ _,_,_,rfl,rfl,?_,?_⟩
  ·have:=YD.tot;right;constructor<;>omega
  refine⟨_,rfl,q,dq,_,rfl,k1 _ _ q1,zb (by decide) (by decide),_,rfl,_,rfl,.ref q,b,va,p,jc,bot,rfl,hp.same k1,hv.same k1,YD,λ H2 k2=>?_⟩;obtain⟨dx,nm,wy,ps,a1,a2,a3,a4⟩:=(ho.same k1).same k2;refine⟨_,rfl,a,_,dx,_,_,rfl,a1,T.jN.cl,T.lD,pU _ _ _ _,_,_,rfl,rfl,?_,?_⟩
  ·have:=So.tot;right;constructor<;>omega
  exact⟨_,_,rfl,rfl,h _ (k1.trans k2)⟩
def pk(os:List Fq.kX)(jc:List Int)(bot:Int)(b:Nat):Nat->Nat
 |0=>b
 |j+1=>if ((os.getD j Fq.jD).better (os.getD (pk os jc bot b j) Fq.jD) jc bot)=true then j else pk os jc bot b j
theorem Jf{os:List Fq.kX}{jc:List Int}{bot:Int}{b:Nat}:∀(k j:Nat),j+k=os.length->Fq.kI os jc bot j (os.drop j) (pk os jc bot b j)=pk os jc bot b os.length
 |0,j,h=>by
  have:j=os.length:=by omega
  subst this;rw[List.drop_length];rfl
 |k+1,j,h=>by
  have hj:j<os.length:=by omega
  rw[bC hj];have e:os.getD j Fq.jD=os[j]:=by rw[aa,af hj];rfl
  show Fq.kI os jc bot (j+1) (os.drop (j+1)) (if os[j].better (os.getD (pk os jc bot b j) Fq.jD) jc bot=true then j else pk os jc bot b j)=_;rw[<-e];exact Jf k (j+1) (by omega)
theorem Qj{os:List Fq.kX}{jc:List Int}{bot:Int}{b:Nat}:Fq.pick os jc bot b=pk os jc bot b os.length:=by
 have:=Jf (os:=os) (jc:=jc) (bot:=bot) (b:=b) os.length 0 (by omega)
 rw[List.drop_zero] at this
 exact this
theorem QX{os:List Fq.kX}{jc:List Int}{bot:Int}{b:Nat}(hb:b<os.length):∀j,j<=os.length->pk os jc bot b j<os.length
 |0,_=>hb
 |j+1,h=>by
  unfold pk
  split
  ·omega
  ·exact QX hb j (by omega)
def F3(K:aj)(t:ng):Sp:=λ vs H Q _=>∃(q ol pl va:Addr) (ls:List Addr) (iX:List (List Fq.kX)) (jg jc:List Int) (bot:Int),vs=[.ref q,.ref pl,.ref va]/\Ve t H q ol/\H ol=some (.lst (ls.map V.ref))/\Ea (Jc t H) ls iX /\
 jz K H pl (jg.map V.int)/\Ln K t H va jc bot/\(∀os∈iX,os.length<=8/\∀o∈os,Small o jc.length)/\iX.length<=16/\La.Fits iX iX.length jg /\
 ∀D H',jk H H'->H D=none->H' D=some (.lst ((La.mE iX iX.length jg jc bot).map V.int))->Q (.ref D) H'
theorem F4(T:Txt K mg t):Ok P w K mg base 3 t.rT t.qH ["self","plan","values"] (F3 K t):=by
 refine T.uU.fn.qw mD (λ vs H Q E h=>?_) λ cdv A outer s H vs Q E hr h=>?_
 ·obtain⟨q,ol,pl,va,ls,iX,jg,jc,bot,rfl,_⟩:=h;rfl
 ·obtain⟨q,ol,pl,va,ls,iX,jg,jc,bot,rfl,hq,Lo,W,hpl,hv,S,hn,F,h⟩:=h
  refine⟨_,ja (jB (i:=3) mD.nd rfl (Or.inl rfl) (vh xg (by rfl) T.G3 Ir (iY (pv 1) jb)))<|
   ja (qN nJ rfl (zT (by rfl) T.qJ (iY (jM K (pv 0) rfl) jb)) (ur K (i:=4) (j:=5) rfl mD.nd rfl rfl (Or.inl rfl) (Or.inl rfl))
    (jf (qN nJ rfl (zT (by rfl) T.qJ (iY (pv 5) jb)) (ur K (i:=6) (j:=7) rfl mD.nd rfl rfl (Or.inl rfl) (Or.inl rfl))
     (jf (rA (pW (rG T.mS T.tY (EE T) hr jA (pv 0) (iY (pv 7)<|iY (mh (IY K) (pv 5) (mh (IY K) (pv 3) (pv 4) (λ _ _=>rfl)) (λ _ _=>rfl))<|iY (pv 2) jb)))
      (jf (yx (pv 6) (yw (pv 3) (pv 4) set_list))) m7)))))<|
   jf (jx (pv 3)),?_⟩
  refine⟨_,rfl,pl,_,rfl,.inl hpl,λ D hD=>?_⟩;have s0:=jh (o:=.lst (jg.map V.int)) hD;obtain⟨dq,en,q1⟩:=id hq;refine⟨_,rfl,q,_,dq,_,_,rfl,s0 _ _ q1,T.mS.cl,T.nq,vd _ _,ol,_,rfl,jz.of (s0 _ _ Lo),?_⟩;have bl:(La.mE iX iX.length jg jc bot).length=iX.length:=by simp[La.mE]
  have pll:jg.length=iX.length:=F.len;refine AA (K:=K) (a:=ol) (xs:=ls.map V.ref) (λ i σ H9=>∃v4 v5 v6 v7,σ=[some (.ref q),some (.ref pl),some (.ref va),some (.ref D),v4,v5,v6,v7]/\jk H H9/\H9 D=some (.lst (((La.mE iX iX.length jg jc bot).take i++jg.drop i).map V.int)))
   ⟨none,none,none,none,rfl,s0,by rw[gy,List.drop_zero,dH];exact iZ⟩ (λ i σ H9 _ ⟨_,_,_,_,_,e,_⟩=>jz.of (e _ _ Lo)) ?_ ?_
  ·rintro i x σ H9 T9 hi Qi ⟨v4,v5,v6,v7,rfl,s9,h9⟩;obtain⟨l,el,rfl⟩:=lS hi;obtain⟨os,eo,as,l1,l2⟩:=W.get el;have hin:i<iX.length:=(ao.mp eo).1;have go:iX.getD i []=os:=by rw[aa,eo];rfl
   obtain⟨o8,So⟩:=S os (au eo);have Xm:jk H9 (upd H9 T9 (.tup [.int (i:Nat),.ref l])):=jh Qi;have gp:jg.drop i=jg.getD i 0::jg.drop (i+1):=by
    rw[bC (by omega),aa,af (by omega)];rfl
   let cur:Nat->Int:=λ j=>if os.length=0 then jg.getD i 0 else ((pk os jc bot (jg.getD i 0).toNat j:Nat):Int)
   let row:Int->List V:=λ x=>((La.mE iX iX.length jg jc bot).take i++x::jg.drop (i+1)).map V.int
   have Xn:((La.mE iX iX.length jg jc bot).take i).length=i:=by rw[aU,bl];omega
   have c0:cur 0=jg.getD i 0:=by
    show (if os.length=0 then jg.getD i 0 else ((jg.getD i 0).toNat:Int))=_
    split
    ·rfl
    ·rename_i ne
     have:=(F.at_ i hin (by rw[go];exact ne)).1;omega
   have rowAt:∀x,ES (row x) (i:Int)=some (.int x):=λ x=>sO (by
    show (((La.mE iX iX.length jg jc bot).take i++x::jg.drop (i+1)).map V.int)[i]? = _;rw[ai,cP (by omega),Xn,iV];rfl)
   have SI:∀x,(row x).length=iX.length:=λ x=>by
    show (((La.mE iX iX.length jg jc bot).take i++x::jg.drop (i+1)).map V.int).length=_;rw[ah,aE,Xn,aJ,fK];omega
   have SJ:∀x y,(row x).set i (.int y)=row y:=λ x y=>by
    show (((La.mE iX iX.length jg jc bot).take i++x::jg.drop (i+1)).map V.int).set i (V.int y)=_;rw[<-List.map_set,List.set_append_right _ _ (by omega),Xn,iV];rfl
   refine AB.at iZ ?_;refine⟨_,rfl,l,_,rfl,jz.of (Xm _ _ (s9 _ _ l1)),?_⟩;refine AA (K:=K) (a:=l) (xs:=as.map V.ref) (λ j σ H8=>∃v6 v7,σ=[some (.ref q),some (.ref pl),some (.ref va),some (.ref D),some (.int (i:Nat)),some (.ref l),v6,v7]/\jk H H8/\H8 D=some (.lst (row (cur j))))
    ⟨v6,v7,rfl,s9.trans Xm,by rw[c0];rw[gp] at h9;exact Xm _ _ h9⟩ (λ j σ H8 _ ⟨_,_,_,e,_⟩=>jz.of (e _ _ l1)) ?_ ?_
   ·rintro j x σ H8 T8 hj Vf ⟨w6,w7,rfl,s8,h8⟩;obtain⟨a,ea,rfl⟩:=lS hj;obtain⟨o,SK,ho⟩:=l2.get ea;have hjl:j<os.length:=(ao.mp SK).1;have ne:os.length≠0:=by omega
    have YE:os.getD j Fq.jD=o:=by rw[aa,SK];rfl
    have fit:=F.at_ i hin (by rw[go];exact ne);rw[go] at fit;have Xo:=QX (jc:=jc) (bot:=bot) fit.2 j (by omega);have cj:cur j=((pk os jc bot (jg.getD i 0).toNat j:Nat):Int):=if_neg ne;obtain⟨b,eb,hb⟩:=l2.at_ _ _ (af Xo);have YF:os.getD (pk os jc bot (jg.getD i 0).toNat j) Fq.jD=os[pk os jc bot (jg.getD i 0).toNat j]:=by rw[aa,af Xo];rfl
    have YG:jk H8 (upd H8 T8 (.tup [.int (j:Nat),.ref a])):=jh Vf;have sH:=s8.trans YG;have YH:=YG _ _ h8;refine AB.at iZ ?_;refine⟨_,rfl,q,dq,_,rfl,sH _ _ q1,zb (by decide) (by decide),_,rfl,_,rfl,_,rfl,_,rfl,D,_,_,_,rfl,rfl,jz.of YH,rowAt _,l,_,_,.ref b,rfl,rfl,jz.of (sH _ _ l1),?_,_,rfl,q,ol,a,b,va,o,os[pk os jc bot (jg.getD i 0).toNat j],jc,bot,rfl,hq.same sH,ho.same sH,hb.same sH,hv.same sH,So o (au SK),So _ (aV Xo),λ H7 k7=>⟨_,rfl,?_⟩⟩
    ·rw[cj];exact sO (by rw[ai,eb];rfl)
    ·have h7:=k7 _ _ YH
     by_cases c:o.better os[pk os jc bot (jg.getD i 0).toNat j] jc bot=true
     ·refine tZ c ?_;have e1:cur (j+1)=(j:Int):=by
       show (if os.length=0 then jg.getD i 0 else ((pk os jc bot (jg.getD i 0).toNat (j+1):Nat):Int))=_;rw[if_neg ne];show (((if (os.getD j Fq.jD).better (os.getD (pk os jc bot (jg.getD i 0).toNat j) Fq.jD) jc bot=true then j else _):Nat):Int)=_;rw[YE,YF,if_pos c]
      refine⟨_,rfl,_,rfl,_,rfl,D,_,(i:Int),i,rfl,rfl,h7,?_,?_⟩
      ·unfold HL;rw[SI,if_pos (by omega),if_pos (by omega),bM]
      ·refine⟨_,_,rfl,λ b' u' e'=>?_,?_⟩
       ·rw[jd (je e' hD)];exact k7 _ _ (sH _ _ e')
       ·rw[iZ,SJ,e1]
     ·have c':o.better os[pk os jc bot (jg.getD i 0).toNat j] jc bot=false:=by simpa using c
      refine t6 c' ?_;have e1:cur (j+1)=cur j:=by
       rw[cj];show (if os.length=0 then jg.getD i 0 else ((pk os jc bot (jg.getD i 0).toNat (j+1):Nat):Int))=_;rw[if_neg ne];show (((if (os.getD j Fq.jD).better (os.getD (pk os jc bot (jg.getD i 0).toNat j) Fq.jD) jc bot=true then j else _):Nat):Int)=_;rw[YE,YF,if_neg c]
      exact⟨_,_,rfl,sH.trans k7,by rw[e1];exact h7⟩
   ·rintro σ H8 ⟨w6,w7,rfl,s8,h8⟩;refine⟨_,_,_,_,rfl,s8,?_⟩;rw[ah,l2.len] at h8;rw[h8];have bi:(La.mE iX iX.length jg jc bot)[i]? = some (cur os.length):=by
     unfold La.mE;rw[ai,aN hin];show some (if (iX.getD i []).length=0 then jg.getD i 0 else ((Fq.pick (iX.getD i []) jc bot (jg.getD i 0).toNat:Nat):Int))=some (if os.length=0 then jg.getD i 0 else ((pk os jc bot (jg.getD i 0).toNat os.length:Nat):Int));rw[go,Qj]
    rw[take_snoc bi,cG];rfl
  ·rintro σ H9 ⟨v4,v5,v6,v7,rfl,s9,h9⟩;rw[ah,W.len,ay (by rw[bl];exact aq _),List.drop_of_length_le (by rw[pll];exact aq _),cQ] at h9;exact⟨_,rfl,h D H9 s9 hD h9⟩
structure F5(jc:List Int)(bot:Int)(B:Nat):Prop where
 jc:∀x∈jc,x.natAbs<2^B
 bot:bot.natAbs<2^B
 B:B<=1000000
theorem F6:∀d,d<10->(Nat.digitChar d).toNat=48+d
 |0,_ | 1,_ | 2,_ | 3,_ | 4,_ | 5,_ | 6,_ | 7,_ | 8,_ | 9,_=>rfl
 |n+10,h=>by omega
theorem zc{n:Nat}(h:n<10):Ra61.decimal n=[48+n]:=by
 unfold Ra61.decimal
 rw[Nat.toDigits_of_lt_base h]
 simp[F6 n h]
theorem EF{n:Nat}(h:10<=n):Ra61.decimal n=Ra61.decimal (n/10)++[48+n%10]:=by
 unfold Ra61.decimal
 rw[Nat.toDigits_of_base_le (by decide) h,bw]
 simp[F6 (n%10) (by omega)]
def Hy:Nat:=2^2000000
def K0(K:aj):Sp:=λ vs H Q _=>∃n:Nat,vs=[.int (n:Int)]/\n<Hy/\∀D H',jk H H'->H D=none->H' D=some (.lst (jJ (Ra61.decimal n)))->Q (.ref D) H'
theorem yr(T:Txt K mg t):Ok P w K mg base 1 t.zl t.xG ["number"] (K0 K):=by
 refine T.digits_of.fn.qw tw (λ vs H Q E h=>?_) λ cdv A outer s H vs Q E hr h=>?_
 ·obtain⟨n,rfl,_⟩:=h;rfl
 ·obtain⟨n,rfl,hn,h⟩:=h
  refine⟨_,ja (jB (i:=1) tw.nd rfl (Or.inl rfl) (mq (iY (kB Ae (j9 T.G2 rfl) (kB Gz (pv 0) jt)) jb)))<|
   ja (mT nJ (lT TM (pv 0) jt (kN _))
    (ja (Rk (i:=0) tw.nd rfl (Or.inl rfl) jt LC)<|
      jf (jH (CZ bV cX cY vj (pv 1) (iY (kB Ae (j9 T.G2 rfl) (kB Gz (pv 0) jt)) jb)))))<|
   jf (jx (GU rfl (by rfl) T.G3 (by rfl) T.G4 (pv 1))),?_⟩
  refine⟨_,rfl,_,_,rfl,rfl,(show (0:Int)<10 by decide),_,_,rfl,rfl,by rw[sizeLine_eq];simp,λ D hD=>?_⟩;have k0:=jh (o:=.lst [V.int (48+(n:Int)%10)]) hD;refine⟨λ m σ H'=>∃(x:Nat) (ds:List Nat),σ=[some (.int (x:Int)),some (.ref D)]/\jk H H'/\H' D=some (.lst (jJ ds))/\Ra61.decimal n=(if 10<=x then Ra61.decimal (x/10) else [])++ds.reverse/\x*10^(ds.length-1)<=n/\1<=ds.length/\x=m,
   ⟨_,n,[48+n%10],rfl,k0,?_,?_,?_,?_,rfl⟩,?_⟩
  ·rw[iZ];have e:(48:Int)+(n:Int)%10=((48+n%10:Nat):Int):=by push_cast;rfl
   show some (HO.lst [V.int (48+(n:Int)%10)])=_;rw[e];rfl
  ·by_cases Qk:10<=n
   ·rw[if_pos Qk,EF Qk];rfl
   ·rw[if_neg Qk,zc (by omega),c9 (by omega)];rfl
  ·simp
  ·simp
  ·rintro m σ H' ⟨x,ds,rfl,k1,h1,inv,big,one,rfl⟩;refine⟨_,rfl,_,_,rfl,rfl,_,rfl,?_⟩
   by_cases Qk:10<=x
   ·refine tZ (by rw[decide_eq_true_eq];omega) ⟨λ σ H2=>∃(ds:List Nat),σ=[some (.int ((x/10:Nat):Int)),some (.ref D)]/\jk H H2/\H2 D=some (.lst (jJ ds))/\Ra61.decimal n=(if 10<=x/10 then Ra61.decimal (x/10/10) else [])++ds.reverse/\(x/10)*10^(ds.length-1)<=n/\1<=ds.length,?_,?_⟩
    ·rintro σ2 H2 ⟨ds2,rfl,a1,a2,a3,a4,a5⟩;exact⟨x/10,by omega,x/10,ds2,rfl,a1,a2,a3,a4,a5,rfl⟩
    ·refine⟨_,rfl,_,_,rfl,rfl,⟨by decide,by decide⟩,?_⟩;have pw:2^(ds.length-1)<=10^(ds.length-1):=gf (by decide) _;have pw2:10^(ds.length-1)<=x*10^(ds.length-1):=Nat.le_mul_of_pos_left _ (by omega);have ln:ds.length-1<2000000:=by
      have:2^(ds.length-1)<2^2000000:=bF (bg pw (bg pw2 big)) (show n<2^2000000 from hn);exact (eW (by decide)).mp this
     refine⟨_,rfl,.inl ⟨rfl,_,jz.of h1⟩,_,rfl,_,_,rfl,rfl,(show (0:Int)<10 by decide),_,_,rfl,rfl,D,_,_,rfl,rfl,h1,by rw[jV,sizeLine_eq];omega,?_⟩;refine⟨ds++[48+x/10%10],rfl,λ b u e=>?_,?_,?_,?_,by simp⟩
     ·rw[jd (je e hD)];exact k1 _ _ e
     ·rw[iZ];have e:(48:Int)+(x:Int)/10%10=((48+x/10%10:Nat):Int):=by push_cast;rfl
      show some (HO.lst (jJ ds++[V.int (48+(x:Int)/10%10)]))=_;rw[e];unfold jJ;rw[bw];rfl
     ·rw[inv,if_pos Qk,List.reverse_append]
      by_cases q:10<=x/10
      ·rw[if_pos q,EF q];simp
      ·rw[if_neg q,zc (by omega),c9 (show x/10<10 by omega)];simp
     ·rw[aE];show x/10*10^(ds.length+1-1)<=n;have e1:ds.length+1-1=ds.length-1+1:=by omega
      rw[e1,b9,<-iH,Nat.mul_right_comm];refine bg (eB _ ?_) big;omega
   ·refine t6 (by rw[decide_eq_false_iff_not];omega) ?_;refine⟨_,rfl,D,_,rfl,jz.of h1,λ D2 Lk=>?_⟩;have k2:=jh (o:=.lst (jJ ds).reverse) Lk;refine h D2 _ (k1.trans k2) (k1.free Lk) ?_;rw[iZ,inv,if_neg Qk,dH];unfold jJ;rw[List.map_reverse]
def Ql(K:aj):Sp:=λ vs H Q _=>∃(z:Int) (d:Nat),vs=[.int z,.int (d:Int)]/\0<d/\z.natAbs<Hy/\d<Hy/\∀D H',jk H H'->H D=none->H' D=some (.lst (jJ (Ra61.frac z d)))->Q (.ref D) H'
theorem Jg:∀n:Nat,n≠0->10^((Ra61.decimal n).length-1)<=n/\1<=(Ra61.decimal n).length:=by
 intro n
 induction n using g6 with
 |_ n ih=>
  intro h0
  by_cases h:10<=n
  ·obtain⟨a,b⟩:=ih (n/10) (by omega) (by omega);rw[EF h,aE];refine⟨?_,by simp⟩;show 10^((Ra61.decimal (n/10)).length+1-1)<=n;have e:(Ra61.decimal (n/10)).length+1-1=(Ra61.decimal (n/10)).length-1+1:=by omega
   rw[e,b9];have:=eB 10 a;omega
  ·rw[zc (by omega)];exact⟨by show 1<=n;omega,by simp⟩
theorem Jh{n:Nat}(h:n<Hy):(Ra61.decimal n).length<=2000001:=by
 by_cases h0:n=0
 ·subst h0;decide
 ·obtain⟨a,b⟩:=Jg n h0
  have p1:2^((Ra61.decimal n).length-1)<=10^((Ra61.decimal n).length-1):=gf (by decide) _;have p2:2^((Ra61.decimal n).length-1)<2^2000000:=bF (bg p1 a) (show n<2^2000000 from h);have:=(eW (by decide)).mp p2;omega
theorem SM:bootBuiltins "abs" = some (.builtin "abs"):=by decide +kernel
theorem zd(T:Txt K mg t)(hN:base.NoSeer)(hP:P.given.tree=none):Ok P w K mg base 36 t.pC t.rO ["top","bottom"] (Ql K):=by
 refine T.wo.fn.qw mR (λ vs H Q E h=>?_) λ cdv A outer s H vs Q E hr h=>?_
 ·obtain⟨z,d,rfl,_⟩:=h;rfl
 ·have QY:(A.deeper (envOfC "fraction_told" (ji m9) s.heap.objs.size t.pC cdv)).depth+Builtin.pylongFrames<recursionLimit:=by
   have:=hr.dp;show _+100<_;omega
  obtain⟨z,d,rfl,hd,hz,hd2,h⟩:=h;have hr1:=hr.mono (show 1<=35 by decide);refine⟨_,ja (jB (i:=2) mR.nd rfl (Or.inl rfl) (jG T.uP (yq T) hr1 rfl jA (iY (pv 0)<|iY (pv 1) jb)))<|
   ja (jB (i:=3) mR.nd rfl (Or.inl rfl) (jG T.digits_of (yr T) hr1 rfl jA (iY (kB (Ft hN hP rfl rfl rfl QY) (jT LJ (by rfl) T.Uy SM (iY (pv 0) jb)) (pv 2)) jb)))<|
   ja (rA (lT CS (pv 1) (pv 2) (kN _))
    (jf (jB (i:=3) mR.nd rfl (Or.inl rfl) (kB wF (kB wF (pv 3) (mq (iY (j9 T.Ip rfl) jb))) (jG T.digits_of (yr T) hr1 rfl jA (iY (kB (Ft hN hP rfl rfl rfl QY) (pv 1) (pv 2)) jb))))) m7)<|
   jf (jx (ua (lT LF (pv 0) jt (kN _)) (kB wF (mq (iY (j9 T.Io rfl) jb)) (pv 3)) (pv 3))),?_⟩
  have g0:0<br z.natAbs d:=cW _ hd;have eg:(iD z (d:Int):Nat)=br z.natAbs d:=rfl;refine⟨_,rfl,_,rfl,z,(d:Int),rfl,by omega,?_⟩;have gd:br z.natAbs d ∣ d:=gC _ _;have ea:(if z<0 then -z else z)/((br z.natAbs d:Nat):Int)=((z.natAbs/br z.natAbs d:Nat):Int):=by
   rw[show (if z<0 then -z else z)=(z.natAbs:Int) by split<;>omega]
   push_cast;rfl
  have l1:z.natAbs/br z.natAbs d<Hy:=bF (f6 _ _) hz;have l2:d/br z.natAbs d<Hy:=bF (f6 _ _) hd2;have ln1:=Jh l1;have ln2:=Jh l2;refine⟨_,rfl,z,rfl,_,rfl,_,_,rfl,rfl,(show (0:Int)<((br z.natAbs d:Nat):Int) by omega),z.natAbs/br z.natAbs d,?_,l1,λ D1 H1 k1 hD1 h1=>?_⟩
  ·show [V.int ((if z<0 then -z else z)/((br z.natAbs d:Nat):Int))]=_;rw[ea]
  have fin:∀(D:Addr) (H2:Hp) (bs:List Nat) (v:V),jk H H2->H D=none->H2 D=some (.lst (jJ bs))->bs.length<=5000000->Ra61.frac z d=(if z<0 then [45] else [])++bs ->
    OB (XE (LG (Qz (Gm λ i j=>V.bl (decide (i<j))) (wY 0) (tC (V.int 0)))) (Qz Ua (TV (Al (tC (V.int 45)) EN)) (wY 3)) (wY 3)) { nx:=λ x H'=>Q V.pT H',rt:=Q } [some (.int z),some (.int (d:Int)),some v,some (.ref D)] H2:=by
   intro D H2 bs v k2 hD h2 hb e;refine⟨_,rfl,_,_,rfl,rfl,_,rfl,?_⟩
   by_cases hn:z<0
   ·refine tZ (decide_eq_true hn) ?_;refine⟨by rw[sizeLine_eq];simp,λ D3 Xp=>?_⟩;have k3:=jh (o:=.lst [V.int 45]) Xp;refine⟨_,rfl,D3,D,_,_,rfl,rfl,iZ,k3 _ _ h2,by rw[jV,sizeLine_eq];simp;omega,λ D4 NS=>?_⟩;have k4:=jh (o:=.lst ([V.int 45]++jJ bs)) NS;refine h D4 _ ((k2.trans k3).trans k4) ((k2.trans k3).free NS) ?_;rw[iZ,e,if_pos hn];rfl
   ·refine t6 (decide_eq_false hn) ?_;refine⟨_,rfl,h D H2 k2 hD ?_⟩;rw[h2,e,if_neg hn];rfl
  by_cases hq:d=br z.natAbs d
  ·refine⟨_,rfl,_,rfl,rfl,_,rfl,t6 ?_ ?_⟩
   ·rw[mw];simp[eg,<-hq]
   ·refine fin D1 H1 _ _ k1 hD1 h1 (by omega) ?_;unfold Ra61.frac;dsimp only;rw[if_pos (show d/br z.natAbs d=1 by rw[<-hq];exact Nat.div_self hd),cQ]
  ·refine⟨_,rfl,_,rfl,rfl,_,rfl,tZ ?_ ?_⟩
   ·rw[mw];simp[eg];omega
   ·have ed:(d:Int)/((br z.natAbs d:Nat):Int)=((d/br z.natAbs d:Nat):Int):=by push_cast;rfl
    refine⟨_,rfl,by rw[sizeLine_eq];simp,λ D2 Lk=>?_⟩;have k2:=jh (o:=.lst [V.int 47]) Lk;refine⟨D1,D2,_,_,rfl,rfl,k2 _ _ h1,iZ,by rw[jV,sizeLine_eq];simp;omega,λ D3 Xp=>?_⟩;have k3:=jh (o:=.lst (jJ (Ra61.decimal (z.natAbs/br z.natAbs d))++[V.int 47])) Xp;refine⟨_,rfl,_,rfl,_,_,rfl,rfl,(show (0:Int)<((br z.natAbs d:Nat):Int) by omega),d/br z.natAbs d,?_,l2,λ D4 H4 k4 NS h4=>?_⟩
    ·show [V.int ((d:Int)/((br z.natAbs d:Nat):Int))]=_;rw[ed]
    ·refine⟨D3,D4,_,_,rfl,rfl,k4 _ _ iZ,h4,by rw[aE,jV,jV,sizeLine_eq];simp;omega,λ D5 YI=>?_⟩;have k5:=jh (o:=.lst (jJ (Ra61.decimal (z.natAbs/br z.natAbs d))++[V.int 47]++jJ (Ra61.decimal (d/br z.natAbs d)))) YI;have K5:=(((k1.trans k2).trans k3).trans k4)
     refine fin D5 _ (Ra61.decimal (z.natAbs/br z.natAbs d)++47::Ra61.decimal (d/br z.natAbs d)) _ (K5.trans k5) (K5.free YI) ?_ (by simp;omega) ?_
     ·rw[iZ];unfold jJ;simp
     ·unfold Ra61.frac;dsimp only;have:¬d/br z.natAbs d=1:=λ q=>hq (by
       have:=Nat.div_mul_cancel gd;rw[q,Nat.one_mul] at this;exact this.symm)
      rw[if_neg this,cG]
theorem F7{n B:Nat}(h:n<2^B):(Ra61.decimal n).length<=B+1:=by
 by_cases h0:n=0
 ·subst h0
  show ([48]:List Nat).length<=B+1;simp
 ·obtain⟨a,b⟩:=Jg n h0
  have p1:2^((Ra61.decimal n).length-1)<=10^((Ra61.decimal n).length-1):=gf (by decide) _;have:=(eW (by decide)).mp (bF (bg p1 a) h);omega
theorem NT{z:Int}{d B:Nat}(hz:z.natAbs<2^B)(hd:d<2^B):(Ra61.frac z d).length<=2*B+4:=by
 have l1:=F7 (bF (f6 z.natAbs (br z.natAbs d)) hz)
 have l2:=F7 (bF (f6 d (br z.natAbs d)) hd)
 unfold Ra61.frac
 dsimp only
 rw[aE,aE]
 have a:(if z<0 then [45] else ([]:List Nat)).length<=1:=by split<;>simp
 have b:(if d/br z.natAbs d=1 then ([]:List Nat) else 47::Ra61.decimal (d/br z.natAbs d)).length<=(Ra61.decimal (d/br z.natAbs d)).length+1:=by split<;>simp
 omega
theorem NU{n B:Nat}(h:n<2^B)(hB:B<=100000):n<Hy:=
 aH h (dY (by decide) (bg hB (by decide)))
abbrev YJ(H:Hp)(ws:List Addr)(words:List (List Nat)):Prop:=Ea (λ bs a=>H a=some (.lst (jJ bs))) ws words
def Qm(K:aj)(t:ng):Sp:=λ vs H Q _=>∃(va:Addr) (jc:List Int) (d B:Nat),vs=[.ref va]/\Ln K t H va jc (d:Int)/\0<d/\F5 jc (d:Int) B/\B<=100000/\jc.length<=16 /\
 ∀D ws H',jk H H'->H D=none->H' D=some (.lst (ws.map V.ref))->YJ H' ws (jc.map λ z=>Ra61.frac z d)->Q (.ref D) H'
theorem Qn(T:Txt K mg t)(hN:base.NoSeer)(hP:P.given.tree=none):Ok P w K mg base 37 t.we t.uM ["self"] (Qm K t):=by
 refine T.zu.fn.qw qc (λ vs H Q E h=>?_) λ cdv A outer s H vs Q E hr h=>?_
 ·obtain⟨va,jc,d,B,rfl,_⟩:=h;rfl
 ·obtain⟨va,jc,d,B,rfl,⟨dv,tl,v1,v2⟩,hd,Z,hB,hn,h⟩:=h
  refine⟨_,jf (jx (nI (own:=[("top",1)]) rfl qc.nd (kK (jM K (pv 0) rfl)) (jO rfl) (λ _ _ _ _ _=>jS (i:=1) qc.nd rfl (Or.inl rfl)) (λ _ _ _ _ _=>kj)
   (λ _ _ _ _ _=>jG T.wo (zd T hN hP) hr rfl jA (iY (pv 1)<|iY (jM K (pv 0) rfl) jb)))),?_⟩
  refine⟨_,rfl,va,_,dv,_,_,rfl,v1,T.mj.cl,T.oJ,BZ _ _,tl,rfl,⟨_,v2⟩,λ D hD=>lU (K:=K) (a:=tl) (xs:=jc.map V.int) (λ i H9=>∃ws:List Addr,ws.length=i/\jk H H9/\H9 D=some (.lst (ws.map V.ref))/\Ea (λ bs a=>H9 a=some (.lst (jJ bs))/\a≠D) ws ((jc.map λ z=>Ra61.frac z d).take i))
   ⟨[],rfl,jh hD,iZ,Ea.nil⟩ (λ i H9 _ ⟨_,_,e,_,_⟩=>jk.seq e v2) ?_ ?_⟩
  ·rintro i x H9 hi ⟨ws,hw,s9,h9,E9⟩;obtain⟨z,ez,rfl⟩:∃z,jc[i]? = some z/\x=.int z:=by
    rw[ai] at hi
    cases q:jc[i]? with
    |none=>rw[q] at hi;cases hi
    |some z=>rw[q] at hi;cases hi;exact⟨z,rfl,rfl⟩
   have hin:i<jc.length:=(ao.mp ez).1;refine⟨rfl,?_⟩;refine⟨_,rfl,_,rfl,va,_,dv,_,_,rfl,s9 _ _ v1,T.mj.cl,T.nk,wX _ _,z,d,rfl,hd,NU (Z.jc z (au ez)) hB,NU (by have:=Z.bot;simpa using this) hB,λ a H8 k8 ha h8=>?_⟩;have U9:=k8 _ _ h9;have hne:a≠D:=λ q=>by rw[q,h9] at ha;cases ha
   refine⟨ws.map V.ref,U9,by rw[ah,hw,sizeLine_eq];omega,ws++[a],by simp[hw],λ b u e=>?_,by rw[iZ,bw];rfl,?_⟩
   ·rw[jd (je e hD)];exact k8 _ _ (s9 _ _ e)
   ·rw[take_snoc (l:=jc.map λ z=>Ra61.frac z d) (x:=Ra61.frac z d) (by rw[ai,ez];rfl)];exact Ea.snoc (E9.mono λ bs b hb=>⟨by rw[jd hb.2];exact k8 _ _ hb.1,hb.2⟩) ⟨by rw[jd hne];exact h8,hne⟩
  ·rintro H9 ⟨ws,hw,s9,h9,E9⟩;rw[ah] at hw E9;rw[ay (by simp)] at E9;exact h D ws H9 s9 hD h9 (E9.mono λ bs a hb=>hb.1)
def B6(x bs:List Nat):List Nat:=x++[32]++bs++[10]
def mr:List (List Nat)->List (List Nat)->List Nat
 |x::xs,b::bs=>B6 x b++mr xs bs
 |_,_=>[]
theorem zE:∀{xs bs:List (List Nat)}{x b:List Nat},xs.length=bs.length->mr (xs++[x]) (bs++[b])=mr xs bs++B6 x b
 |[],[],x,b,_=>by simp[mr]
 |y::xs,c::bs,x,b,h=>by
  simp only[fO,mr]
  rw[zE (by simpa using h),cG]
theorem B7:∀{xs bs:List (List Nat)},(∀x∈xs,x.length<=100)->(∀b∈bs,b.length<=250000)->(mr xs bs).length<=xs.length*250102
 |[],_,_,_=>by simp[mr]
 |x::xs,[],_,_=>by simp[mr]
 |x::xs,b::bs,h1,h2=>by
  have i:=B7 (xs:=xs) (bs:=bs) (λ y hy=>h1 y (by simp[hy])) λ y hy=>h2 y (by simp[hy])
  have a:=h1 x (by simp);have c:=h2 b (by simp);simp only[mr,B6,aE,aJ,List.length_nil]
  omega
def NV(K:aj)(t:ng):Sp:=λ vs H Q E=>∃(sl wl:Addr) (room:Int) (N:Ra61.Net) (ws:List Addr) (words:List (List Nat)),vs=[.ref sl,.ref wl,.int room]/\NB t N (.ref sl) H/\H wl=some (.lst (ws.map V.ref))/\YJ H ws words /\
 N.length=words.length/\N.length<=16/\(∀s∈N,s.name.length<=100)/\(∀b∈words,b.length<=250000) /\
 if room<((mr (N.map λ s=>s.name) words).length:Int) then ∀H',E (.ref t.lK) none H' else
  ∀D H',jk H H'->H D=none->H' D=some (.lst (((((mr (N.map λ s=>s.name) words).length:Nat):Int)::(mr (N.map λ s=>s.name) words).map λ(b:Nat)=>(b:Int)).map V.int))->Q (.ref D) H'
theorem Qo(T:Txt K mg t)(kb:K.In base):Ok P w K mg base 1 t.MY t.Ii ["states","words","room"] (NV K t):=by
 refine T.tell.fn.qw Ei (λ vs H Q E h=>?_) λ cdv A outer s H vs Q E hr h=>?_
 ·obtain⟨sl,wl,room,N,ws,words,rfl,_⟩:=h;rfl
 ·obtain⟨sl,wl,room,N,ws,words,rfl,⟨Vt,nU,esl,n1,n2⟩,hwl,W,hlen,hn,hnm,YK,h⟩:=h
  cases esl;refine⟨_,ja (jB (i:=3) Ei.nd rfl (Or.inl rfl) (mq jb))<|
   ja (qN nJ rfl (DZ (by rfl) T.Iq (iY (pv 0)<|iY (pv 1) jb)) (ur K (i:=4) (j:=5) rfl Ei.nd rfl rfl (Or.inl rfl) (Or.inl rfl))
    (jf (jH (CZ bV PySem.F.slot_list_extend PySem.F.type_list_extend Jv (pv 3) (iY
     (kB wF (kB wF (kB wF (vh xg (by rfl) T.G3 Ir (iY (jM K (pv 4) rfl) jb)) (mq (iY (j9 T.Im rfl) jb))) (pv 5)) (mq (iY (j9 T.A5 rfl) jb))) jb)))))<|
   ja (rA (lT LF (pv 2) (jT jI (by rfl) T.qi nE (iY (pv 3) jb)) (kN _)) (jf (xo xl_of rfl (sM T kb) cz)) m7)<|
   jf (jx (kB wF (mq (iY (jT jI (by rfl) T.qi nE (iY (pv 3) jb)) jb)) (pv 3))),?_⟩
  refine⟨by rw[sizeLine_eq];simp,λ D hD=>?_⟩;have k0:=jh (o:=.lst []) hD;refine⟨_,rfl,_,rfl,sl,wl,_,_,rfl,jz.of (k0 _ _ n1),jz.of (k0 _ _ hwl),?_⟩;have NW:∀{i:Nat} {st:Ra61.State},N[i]? = some st->(N.map λ s=>s.name)[i]? = some st.name:=λ e=>by rw[ai,e];rfl
  have small:∀i,(mr ((N.map λ s=>s.name).take i) (words.take i)).length<=4100000:=λ i=>by
   have:=B7 (xs:=(N.map λ s=>s.name).take i) (bs:=words.take i) (λ x hx=>by
    obtain⟨s,hs,rfl⟩:=az.mp (iA hx);exact hnm s hs) λ b hb=>YK b (iA hb)
   have l:((N.map λ s=>s.name).take i).length<=16:=by rw[aU,ah];omega
   have:((N.map λ s=>s.name).take i).length*250102<=16*250102:=eB _ l;omega
  refine Pj (K:=K) (a:=sl) (b:=wl) (xs:=nU.map V.ref) (ys:=ws.map V.ref) (by rw[ah,ah,n2.len,W.len,hlen]) (λ i σ H9=>∃v4 v5,σ=[some (.ref sl),some (.ref wl),some (.int room),some (.ref D),v4,v5]/\jk H H9/\H9 D=some (.lst (jJ (mr ((N.map λ s=>s.name).take i) (words.take i)))))
   ⟨none,none,rfl,k0,by rw[gy,gy];exact iZ⟩ (λ i σ H9 _ ⟨_,_,_,e,_⟩=>⟨jz.of (e _ _ n1),jz.of (e _ _ hwl)⟩) ?_ ?_
  ·rintro i x y σ H9 T9 hi hj Qi ⟨v4,v5,rfl,k9,h9⟩;obtain⟨sa,ea,rfl⟩:=lS hi;obtain⟨wa,eb,rfl⟩:=lS hj;obtain⟨st,es,dx,nm,cl,nL,c1,c2,c3,c4⟩:=n2.get ea;obtain⟨wd,ew,hwa⟩:=W.get eb;have hin:i<N.length:=(ao.mp es).1;have ln:=hnm st (au es);have lw:=YK wd (au ew);have ls:=small i;have k1:jk H9 (upd H9 T9 (.tup [.ref sa,.ref wa])):=jh Qi;have K1:=k9.trans k1;have h1:=k1 _ _ h9;refine AB.at iZ ?_;generalize upd H9 T9 (.tup [.ref sa,.ref wa])=H1 at *
   refine⟨_,rfl,.inl ⟨rfl,_,jz.of h1⟩,_,rfl,sa,_,dx,_,_,rfl,K1 _ _ c1,T.tG.cl,T.tH,F1 _ _,nm,_,rfl,.inr (rq.of (K1 _ _ c2)),λ L1 Xq=>?_⟩;have k2:=jh (o:=.lst (jJ st.name)) Xq;refine⟨by rw[sizeLine_eq];simp,λ L2 VM=>?_⟩;have k3:=jh (o:=.lst [V.int 32]) VM;refine⟨L1,L2,_,_,rfl,rfl,k3 _ _ iZ,iZ,by rw[jV,sizeLine_eq];simp;omega,λ L3 hL3=>?_⟩;have k4:=jh (o:=.lst (jJ st.name++[V.int 32])) hL3;have K4:=((K1.trans k2).trans k3).trans k4;refine⟨_,rfl,L3,wa,_,_,rfl,rfl,iZ,K4 _ _ hwa,by rw[aE,jV,jV,sizeLine_eq];simp;omega,λ L4 hL4=>?_⟩;have k5:=jh (o:=.lst (jJ st.name++[V.int 32]++jJ wd)) hL4;refine⟨by rw[sizeLine_eq];simp,λ L5 hL5=>?_⟩;have k6:=jh (o:=.lst [V.int 10]) hL5;refine⟨L4,L5,_,_,rfl,rfl,k6 _ _ iZ,iZ,by rw[aE,aE,jV,jV,sizeLine_eq];simp;omega,λ L6 hL6=>?_⟩;have k7:=jh (o:=.lst (jJ st.name++[V.int 32]++jJ wd++[V.int 10])) hL6;have K7:=((K4.trans k5).trans k6).trans k7;have hD7:=k7 _ _ (k6 _ _ (k5 _ _ (k4 _ _ (k3 _ _ (k2 _ _ h1)))));refine⟨D,L6,_,_,rfl,rfl,hD7,iZ,by rw[aE,aE,aE,jV,jV,jV,sizeLine_eq];simp;omega,?_⟩;refine⟨_,_,rfl,λ b u e=>?_,?_⟩
   ·rw[jd (je e hD)];exact K7 _ _ e
   ·rw[iZ,take_snoc (NW es),take_snoc ew,zE (by rw[aU,aU,ah,hlen])];unfold jJ B6;simp
  ·rintro σ H9 ⟨v4,v5,rfl,k9,h9⟩;rw[ah,n2.len,ay (by rw[ah];exact aq _),ay (by rw[hlen];exact aq _)] at h9;have ls:=small N.length;rw[ay (by rw[ah];exact aq _),ay (by rw[hlen];exact aq _)] at ls;generalize mr (N.map λ s=>s.name) words=out at *
   refine⟨_,rfl,_,rfl,D,_,rfl,.inl (jz.of h9),_,_,rfl,rfl,_,rfl,?_⟩
   by_cases hq:room<(out.length:Int)
   ·rw[if_pos hq] at h;exact tZ (by rw[jV];exact decide_eq_true hq) (h _)
   ·rw[if_neg hq] at h;refine t6 (by rw[jV];exact decide_eq_false hq) ?_;refine⟨_,rfl,D,_,rfl,.inl (jz.of h9),by rw[sizeLine_eq];simp,λ L1 Xq=>?_⟩;have k1:=jh (o:=.lst [V.int ((jJ out).length:Nat)]) Xq;refine⟨_,rfl,L1,D,_,_,rfl,rfl,iZ,k1 _ _ h9,by rw[jV,sizeLine_eq];simp;omega,λ L2 VM=>?_⟩;have k2:=jh (o:=.lst ([V.int ((jJ out).length:Nat)]++jJ out)) VM;refine h L2 _ ((k9.trans k1).trans k2) ((k9.trans k1).free VM) ?_;rw[iZ,jV];unfold jJ;simp
theorem int_at{xs:List Int}{i:Nat}{v:V}(h:(xs.map V.int)[i]? = some v):i<xs.length/\v=.int (xs.getD i 0):=by
 rw[ai] at h
 cases e:xs[i]? with
 |none=>rw[e] at h;cases h
 |some x=>rw[e] at h;cases h;exact⟨(ao.mp e).1,by rw[aa,e];rfl⟩
def Hz(K:aj):Sp:=λ vs H Q _=>∃(ra pa:Addr) (row nF:List Int) (turn:Nat) (before:Int),vs=[.ref ra,.ref pa,.int (turn:Int),.int before]/\jz K H ra (row.map V.int)/\jz K H pa (nF.map V.int)/\row.length=nF.length/\row.length<=17/\turn<row.length /\
 0<before/\before.natAbs<2^1000/\(∀x∈row,x.natAbs<2^1000)/\(∀x∈nF,x.natAbs<2^1000)/\∀D H',jk H H'->H D=none->H' D=some (.lst ((La.lM row nF turn before).map V.int))->Q (.ref D) H'
theorem HA(T:Txt K mg t):Ok P w K mg base 1 t.Dl t.AR ["row","pivot_row","turn","pivot_before"] (Hz K):=by
 refine T.cleared.fn.qw p9 (λ vs H Q E h=>?_) λ cdv A outer s H vs Q E hr h=>?_
 ·obtain⟨ra,pa,row,nF,turn,before,rfl,_⟩:=h;rfl
 ·obtain⟨ra,pa,row,nF,turn,before,rfl,Xr,hpa,hl,h17,ht,b0,bb,EG,QZ,h⟩:=h
  refine⟨_,ja (jB (i:=4) p9.nd rfl (Or.inr rfl) (mh (IY K) (pv 1) (pv 2) (λ _ _=>rfl)))<|
   ja (jB (i:=5) p9.nd rfl (Or.inr rfl) (mh (IY K) (pv 0) (pv 2) (λ _ _=>rfl)))<|
   jf (jx (nI (own:=[("number",6),("other",7)]) rfl p9.nd (DZ (by rfl) T.Iq (iY (pv 0)<|iY (pv 1) jb)) (jO rfl) (λ _ _ _ _ _=>ur K (i:=6) (j:=7) rfl p9.nd rfl rfl (Or.inl rfl) (Or.inl rfl)) (λ _ _ _ _ _=>kj)
    (λ _ _ _ _ _=>kB ML (kB DT (kB Ia (pv 4) (pv 6)) (kB Ia (pv 5) (pv 7))) (pv 3)))),?_⟩
  have mem:∀{l:List Int} {i:Nat},i<l.length->l.getD i 0∈l:=λ {l i} h=>by rw[aa,af h];exact aV h
  have cl:(La.lM row nF turn before).length=row.length:=by unfold La.lM;rw[eS];omega
  refine⟨_,rfl,_,rfl,pa,_,_,_,rfl,rfl,hpa,qv (by omega),_,rfl,_,rfl,ra,_,_,_,rfl,rfl,Xr,qv ht,_,rfl,_,rfl,ra,pa,_,_,rfl,Xr,hpa,λ D hD=>GS (K:=K) (a:=ra) (b:=pa) (xs:=row.map V.int) (ys:=nF.map V.int) (by rw[ah,ah,hl])
   (λ i H9=>jk H H9/\H9 D=some (.lst (((La.lM row nF turn before).map V.int).take i))) ⟨jh hD,iZ⟩ (λ i H9 _ ⟨e,_⟩=>⟨jk.seq e Xr,jk.seq e hpa⟩) ?_ ?_⟩
  ·rintro i x y H9 T9 hi hj Qi ⟨s9,h9⟩;obtain⟨hi1,rfl⟩:=int_at hi;obtain⟨hj1,rfl⟩:=int_at hj;have k1:jk H9 (upd H9 T9 (.tup [.int (row.getD i 0),.int (nF.getD i 0)])):=jh Qi;refine AB.at iZ ⟨rfl,?_⟩;refine⟨_,rfl,_,rfl,_,_,rfl,rfl,QI (QZ _ (mem (by omega))) (EG _ (mem hi1)) (by decide),_,rfl,_,rfl,_,_,rfl,rfl,QI (EG _ (mem ht)) (QZ _ (mem hj1)) (by decide),_,_,rfl,rfl,_,rfl,_,_,rfl,rfl,⟨b0,bb⟩,_,k1 _ _ h9,by rw[aU,sizeLine_eq];omega,λ b u e=>?_,?_⟩
   ·rw[jd (je e hD)];exact k1 _ _ (s9 _ _ e)
   ·rw[iZ,take_snoc (l:=(La.lM row nF turn before).map V.int) (x:=V.int ((nF.getD turn 0*row.getD i 0-row.getD turn 0*nF.getD i 0).fdiv before)) (by
     have q:(La.lM row nF turn before)[i]? = some ((nF.getD turn 0*row.getD i 0-row.getD turn 0*nF.getD i 0).fdiv before):=by
      unfold La.lM;rw[fG,af hi1,af hj1,aa (l:=row) (i:=i),af hi1,aa (l:=nF) (i:=i),af hj1];rfl
     rw[ai,q];rfl)]
  ·rintro H9 ⟨s9,h9⟩;rw[ah,ay (by rw[ah,cl];exact aq _)] at h9;exact h D H9 s9 hD h9
abbrev YL(H:Hp)(Q0:List Addr)(rows:List (List Int)):Prop:=Ea (λ row a=>H a=some (.lst (row.map V.int))) Q0 rows
def NX(K:aj)(t:ng):Sp:=λ vs H Q _=>∃(rl:Addr) (Q0:List Addr) (rows:List (List Int)),vs=[.ref rl]/\H rl=some (.lst (Q0.map V.ref))/\YL H Q0 rows/\1<=rows.length/\rows.length<=16/\(∀r∈rows,r.length=rows.length+1) /\
 (∀i j,i<rows.length->j<=rows.length->((rows.getD i []).getD j 0).natAbs<2^40)/\(∀k,k<rows.length->0<La.G (La.ent rows) k k k)/\∀x H',jk H H'->H x=none->Ln K t H' x (La.lE rows).1 (La.lE rows).2->Q (.ref x) H'
theorem Qp{xs:List V}{n:Nat}(h:xs.length=n+1):ES xs (-1)=xs[n]?:=by
 unfold ES HL
 rw[if_neg (by decide),if_pos (by omega)]
 show xs[((-1:Int)+(xs.length:Int)).toNat]? = _
 rw[h]
 congr 1
 omega
theorem NY(T:Txt K mg t):Ok P w K mg base 3 t.Il t.FE ["rows"] (NX K t):=by
 refine T.QJ.fn.qw mX (λ vs H Q E h=>?_) λ cdv A outer s H vs Q E hr h=>?_
 ·obtain⟨rl,Q0,rows,rfl,_⟩:=h;rfl
 ·obtain⟨rl,Q0,rows,rfl,hrl,R,n1,Qq,hw,hA,hp,h⟩:=h
  have hr1:=hr.mono (show 1<=2 by decide);refine⟨_,ja (jB (i:=1) mX.nd rfl (Or.inr rfl) jt)<|
   ja (qN nJ rfl (vf (by rfl) T.zY (iY (jT jI (by rfl) T.qi nE (iY (pv 0) jb)) jb)) (jS (i:=2) mX.nd rfl (Or.inr rfl))
    (ja (jB (i:=3) mX.nd rfl (Or.inr rfl) (mh (IY K) (pv 0) (pv 2) (λ _ _=>rfl)))<|
      ja (E1 (i:=0) (own:=[("place",4),("row",5)]) rfl mX.nd rfl rfl (HS mX.kind rfl rfl rfl) (zT (by rfl) T.qJ (iY (pv 0) jb)) (jO rfl) (λ _ _ _ _ _=>ur K (i:=4) (j:=5) rfl mX.nd rfl rfl (Or.inl rfl) (Or.inl rfl)) (λ _ _ _ _ _=>kj)
       (λ _ _ _ _ _=>ua (lT Af (pv 4) (pv 2) (kN _)) (pv 5) (jG T.cleared (HA T) hr1 rfl jA (iY (pv 5)<|iY (pv 3)<|iY (pv 2)<|iY (pv 1) jb))))<|
      jf (jB (i:=1) mX.nd rfl (Or.inr rfl) (mh (IY K) (pv 3) (pv 2) (λ _ _=>rfl)))))<|
   jf (jx (Ay T.mj T.uR (ve T) hr rfl jA (iY (nI (own:=[("row",5)]) rfl mX.nd (kK (pv 0)) (jO rfl) (λ _ _ _ _ _=>jS (i:=5) mX.nd rfl (Or.inl rfl)) (λ _ _ _ _ _=>kj) (λ _ _ _ _ _=>mh (IY K) (pv 5) (CQ yz jt) (λ _ _=>rfl)))<|iY (pv 1) jb))),?_⟩
  have lr:(Q0.map V.ref).length=rows.length:=by rw[ah,R.len]
  refine⟨_,rfl,rl,_,rfl,.inl (jz.of hrl),_,rfl,by rw[lr];omega,by rw[lr];omega,?_⟩;rw[lr];have en:(rows.length:Int).toNat=rows.length:=by simp
  refine CP (n:=(rows.length:Int).toNat) (λ k σ H9=>∃(la:Addr) (SN:List Addr) (v2 v3:Option V),σ=[some (.ref la),some (.int (La.jv rows k).2),v2,v3,none,none]/\jk H H9/\H9 la=some (.lst (SN.map V.ref))/\YL H9 SN (La.jv rows k).1)
   ⟨rl,Q0,none,none,rfl,jk.refl _,hrl,R⟩ ?_ ?_
  ·rintro k σ H9 hk ⟨la,SN,v2,v3,rfl,k9,h9,R9⟩;rw[en] at hk;have ez:(0:Int)+(k:Int)=(k:Int):=by omega
   obtain⟨t1,t2,t3,t4⟩:=La.qm rfl hw hp k (aZ hk);obtain⟨z1,z2⟩:=La.FO rfl hw Qq hA hp k (aZ hk);have pos:0<(La.jv rows k).2:=by
    have:((0:Int):Rat)<((La.jv rows k).2:Rat):=by rw[t3];exact La.Bj hp k (aZ hk)
    exact cK.mp this
   have big:∀r∈(La.jv rows k).1,∀x∈r,x.natAbs<2^1000:=λ r hr x hx=>by
    obtain⟨i,hi,rfl⟩:=bR hr;obtain⟨j,hj,rfl⟩:=bR hx;have lr:=t2 _ (aV hi);have:=z2 i j (by omega) (by omega);rw[aa,aa,af hi] at this;rw[di,af hj] at this;exact this
   obtain⟨nF,ep⟩:∃nF,(La.jv rows k).1[k]? = some nF:=⟨_,af (by omega)⟩
   obtain⟨pa,ea,hpa⟩:=R9.at_ k nF ep;have gp:(La.jv rows k).1.getD k []=nF:=by rw[aa,ep];rfl
   have lp:=t2 nF (au ep);refine⟨_,rfl,_,rfl,la,_,(k:Int),.ref pa,rfl,by rw[ez],jz.of h9,sO (by rw[ai,ea];rfl),?_⟩;have Vg:(La.jv rows (k+1)).1.length=rows.length:=(La.qm rfl hw hp (k+1) hk).1;refine⟨_,rfl,la,_,rfl,jz.of h9,λ D hD=>Ph (K:=K) (a:=la) (xs:=SN.map V.ref) (λ i H8=>∃qs:List Addr,qs.length=i/\jk H9 H8/\H8 D=some (.lst (qs.map V.ref))/\Ea (λ row a=>H8 a=some (.lst (row.map V.int))/\a≠D) qs ((La.jv rows (k+1)).1.take i))
    ⟨[],rfl,jh hD,iZ,Ea.nil⟩ (λ i H8 _ ⟨_,_,e,_,_⟩=>jz.of (e _ _ h9)) ?_ ?_⟩
   ·rintro i x H8 T8 hi Vf ⟨qs,K2,k8,h8,E8⟩;obtain⟨ra,er,rfl⟩:=lS hi;obtain⟨row,eo,EG⟩:=R9.get er;have hin:i<rows.length:=by rw[<-t1];exact (ao.mp eo).1
    have NZ:=t2 row (au eo);have k7:jk H8 (upd H8 T8 (.tup [.int (i:Nat),.ref ra])):=jh Vf;have h7:=k7 _ _ h8;have K7:=k8.trans k7;have E7:=E8.mono λ x a h=>(⟨k7 _ _ h.1,h.2⟩:_/\a≠D)
    have nx:(La.jv rows (k+1)).1[i]? = some (if i=k then row else La.lM row nF k (La.jv rows k).2):=by
     show ((La.jv rows k).1.zipIdx.map λ x=>if x.2=k then x.1 else La.lM x.1 ((La.jv rows k).1.getD k []) k (La.jv rows k).2)[i]? = _;rw[ai,d7,eo,gp];simp
    refine AB.at iZ ⟨rfl,?_⟩;generalize upd H8 T8 (.tup [.int (i:Nat),.ref ra])=H7 at *
    have fin:∀(z:Addr) (H4:Hp),jk H7 H4->H4 z=some (.lst ((if i=k then row else La.lM row nF k (La.jv rows k).2).map V.int))->z≠D->∃acc,H4 D=some (.lst acc)/\acc.length<sizeLine/\∃qs:List Addr,qs.length=i+1/\jk H9 (upd H4 D (.lst (acc++[V.ref z]))) /\
      (upd H4 D (.lst (acc++[V.ref z]))) D=some (.lst (qs.map V.ref))/\Ea (λ row a=>(upd H4 D (.lst (acc++[V.ref z]))) a=some (.lst (row.map V.int))/\a≠D) qs ((La.jv rows (k+1)).1.take (i+1)):=λ z H4 k4 hz hne=>by
     refine⟨qs.map V.ref,k4 _ _ h7,by rw[ah,K2,sizeLine_eq];omega,qs++[z],by simp[K2],λ b u e=>?_,by rw[iZ,bw];rfl,?_⟩
     ·rw[jd (je e hD)];exact k4 _ _ (K7 _ _ e)
     ·rw[take_snoc nx];exact Ea.snoc (E7.mono λ x a h=>⟨by rw[jd h.2];exact k4 _ _ h.1,h.2⟩) ⟨by rw[jd hne];exact hz,hne⟩
    have Vh:=K7 _ _ EG;have Xs:ra≠D:=λ q=>by rw[q,hD] at EG;cases EG
    refine⟨_,rfl,_,rfl,rfl,_,rfl,?_⟩;rw[ez]
    by_cases hik:i=k
    ·refine tZ (by rw[mw];simp[hik]) ?_;refine⟨_,rfl,fin ra H7 (jk.refl _) ?_ Xs⟩;rw[if_pos hik];exact Vh
    ·refine t6 (by rw[mw];simp;omega) ?_;rw[if_neg hik] at fin;refine⟨_,rfl,_,rfl,_,rfl,_,rfl,ra,pa,row,nF,k,(La.jv rows k).2,rfl,jz.of Vh,jz.of (K7 _ _ hpa),by rw[NZ,lp],by rw[NZ];omega,by rw[NZ];omega,pos,z1,big row (au eo),big nF (au ep),λ z H4 k4 hz h4=>fin z H4 k4 h4 (λ q=>by rw[q,h7] at hz;cases hz)⟩
   ·rintro H8 ⟨qs,K2,k8,h8,E8⟩;rw[ah,R9.len,t1] at K2 E8;rw[ay (by rw[Vg];exact aq _)] at E8;refine⟨_,rfl,_,rfl,pa,_,(k:Int),.int (nF.getD k 0),rfl,by rw[ez],jz.of (k8 _ _ hpa),qv (by omega),?_⟩;refine⟨D,qs,some (.int (0+(k:Int))),some (.ref pa),?_,k9.trans k8,h8,E8.mono λ x a h=>h.1⟩;show _=[some (V.ref D),some (V.int (((La.jv rows k).1.getD k []).getD k 0)),some (.int (0+(k:Int))),some (.ref pa),none,none];rw[gp];rfl
  ·rintro σ H9 ⟨la,SN,v2,v3,rfl,k9,h9,R9⟩;rw[en] at R9 ⊢;obtain⟨t1,t2,t3,t4⟩:=La.qm rfl hw hp rows.length (aq _);refine⟨_,rfl,la,rfl,⟨_,jz.of h9⟩,λ D hD=>lU (K:=K) (a:=la) (xs:=SN.map V.ref) (λ i H8=>H8=upd H9 D (.lst (((La.lE rows).1.map V.int).take i))) rfl (λ i H8 _ e8=>by rw[e8];exact jz.of (by rw[jd (je h9 hD)];exact h9)) ?_ ?_⟩
   ·rintro i x H8 hi rfl;obtain⟨ra,er,rfl⟩:=lS hi;obtain⟨row,eo,EG⟩:=R9.get er;have NZ:=t2 row (au eo);have hin:i<rows.length:=by rw[<-t1];exact (ao.mp eo).1
    refine⟨rfl,?_⟩;have gl:(row.map V.int)[rows.length]? = some (.int (row.getD rows.length 0)):=by
     rw[ai,af (by omega),aa,af (by omega)];rfl
    refine⟨_,rfl,_,rfl,ra,_,-1,.int (row.getD rows.length 0),rfl,rfl,jz.of (by rw[jd (je EG hD)];exact EG),(Qp (by rw[ah,NZ])).trans gl,_,iZ,by rw[aU,sizeLine_eq];omega,?_⟩;rw[jL,take_snoc (l:=(La.lE rows).1.map V.int) (x:=V.int (row.getD rows.length 0)) (by
     unfold La.lE;rw[ai,ai,eo];rfl)]
   ·rintro H8 rfl;rw[ah,show ((La.lE rows).1.map V.int).take SN.length=(La.lE rows).1.map V.int from ay (by rw[ah,R9.len];unfold La.lE;rw[ah];exact aq _)];have k1:=jh (o:=.lst ((La.lE rows).1.map V.int)) hD;refine⟨_,rfl,?_⟩;intro x dx hx hdx hne;refine⟨x,dx,_,_,rfl,iZ,?_⟩;rw[jL];have k2:=oF (u:=.own x) (v:=.ins t.mL dx (Oo (.ref D) (.int (La.jv rows rows.length).2))) hx hdx;exact⟨rfl,h x _ ((k9.trans k1).trans k2) ((k9.trans k1).free hx) ⟨dx,D,iZ,jz.of (k2 _ _ iZ)⟩⟩
structure Tf(K:aj)(t:ng)(H:Hp)(q:Addr)(iX:List (List Fq.kX))(ends:List Int):Prop where
 ex:∃dq ol el ls,H q=some (.ins t.lJ dq (KW (.ref ol) (.ref el)))/\H ol=some (.lst (ls.map V.ref))/\Ea (Jc t H) ls iX/\jz K H el (ends.map V.int)
theorem Tf.same{H H':Hp}{q:Addr}{iX:List (List Fq.kX)}{ends:List Int}(h:Tf K t H q iX ends)(k:jk H H'):Tf K t H' q iX ends:=by
 obtain⟨dq,ol,el,ls,h1,h2,h3,h4⟩:=h.ex
 exact⟨dq,ol,el,ls,k _ _ h1,k _ _ h2,h3.mono λ x a h=>h.same k,k.seq h4⟩
theorem vB{H:Hp}{D:Addr}{row:List Int}{j:Nat}{z:Int}:upd H D (.lst ((row.map V.int).set j (.int z)))=upd H D (.lst ((row.set j z).map V.int)):=by rw[List.map_set]
theorem EH{n i:Nat}(h:i<n):HL n (i:Int)=some i:=by
 unfold HL;rw[if_pos (by omega),if_pos (by omega),bM]
theorem N1{n:Nat}:HL (n+1) (-1)=some n:=by
 unfold HL;rw[if_neg (by decide),if_pos (by omega)]
 congr 1
 omega
theorem F8{α:Type}(x:α):∀n,(aF n [x]).flatten=aF n x
 |0=>rfl
 |n+1=>by rw[cJ,dP,F8 x n];rfl
def F9(K:aj)(t:ng):Sp:=λ vs H Q _=>∃(q pl:Addr) (place n:Nat) (iX:List (List Fq.kX)) (ends jg:List Int),vs=[.ref q,.ref pl,.int (place:Int)]/\Tf K t H q iX ends/\jz K H pl (jg.map V.int)/\iX.length=n/\ends.length=n/\n<=16/\place<n/\La.Fits iX n jg/\(∀os∈iX,∀o∈os,Small o n) /\
 ∀D H',jk H H'->H D=none->H' D=some (.lst ((La.IE n place (iX.getD place []) (ends.getD place 0) (jg.getD place 0).toNat).map V.int))->Q (.ref D) H'
theorem Ga(T:Txt K mg t):Ok P w K mg base 1 t.rS t.qF ["self","plan","place"] (F9 K t):=by
 refine T.uT.fn.qw mC (λ vs H Q E h=>?_) λ cdv A outer s H vs Q E hr h=>?_
 ·obtain⟨q,pl,place,n,iX,ends,jg,rfl,_⟩:=h;rfl
 ·obtain⟨q,pl,place,n,iX,ends,jg,rfl,⟨dq,ol,el,ls,q1,q2,W,q4⟩,hpl,hon,hen,hn,hp,F,S,h⟩:=h
  refine⟨_,ja (jB (i:=3) mC.nd rfl (Or.inl rfl) (kB RA (mq (iY jt jb)) (kB Ae (jT jI (by rfl) T.qi nE (iY (pv 1) jb)) jt)))<|
   ja (rA (lT Af (jT jI (by rfl) T.qi nE (iY (mh (IY K) (jM K (pv 0) rfl) (pv 2) (λ _ _=>rfl)) jb)) jt (kN _))
    (ja (yx jt (yw (pv 3) (pv 2) set_list))<|
      ja (yx (mh (IY K) (jM K (pv 0) rfl) (pv 2) (λ _ _=>rfl)) (yw (pv 3) (CQ yz jt) set_list))<|
      jf (jx (pv 3))) m7)<|
   ja (jB (i:=4) mC.nd rfl (Or.inl rfl) (mh (IY K) (mh (IY K) (jM K (pv 0) rfl) (pv 2) (λ _ _=>rfl)) (mh (IY K) (pv 1) (pv 2) (λ _ _=>rfl)) (λ _ _=>rfl)))<|
   ja (yx (jM K (pv 4) rfl) (yw (pv 3) (pv 2) set_list))<|
   ja (qN nJ rfl (kK (jM K (pv 4) rfl)) (jS (i:=5) mC.nd rfl (Or.inl rfl))
    (jf (OH (pv 3) (mh (Om K) (pv 5) jt (λ _ _=>rfl)) MM (mh (Om K) (pv 5) jt (λ _ _=>rfl)) Rl set_list)))<|
   ja (yx (kB ud (jM K (pv 4) rfl) (jM K (pv 4) rfl)) (yw (pv 3) (CQ yz jt) set_list))<|
   jf (jx (pv 3)),?_⟩
  have lp:(jg.map V.int).length=n:=by rw[ah,F.len]
  refine⟨by rw[sizeLine_eq];simp,λ L0 hL0=>?_⟩;have k0:=jh (o:=.lst [V.int 0]) hL0;refine⟨_,rfl,pl,_,rfl,.inl (jk.seq k0 hpl),_,_,rfl,rfl,L0,_,_,rfl,rfl,iZ,by rw[lp];omega,by rw[lp];omega,?_,λ D hD=>?_⟩
  ·rw[lp,sizeLine_eq];show 1*((n:Int)+1).toNat<=_;omega
  have e0:(aF (((jg.map V.int).length:Int)+1).toNat [V.int 0]).flatten=(aF (n+1) (0:Int)).map V.int:=by
   rw[lp,F8,List.map_replicate]
   congr 1
  rw[e0];have k1:=k0.trans (jh (o:=.lst ((aF (n+1) (0:Int)).map V.int)) hD);have d1:(upd (upd H L0 (.lst [V.int 0])) D (.lst ((aF (n+1) (0:Int)).map V.int))) D=some (.lst ((aF (n+1) (0:Int)).map V.int)):=iZ;have Xu:H D=none:=k0.free hD;generalize upd (upd H L0 (.lst [V.int 0])) D (.lst ((aF (n+1) (0:Int)).map V.int))=H1 at *
  have put:∀{H9:Hp} {o:HO},jk H H9->jk H (upd H9 D o):=λ {H9 o} k b u e=>by rw[jd (je e Xu)];exact k b u e
  obtain⟨os,eo⟩:∃os,iX[place]? = some os:=⟨_,af (by omega)⟩
  obtain⟨la,YM,as,l1,l2⟩:=W.at_ place os eo;have go:iX.getD place []=os:=by rw[aa,eo];rfl
  rw[go] at h;refine⟨_,rfl,q,_,dq,_,_,rfl,k1 _ _ q1,T.mS.cl,T.nq,vd _ _,_,rfl,ol,_,_,.ref la,rfl,rfl,jz.of (k1 _ _ q2),sO (by rw[ai,YM];rfl),la,_,rfl,.inl (jz.of (k1 _ _ l1)),rfl,_,rfl,?_⟩;rw[ah,l2.len]
  by_cases h0:os.length=0
  ·refine tZ (by rw[mw];simp[h0]) ?_;refine⟨_,rfl,_,rfl,D,_,(place:Int),place,rfl,rfl,d1,EH (by rw[ah,cA];omega),?_⟩;rw[vB];have k2:jk H (upd H1 D (.lst (((aF (n+1) (0:Int)).set place 1).map V.int))):=put k1;refine⟨_,rfl,q,_,dq,_,_,rfl,k2 _ _ q1,T.mS.cl,T.xR,NO _ _,_,rfl,el,_,_,.int (ends.getD place 0),rfl,rfl,jk.seq k2 q4,qv (by omega),?_⟩;refine⟨_,rfl,_,rfl,D,_,-1,n,rfl,rfl,iZ,by rw[ah,cy,cA];exact N1,?_⟩;rw[vB];refine⟨_,rfl,h D _ (put k2) Xu ?_⟩;rw[iZ];unfold La.IE;rw[if_pos h0]
  ·refine t6 (by rw[mw];exact beq_eq_false_iff_ne.mpr (by omega)) ?_;have fit:=F.at_ place hp (by rw[go];exact h0);rw[go] at fit;obtain⟨b,hb⟩:∃b,b=(jg.getD place 0).toNat:=⟨_,rfl⟩
   rw[<-hb] at fit h;have hb2:jg.getD place 0=(b:Int):=by rw[hb];exact (f9 fit.1).symm
   obtain⟨o,eb⟩:∃o,os[b]? = some o:=⟨_,af fit.2⟩
   obtain⟨ca,ec,dx,nm,wy,ps,c1,c2,c3,c4⟩:=l2.at_ b o eb;have gb:os.getD b Fq.jD=o:=by rw[aa,eb];rfl
   have So:=S os (au eo) o (au eb);refine⟨_,rfl,q,_,dq,_,_,rfl,k1 _ _ q1,T.mS.cl,T.nq,vd _ _,_,rfl,ol,_,_,.ref la,rfl,rfl,jz.of (k1 _ _ q2),sO (by rw[ai,YM];rfl),_,rfl,_,rfl,pl,_,_,.int (jg.getD place 0),rfl,rfl,jk.seq k1 hpl,qv (by rw[F.len];exact hp),la,_,_,.ref ca,rfl,rfl,jz.of (k1 _ _ l1),?_,?_⟩
   ·rw[hb2];exact sO (by rw[ai,ec];rfl)
   refine⟨_,rfl,ca,_,dx,_,_,rfl,k1 _ _ c1,T.jN.cl,T.lD,pU _ _ _ _,_,rfl,_,rfl,D,_,(place:Int),place,rfl,rfl,d1,EH (by rw[ah,cA];omega),?_⟩;rw[vB];have k2:jk H (upd H1 D (.lst (((aF (n+1) (0:Int)).set place o.tot).map V.int))):=put k1;have d2:(upd H1 D (.lst (((aF (n+1) (0:Int)).set place o.tot).map V.int))) D=some (.lst (((aF (n+1) (0:Int)).set place o.tot).map V.int)):=iZ;generalize upd H1 D (.lst (((aF (n+1) (0:Int)).set place o.tot).map V.int))=H2 at *
   have tl:∀i,(La.sA (o.ways.take i) ((aF (n+1) (0:Int)).set place o.tot)).length=n+1:=λ i=>by rw[La.sC,cy,cA]
   refine⟨_,rfl,ca,_,dx,_,_,rfl,k2 _ _ c1,T.jN.cl,T.lR,u5 _ _ _ _,wy,rfl,⟨_,jz.of (k2 _ _ c3)⟩,xf (K:=K) (a:=wy) (xs:=ps.map V.ref) (λ i σ H9=>∃v5,σ=[some (.ref q),some (.ref pl),some (.int (place:Int)),some (.ref D),some (.ref ca),v5]/\jk H H9/\H9 D=some (.lst ((La.sA (o.ways.take i) ((aF (n+1) (0:Int)).set place o.tot)).map V.int)))
    ⟨none,rfl,k2,d2⟩ (λ i σ H9 _ ⟨_,_,e,_⟩=>jz.of (e _ _ c3)) ?_ ?_⟩
   ·rintro i x σ H9 hi ⟨v5,rfl,k9,d9⟩;obtain⟨pa,ea,rfl⟩:=lS hi;obtain⟨wv,ew,VN⟩:=c4.get ea;have wm:=(So.ways.2 wv (au ew)).1;refine⟨_,rfl,_,rfl,pa,_,_,.int (wv.1:Int),rfl,rfl,rq.of (k9 _ _ VN),SH,D,_,wv.1,.int ((La.sA (o.ways.take i) ((aF (n+1) (0:Int)).set place o.tot)).getD wv.1 0),rfl,rfl,jz.of d9,?_,_,rfl,pa,_,_,.int (wv.2:Int),rfl,rfl,rq.of (k9 _ _ VN),Vd,_,_,rfl,rfl,D,_,(wv.1:Int),wv.1,rfl,rfl,d9,EH (by rw[ah,tl];omega),?_⟩
    ·rw[ai,af (by rw[tl];omega),aa,af (by rw[tl];omega)];rfl
    ·rw[vB];refine⟨_,rfl,put k9,?_⟩;rw[iZ,take_snoc ew];unfold La.sA;rw[dU];rfl
   ·rintro σ H9 ⟨v5,rfl,k9,d9⟩;rw[ah,c4.len,eF] at d9;have tn:=tl o.ways.length;rw[eF] at tn;refine⟨_,rfl,ca,_,dx,_,_,rfl,k9 _ _ c1,T.jN.cl,T.oH,ym _ _ _ _,_,rfl,ca,_,dx,_,_,rfl,k9 _ _ c1,T.jN.cl,T.lD,pU _ _ _ _,_,_,rfl,rfl,?_,_,rfl,_,rfl,D,_,-1,n,rfl,rfl,d9,by rw[ah,tn];exact N1,?_⟩
    ·have:=So.gain;left;constructor<;>omega
    ·rw[vB];refine⟨_,rfl,h D _ (put k9) Xu ?_⟩;rw[iZ];unfold La.IE;rw[if_neg h0,gb]
theorem zF(k:List Int):SeqAt.shaped (.list (k.map PyData.int))=true:=by
 unfold SeqAt.shaped
 rw[PyData.canLay0,PyData.depth,lay_ints,wW];rfl
def Xv(K:aj):R2:=λ x y H Q=>∃(a b:Addr) (k m:List Int),x=.ref a/\y=.ref b/\jz K H a (k.map V.int)/\jz K H b (m.map V.int)/\Q (.bl (decide (k=m))) H
theorem SO{X:Cx}(K:aj)(hu:X.A.units+64<cLine)(e:X.K=K:=by rfl):vg X (compareOp .Eq) (Xv K):=by
 subst e
 intro pins s σ H x y v u Q I rx ry h
 obtain⟨a,b,k,m,rfl,rfl,ha,hb,q⟩:=h
 refine LV hu pins s σ H _ _ v u Q I rx ry ⟨_,_,.lst ha (yp k),.lst hb (yp m),zF k,zF m,?_⟩
 rw[PyData.eqv,BU];exact q
theorem Ji{j b:Nat}:∀(ws:List (Nat×Nat)) (row:List Int) (b:Nat),(∀w∈ws,w.1<row.length/\w.2<=1000000)->(row.getD j 0).natAbs<=b->((La.sA ws row).getD j 0).natAbs<=b+ws.length*1000000
 |[],row,b,_,h=>by simpa [La.sA] using h
 |w::ws,row,b,hw,h=>by
  have w0:=hw w (by simp);have:=Ji (j:=j) (b:=b) ws (row.set w.1 (row.getD w.1 0-(w.2:Int))) (b+1000000) (λ v hv=>by rw[cy];exact hw v (by simp[hv])) (by
   rw[La.kR w0.1]
   split
   ·rename_i e;rw[<-e];omega
   ·omega)
  show ((La.sA ws (row.set w.1 (row.getD w.1 0-(w.2:Int)))).getD j 0).natAbs<=_;rw[aJ];omega
theorem N2(n j:Nat):(aF n (0:Int)).getD j 0=0:=by
 rw[aa,fh];split<;>rfl
theorem Vi{n place k j:Nat}{os:List Fq.kX}{e:Int}(hp:place<n)(he:e.natAbs<=1000)(hk:os.length≠0->k<os.length)(S:∀o∈os,Small o n):((La.IE n place os e k).getD j 0).natAbs<2^40:=by
 unfold La.IE
 split
 ·rw[La.kR (by simp)]
  split
  ·omega
  ·rw[La.kR (by simp;omega)]
   split
   ·decide
   ·rw[N2];decide
 ·rename_i h
  have So:=S _ (La.getD_mem (hk h));rw[La.kR (by rw[La.sC];simp)]
  split
  ·obtain⟨a,b⟩:=So.gain;obtain⟨c,d⟩:=So.tot;rw[gu];have:((os.getD k Fq.jD).gain.natAbs)*((os.getD k Fq.jD).tot.natAbs)<=1000*16000000:=Nat.mul_le_mul (by omega) (by omega);omega
  ·have:=Ji (j:=j) (b:=0) (os.getD k Fq.jD).ways ((aF (n+1) (0:Int)).set place (os.getD k Fq.jD).tot) 16000000 (λ w hw=>by
    have:=So.ways.2 w hw;rw[cy,cA];omega) (by
    rw[La.kR (by simp;omega)]
    split
    ·have:=So.tot;omega
    ·rw[N2];decide)
   have:=So.ways.1;have:(os.getD k Fq.jD).ways.length*1000000<=16*1000000:=eB _ this;omega
theorem Jj{iX:List (List Fq.kX)}{s:Nat}(h:s<iX.length):iX.getD s []∈iX:=by
 rw[aa,af h];exact aV h
structure Gb(iX:List (List Fq.kX))(ends:List Int):Prop where
 n1:1<=iX.length
 Qq:iX.length<=16
 len:ends.length=iX.length
 ends:∀e∈ends,e.natAbs<=1000
 iX:∀os∈iX,os.length<=8/\∀o∈os,Small o iX.length
theorem Gb.ways{iX:List (List Fq.kX)}{ends:List Int}(f:Gb iX ends):∀os∈iX,∀o∈os,∀w∈o.ways,w.1<iX.length:=λ os hos o ho w hw=>(((f.iX os hos).2 o ho).ways.2 w hw).1
theorem Gb.rows{iX:List (List Fq.kX)}{ends jg:List Int}(f:Gb iX ends)(F:La.Fits iX iX.length jg):∀i j,i<iX.length->j<=iX.length->(((La.m6 iX ends iX.length jg).getD i []).getD j 0).natAbs<2^40:=λ i j hi hj=>by
 rw[La.Er hi]
 refine Vi hi (f.ends _ ?_) (λ h=>(F.at_ i hi h).2) (f.iX _ (Jj hi)).2
 have hi':i<ends.length:=by rw[f.len];exact hi
 rw[aa,af hi'];exact aV hi'
theorem Gb.Vj{iX:List (List Fq.kX)}{ends jg:List Int}(f:Gb iX ends)(F:La.Fits iX iX.length jg)(hp:∀k,k<iX.length->0<La.G (La.ent (La.m6 iX ends iX.length jg)) k k k) :
  F5 (La.kr iX ends iX.length jg).1 (La.kr iX ends iX.length jg).2 1000:=by
 have hl:=La.z7 (iX:=iX) (ends:=ends) (n:=iX.length) (jg:=jg)
 obtain⟨z1,z2⟩:=La.FO hl.1 hl.2 f.Qq (f.rows F) hp _ (aq _)
 have t1:=(La.qm hl.1 hl.2 hp _ (aq _)).1
 unfold La.kr La.lE
 rw[hl.1]
 refine⟨λ x hx=>?_,z1,by decide⟩
 obtain⟨r,hr,rfl⟩:=az.mp hx
 obtain⟨i,hi,rfl⟩:=bR hr
 have:=z2 i iX.length (by omega) (aq _)
 rw[show (La.jv (La.m6 iX ends iX.length jg) iX.length).1.getD i []=(La.jv (La.m6 iX ends iX.length jg) iX.length).1[i] by rw[aa,af hi];rfl] at this
 exact this
def Gd(K:aj)(t:ng):Sp:=λ vs H Q _=>∃(q pl:Addr) (iX:List (List Fq.kX)) (ends jg:List Int) (P:List Int->Prop),vs=[.ref q,.ref pl]/\Tf K t H q iX ends/\jz K H pl (jg.map V.int)/\Gb iX ends /\
 P jg/\(∀π,P π->La.Fits iX iX.length π/\(∃u,La.Keeps (La.lF iX ends π) iX.length u)/\P (La.nextM iX ends iX.length π))/\(∃k,La.nextM iX ends iX.length (La.iter (La.nextM iX ends iX.length) k jg)=La.iter (La.nextM iX ends iX.length) k jg) /\
 ∀π x H',P π->La.nextM iX ends iX.length π = π->jk H H'->H x=none->Ln K t H' x (La.kr iX ends iX.length π).1 (La.kr iX ends iX.length π).2->F5 (La.kr iX ends iX.length π).1 (La.kr iX ends iX.length π).2 1000->Q (.ref x) H'
theorem Ge(T:Txt K mg t):Ok P w K mg base 4 t.rV t.qI ["self","plan"] (Gd K t):=by
 refine T.uV.fn.qw kM (λ vs H Q E h=>?_) λ cdv A outer s H vs Q E hr h=>?_
 ·obtain⟨q,pl,iX,ends,jg,P,rfl,_⟩:=h;rfl
 ·obtain⟨q,pl,iX,ends,jg,Pp,rfl,hq,hpl,f,p0,ps,⟨k,hk⟩,h⟩:=h
  have hr1:=hr.mono (show 1<=3 by decide);refine⟨_,jf (mT nJ (pW Lr)
   (ja (jB (i:=2) kM.nd rfl (Or.inl rfl) (jG T.QJ (NY T) hr rfl jA (iY
    (nI (own:=[("place",3)]) rfl kM.nd (vf (by rfl) T.zY (iY (jT jI (by rfl) T.qi nE (iY (pv 1) jb)) jb)) (jO rfl) (λ _ _ _ _ _=>jS (i:=3) kM.nd rfl (Or.inl rfl)) (λ _ _ _ _ _=>kj)
     (λ _ _ _ _ _=>rG T.mS T.uT (Ga T) hr1 jA (pv 0) (iY (pv 1)<|iY (pv 3) jb))) jb)))<|
     ja (jB (i:=4) kM.nd rfl (Or.inl rfl) (rG T.mS T.uU (F4 T) hr jA (pv 0) (iY (pv 1)<|iY (pv 2) jb)))<|
     ja (rA (lT (SO K hr.units) (pv 4) (pv 1) (kN _)) (jf (jx (pv 2))) m7)<|
     jf (jB (i:=1) kM.nd rfl (Or.inr rfl) (pv 4)))),?_⟩
  have Pi:∀i,Pp (La.iter (La.nextM iX ends iX.length) i jg):=λ i=>by
   induction i with
   |zero=>exact p0
   |succ i ih=>rw[La.oz];exact (ps _ ih).2.2
  refine⟨λ m σ H9=>∃i SQ v2 v4,σ=[some (.ref q),some (.ref SQ),v2,none,v4]/\jk H H9/\jz K H9 SQ ((La.iter (La.nextM iX ends iX.length) i jg).map V.int)/\i<=k/\m=k-i,
   ⟨_,0,pl,none,none,rfl,jk.refl _,hpl,bf _,rfl⟩,?_⟩
  rintro m σ H9 ⟨i,SQ,v2,v4,rfl,k9,VO,hik,rfl⟩;obtain⟨F,⟨u,Ku⟩,pn⟩:=ps _ (Pi i);have nx:La.iter (La.nextM iX ends iX.length) (i+1) jg=La.nextM iX ends iX.length (La.iter (La.nextM iX ends iX.length) i jg):=La.oz _ _ _;have hpi:=Pi i;have Vk:i=k->La.nextM iX ends iX.length (La.iter (La.nextM iX ends iX.length) i jg)=La.iter (La.nextM iX ends iX.length) i jg:=λ e=>by rw[e];exact hk
  generalize La.iter (La.nextM iX ends iX.length) i jg = π at *
  have hp:=(La.Iw (La.II f.ways F Ku) iX.length (aq _)).1;have vl:=La.Bm f.ways F Ku;refine⟨true,rfl,tZ rfl ⟨λ σ H8=>∃D x,σ=[some (.ref q),some (.ref D),some (.ref x),none,some (.ref D)]/\jk H H8/\H8 D=some (.lst ((La.nextM iX ends iX.length π).map V.int))/\i<k,?_,?_⟩⟩
  ·rintro σ H8 ⟨D,x,rfl,k8,h8,lt⟩;exact⟨k-(i+1),by omega,i+1,D,_,_,rfl,k8,by rw[nx];exact jz.of h8,lt,rfl⟩
  have lp:(π.map V.int).length=iX.length:=by rw[ah,F.len]
  obtain⟨dq,ol,el,ls,q1,q2,W,q4⟩:=hq.ex;refine⟨_,rfl,SQ,_,rfl,.inl VO,_,rfl,by rw[lp];have:=f.Qq;omega,by rw[lp];have:=f.Qq;omega,λ D hD=>?_⟩;rw[lp];have en:(iX.length:Int).toNat=iX.length:=by simp
  refine E2 (n:=(iX.length:Int).toNat) (λ i H8=>∃qs:List Addr,qs.length=i/\jk H9 H8/\H8 D=some (.lst (qs.map V.ref))/\Ea (λ row a=>H8 a=some (.lst (row.map V.int))/\a≠D) qs ((La.m6 iX ends iX.length π).take i))
   ⟨[],rfl,jh hD,iZ,Ea.nil⟩ ?_ ?_
  ·rintro j H8 hj ⟨qs,K2,k8,h8,E8⟩;rw[en] at hj;have ez:(0:Int)+(j:Int)=(j:Int):=by omega
   have K8:=k9.trans k8;refine⟨rfl,?_⟩;refine⟨_,rfl,q,dq,_,rfl,K8 _ _ q1,zb (by decide) (by decide),_,rfl,_,rfl,q,SQ,j,iX.length,iX,ends,π,by rw[ez];rfl,hq.same K8,jk.seq k8 VO,rfl,f.len,f.Qq,hj,F,λ os hos=>(f.iX os hos).2,λ z H7 k7 hz h7=>?_⟩;have hne:z≠D:=λ e=>by rw[e,h8] at hz;cases hz
   refine⟨qs.map V.ref,k7 _ _ h8,by rw[ah,K2,sizeLine_eq];have:=f.Qq;omega,qs++[z],by simp[K2],λ b u e=>?_,by rw[iZ,bw];rfl,?_⟩
   ·rw[jd (je e hD)];exact k7 _ _ (k8 _ _ e)
   ·rw[take_snoc (l:=La.m6 iX ends iX.length π) (x:=La.IE iX.length j (iX.getD j []) (ends.getD j 0) (π.getD j 0).toNat) (by unfold La.m6;rw[ai,aN hj];rfl)];exact Ea.snoc (E8.mono λ x a h=>⟨by rw[jd h.2];exact k7 _ _ h.1,h.2⟩) ⟨by rw[jd hne];exact h7,hne⟩
  ·rintro H8 ⟨qs,K2,k8,h8,E8⟩;have rl:=La.z7 (iX:=iX) (ends:=ends) (n:=iX.length) (jg:=π);rw[en,ay (by rw[rl.1];exact aq _)] at E8;refine⟨D,qs,La.m6 iX ends iX.length π,rfl,h8,E8.mono λ x a h=>h.1,by rw[rl.1];exact f.n1,by rw[rl.1];exact f.Qq,by rw[rl.1];exact rl.2,by rw[rl.1];exact f.rows F,by rw[rl.1];exact hp,λ x H7 k7 hx V7=>?_⟩;have Xw:=k8.trans k7;have K7:=k9.trans Xw;refine⟨_,rfl,q,dq,_,rfl,K7 _ _ q1,zb (by decide) (by decide),_,rfl,_,rfl,q,ol,SQ,x,ls,iX,π,_,_,rfl,⟨dq,_,K7 _ _ q1⟩,K7 _ _ q2,W.mono λ x a h=>h.same K7,jk.seq Xw VO,V7,?_,f.Qq,F,λ B H6 k6 hB h6=>?_⟩
   ·rw[show (La.lE (La.m6 iX ends iX.length π)).1.length=iX.length from vl.2.1];exact f.iX
   ·have K6:=K7.trans k6;refine⟨_,rfl,_,rfl,B,SQ,_,_,rfl,rfl,jz.of h6,jk.seq (Xw.trans k6) VO,_,rfl,?_⟩
    by_cases e:La.nextM iX ends iX.length π = π
    ·refine tZ (decide_eq_true e) ⟨_,rfl,h π x H6 hpi e K6 (k9.trans k8 |>.free hx) (V7.same k6) (f.Vj F hp)⟩
    ·refine t6 (decide_eq_false e) ⟨_,rfl,?_⟩;refine⟨B,x,rfl,K6,h6,?_⟩
     by_cases z:i=k
     ·exact absurd (Vk z) e
     ·omega
theorem N3(x:Int):(x != 0)=decide (x≠0):=by by_cases h:x=0<;>simp[h]
def N4(K:aj)(t:ng):Sp:=λ vs H Q _=>∃(ca ml:Addr) (o:Fq.kX) (m:List Int),vs=[.ref ca,.ref ml]/\Jb t H o ca/\jz K H ml (m.map V.int)/\o.ways.length<=16/\(∀w∈o.ways,w.1<m.length)/\∀H',jk H H'->Q (.bl (La.l9 o m)) H'
theorem N5(T:Txt K mg t):Ok P w K mg base 1 t.xJ t.vW ["choice","marks"] (N4 K t):=by
 refine T.AY.fn.qw qZ (λ vs H Q E h=>?_) λ cdv A outer s H vs Q E hr h=>?_
 ·obtain⟨ca,ml,o,m,rfl,_⟩:=h;rfl
 ·obtain⟨ca,ml,o,m,rfl,⟨dx,nm,wy,ps,c1,c2,c3,c4⟩,hm,YN,hw,h⟩:=h
  refine⟨_,jf (jx (jT (Pn rfl) (by rfl) T.UA RX (iY
   (nI (own:=[("way",2)]) rfl qZ.nd (kK (jM K (pv 0) rfl)) (jO rfl) (λ _ _ _ _ _=>jS (i:=2) qZ.nd rfl (Or.inl rfl)) (λ _ _ _ _ _=>kj)
    (λ _ _ _ _ _=>mh (IY K) (pv 1) (mh (Om K) (pv 2) jt (λ _ _=>rfl)) (λ _ _=>rfl))) jb))),?_⟩
  refine⟨_,rfl,ca,_,dx,_,_,rfl,c1,T.jN.cl,T.lR,u5 _ _ _ _,wy,rfl,⟨_,jz.of c3⟩,λ D hD=>lU (K:=K) (a:=wy) (xs:=ps.map V.ref) (λ i H9=>H9=upd H D (.lst (((o.ways.map λ w=>m.getD w.1 0).map V.int).take i))) rfl (λ i H9 _ e9=>by rw[e9];exact jz.of (by rw[jd (je c3 hD)];exact c3)) ?_ ?_⟩
  ·rintro i v H9 hi rfl;obtain⟨pa,ea,rfl⟩:=lS hi;obtain⟨wv,ew,VN⟩:=c4.get ea;have sm:=jh (o:=.lst (((o.ways.map λ w=>m.getD w.1 0).map V.int).take i)) hD;have wm:=hw wv (au ew);refine⟨rfl,?_⟩;refine⟨_,rfl,_,rfl,pa,_,_,_,rfl,rfl,rq.of (sm _ _ VN),SH,ml,_,_,_,rfl,rfl,jk.seq sm hm,qv wm,_,iZ,?_,?_⟩
   ·rw[aU,sizeLine_eq];simp;omega
   ·rw[jL,take_snoc (l:=(o.ways.map λ w=>m.getD w.1 0).map V.int) (x:=V.int (m.getD wv.1 0)) (by rw[ai,ai,ew];rfl)]
  ·rintro H9 rfl;rw[ah,show ((o.ways.map λ w=>m.getD w.1 0).map V.int).take ps.length=(o.ways.map λ w=>m.getD w.1 0).map V.int from ay (by rw[ah,ah,c4.len];exact aq _)];refine⟨D,_,rfl,jz.of iZ,?_⟩;have e:((o.ways.map λ w=>m.getD w.1 0).map λ n=>n != 0).any id=La.l9 o m:=by
    unfold La.l9;rw[dw,List.any_map]
    congr 1
    funext w
    exact N3 _
   rw[e];exact h _ (jh hD)
theorem vC(n:Nat):(La.zeros n).length=n:=by simp[La.zeros]
def K3(K:aj)(t:ng):Sp:=λ vs H Q _=>∃(ol:Addr) (ls:List Addr) (iX:List (List Fq.kX)),vs=[.ref ol]/\H ol=some (.lst (ls.map V.ref))/\Ea (Jc t H) ls iX/\iX.length<=16/\(∀os∈iX,os.length<=8/\∀o∈os,Small o iX.length) /\
 ∀D H',jk H H'->H D=none->H' D=some (.lst ((La.yZ iX iX.length).map V.int))->Q (.ref D) H'
theorem K9(T:Txt K mg t):Ok P w K mg base 2 t.uH t.tR ["options"] (K3 K t):=by
 refine T.xQ.fn.qw kg (λ vs H Q E h=>?_) λ cdv A outer s H vs Q E hr h=>?_
 ·obtain⟨ol,ls,iX,rfl,_⟩:=h;rfl
 ·obtain⟨ol,ls,iX,rfl,Lo,W,YN,S,h⟩:=h
  refine⟨_,ja (jB (i:=1) kg.nd rfl (Or.inr rfl) (nI (own:=[("choices",2)]) rfl kg.nd (kK (pv 0)) (jO rfl) (λ _ _ _ _ _=>jS (i:=2) kg.nd rfl (Or.inl rfl)) (λ _ _ _ _ _=>kj) (λ _ _ _ _ _=>jt)))<|
   ja (qN nJ rfl (vf (by rfl) T.zY (iY (jT jI (by rfl) T.qi nE (iY (pv 0) jb)) jb)) (jS (i:=3) kg.nd rfl (Or.inl rfl))
    (jf (qN nJ rfl (zT (by rfl) T.qJ (iY (pv 0) jb)) (ur K (i:=4) (j:=2) rfl kg.nd rfl rfl (Or.inl rfl) (Or.inl rfl))
     (jf (rA (pW (jT (LU rfl) (by rfl) T.QL M3 (iY
       (nI (own:=[("choice",5)]) rfl kg.nd (kK (pv 2)) (jO rfl) (λ _ _ _ _ _=>jS (i:=5) kg.nd rfl (Or.inl rfl)) (λ _ _ _ _ _=>kj)
        (λ _ _ _ _ _=>jG T.AY (N5 T) hr rfl jA (iY (pv 5)<|iY (pv 1) jb))) jb)))
      (jf (yx jt (yw (pv 1) (pv 4) set_list))) m7)))))<|
   jf (jx (pv 1)),?_⟩
  have Tg:(ls.map V.ref).length=iX.length:=by rw[ah,W.len]
  refine⟨_,rfl,ol,rfl,⟨_,jz.of Lo⟩,λ D hD=>lU (K:=K) (a:=ol) (xs:=ls.map V.ref) (λ i H9=>H9=upd H D (.lst (((La.zeros iX.length).map V.int).take i))) rfl (λ i H9 _ e9=>by rw[e9];exact jz.of (by rw[jd (je Lo hD)];exact Lo)) ?_ ?_⟩
  ·rintro i x H9 hi rfl;have hi':i<iX.length:=by rw[<-Tg];exact (ao.mp hi).1
   refine⟨rfl,_,iZ,by rw[aU,ah,vC,sizeLine_eq];omega,?_⟩;rw[jL,take_snoc (l:=(La.zeros iX.length).map V.int) (x:=V.int 0) (by unfold La.zeros;rw[ai,ai,aN hi'];rfl)]
  rintro H9 rfl;rw[Tg,show ((La.zeros iX.length).map V.int).take iX.length=(La.zeros iX.length).map V.int from ay (by rw[ah,vC];exact aq _)];have k0:=jh (o:=.lst ((La.zeros iX.length).map V.int)) hD;refine⟨_,rfl,ol,_,rfl,.inl (jz.of (k0 _ _ Lo)),_,rfl,by rw[Tg];omega,by rw[Tg];omega,?_⟩;rw[Tg];have en:(iX.length:Int).toNat=iX.length:=by simp
  have B:∀k,La.o6 (La.iter (La.oM iX iX.length) k (La.zeros iX.length)) iX.length:=λ k=>La.nG (P:=λ m=>La.o6 m iX.length) (λ _ b=>La.pR b) k _ (La.wU _)
  refine CP (n:=(iX.length:Int).toNat) (λ k σ H9=>∃v2 v3 v4,σ=[some (.ref ol),some (.ref D),v2,v3,v4,none]/\jk H H9/\H9 D=some (.lst ((La.iter (La.oM iX iX.length) k (La.zeros iX.length)).map V.int)))
   ⟨none,none,none,rfl,k0,iZ⟩ ?_ ?_
  ·rintro k σ H9 hk ⟨v2,v3,v4,rfl,k9,h9⟩;have Bk:=B k;have nx:La.iter (La.oM iX iX.length) (k+1) (La.zeros iX.length)=La.oM iX iX.length (La.iter (La.oM iX iX.length) k (La.zeros iX.length)):=La.oz _ _ _;generalize La.iter (La.oM iX iX.length) k (La.zeros iX.length)=m at *
   refine⟨_,rfl,ol,_,rfl,jz.of (k9 _ _ Lo),AA (K:=K) (a:=ol) (xs:=ls.map V.ref) (λ i σ H8=>∃v2 v3 v4,σ=[some (.ref ol),some (.ref D),v2,v3,v4,none]/\jk H H8/\H8 D=some (.lst (((aB i).foldl (La.kY iX) m).map V.int)))
    ⟨_,_,_,rfl,k9,h9⟩ (λ i σ H8 _ ⟨_,_,_,_,e,_⟩=>jz.of (e _ _ Lo)) ?_ ?_⟩
   ·rintro i x σ H8 T8 hi Vf ⟨w2,w3,w4,rfl,k8,h8⟩;obtain⟨la,el,rfl⟩:=lS hi;obtain⟨os,eo,as,l1,l2⟩:=W.get el;have hin:i<iX.length:=(ao.mp eo).1;have go:iX.getD i []=os:=by rw[aa,eo];rfl
    obtain⟨o8,So⟩:=S os (au eo);have Bi:La.o6 ((aB i).foldl (La.kY iX) m) iX.length:=La.yb (P:=λ m=>La.o6 m iX.length) _ _ (λ _ _ _ b=>La.yc b) Bk;have nx2:(aB (i+1)).foldl (La.kY iX) m=La.kY iX ((aB i).foldl (La.kY iX) m) i:=by rw[List.range_succ,dU];rfl
    rw[nx2];generalize (aB i).foldl (La.kY iX) m=mi at *
    have k7:jk H8 (upd H8 T8 (.tup [.int (i:Nat),.ref la])):=jh Vf;have K7:=k8.trans k7;have h7:=k7 _ _ h8;refine AB.at iZ ?_;generalize upd H8 T8 (.tup [.int (i:Nat),.ref la])=H7 at *
    refine⟨_,rfl,la,rfl,⟨_,jz.of (K7 _ _ l1)⟩,λ Z hZ=>lU (K:=K) (a:=la) (xs:=as.map V.ref) (λ j H6=>jk H7 H6/\H6 Z=some (.lst (((os.map λ o=>La.l9 o mi).map V.bl).take j)))
     ⟨jh hZ,iZ⟩ (λ j H6 _ ⟨e,_⟩=>jz.of (e _ _ (K7 _ _ l1))) ?_ ?_⟩
    ·rintro j y H6 hj ⟨k6,h6⟩;obtain⟨ca,ec,rfl⟩:=lS hj;obtain⟨o,SK,ho⟩:=l2.get ec;have hjl:j<os.length:=(ao.mp SK).1;have sm:=So o (au SK);refine⟨rfl,?_⟩;refine⟨_,rfl,_,rfl,ca,D,o,mi,rfl,ho.same (K7.trans k6),jz.of (k6 _ _ h7),sm.ways.1,λ w hw=>by rw[Bi.len];exact (sm.ways.2 w hw).1,λ H5 k5=>?_⟩;refine⟨_,k5 _ _ h6,by rw[aU,sizeLine_eq];simp;omega,λ b u e=>?_,?_⟩
     ·rw[jd (je e hZ)];exact k5 _ _ (k6 _ _ e)
     ·rw[iZ,take_snoc (l:=(os.map λ o=>La.l9 o mi).map V.bl) (x:=V.bl (La.l9 o mi)) (by rw[ai,ai,SK];rfl)]
    ·rintro H6 ⟨k6,h6⟩;rw[ah,show ((os.map λ o=>La.l9 o mi).map V.bl).take as.length=(os.map λ o=>La.l9 o mi).map V.bl from ay (by rw[ah,ah,l2.len];exact aq _)] at h6;refine⟨Z,_,rfl,jz.of h6,_,rfl,?_⟩;have ea:(os.map λ o=>La.l9 o mi).all id=(iX.getD i []).all λ o=>La.l9 o mi:=by rw[go,iQ];rfl
     have YO:=k6 _ _ h7
     cases c:(iX.getD i []).all λ o=>La.l9 o mi with
     |true=>
      refine tZ (ea.trans c) ?_;refine⟨_,rfl,_,rfl,D,_,(i:Int),i,rfl,rfl,YO,EH (by rw[ah,Bi.len];exact hin),?_⟩;rw[vB];refine⟨_,_,_,rfl,λ b u e=>?_,?_⟩
      ·rw[jd (je e hD)];exact k6 _ _ (K7 _ _ e)
      ·rw[iZ];unfold La.kY;rw[if_pos c]
     |false=>
      refine t6 (ea.trans c) ?_;refine⟨_,_,_,rfl,K7.trans k6,?_⟩;unfold La.kY;rw[if_neg (by rw[c];simp)];exact YO
   ·rintro σ H8 ⟨w2,w3,w4,rfl,k8,h8⟩;rw[Tg] at h8;exact⟨_,_,_,rfl,k8,by rw[nx];exact h8⟩
  ·rintro σ H9 ⟨v2,v3,v4,rfl,k9,h9⟩;rw[en] at h9;exact⟨_,rfl,h D H9 k9 hD h9⟩
theorem N7:∀{ws:List (Nat×Nat)},(∀w∈ws,w.2<=1000)->(ws.map λ w=>w.2).sum<=ws.length*1000
 |[],_=>by simp
 |w::ws,h=>by
  have i:=N7 (ws:=ws) λ x hx=>h x (by simp[hx])
  have a:=h w (by simp);rw[aT,cV,aJ];omega
theorem Lb{N:Ra61.Net}(G:Fq.Good N){s:Nat}{c:Ra61.Choice}(hc:c∈Ra61.choicesOf N s){m:Int}(hm:m=0\/m = -1):Small (Fq.lX m c) N.length:=by
 obtain⟨x,hx,hc'⟩:=Fq.qK hc
 obtain⟨a,b,d,e,f⟩:=G.ways x hx c hc'
 have wp:=Fq.Bd a λ w hw=>(d w hw).2.1
 have ws:=N7 (ws:=c.ways) λ w hw=>(d w hw).2.2
 have wt:c.weight<=16000:=by
  show (c.ways.map λ w=>w.2).sum<=16000;omega
 refine⟨?_,⟨by show (0:Int)<(c.weight:Int);omega,by show (c.weight:Int)<=16000000;omega⟩,⟨b,λ w hw=>⟨(d w hw).1,by have:=(d w hw).2.2;omega⟩⟩⟩
 show -1000<=c.gain*m/\c.gain*m<=1000
 rcases hm with rfl | rfl<;>constructor<;>omega
theorem Gf{N:Ra61.Net}(G:Fq.Good N)(s:Nat):(Ra61.choicesOf N s).length<=8:=by
 unfold Ra61.choicesOf
 cases e:N[s]? with
 |none=>simp
 |some y=>simp only[bE,di];exact G.few y (au e)
theorem Oa(N:Ra61.Net)(g:Nat)(m:Int):(Fq.tK N g m).length=N.length:=by simp[Fq.tK]
theorem B8{N:Ra61.Net}{g:Nat}(G:Fq.Good N){m:Int}(hm:m=0\/m = -1):∀os∈Fq.tK N g m,os.length<=8/\∀o∈os,Small o N.length:=λ os hos=>by
 obtain⟨s,_,rfl⟩:=az.mp hos
 split
 ·exact⟨by simp,λ o ho=>by cases ho⟩
 ·refine⟨by rw[ah];exact Gf G s,λ o ho=>?_⟩
  obtain⟨c,hc,rfl⟩:=az.mp ho;exact Lb G hc hm
theorem Gg{n:Nat}{b:Nat->Bool}{iX:List (List Fq.kX)}{m:Nat}(h:∀os∈iX,os.length<=8/\∀o∈os,Small o m):∀os∈La.oA n b iX,os.length<=8/\∀o∈os,Small o m:=λ os hos=>by
 obtain⟨s,_,rfl⟩:=az.mp hos
 split
 ·by_cases q:s<iX.length
  ·exact h _ (Jj q)
  ·rw[aa,cB (by omega)];exact⟨by simp,λ o ho=>by cases ho⟩
 ·exact⟨by simp,λ o ho=>by cases ho⟩
theorem Ob{a b:V}{m:Str}(h1:(m==("tops":Str))=false)(h2:(m==("bottom":Str))=false):(Oo a b).lookup m=none:=by
 unfold Oo
 rw[jn,if_neg (λ z=>by rw[z] at h2;exact absurd h2 (by decide)),jn,if_neg (λ z=>by rw[z] at h1;exact absurd h1 (by decide))]
 rfl
theorem yt:∀(xs bs:List (List Nat)),xs.length=bs.length->mr xs bs=(aB xs.length).flatMap λ s=>B6 (xs.getD s []) (bs.getD s [])
 |[],[],_=>rfl
 |x::xs,b::bs,h=>by
  have i:=yt xs bs (by simpa using h);rw[aJ,fu,fD,List.flatMap_map];show B6 x b++mr xs bs=_;rw[i];rfl
theorem B9{α β:Type}{f g:α->List β}:∀{l:List α},(∀x∈l,f x=g x)->l.flatMap f=l.flatMap g
 |[],_=>rfl
 |x::l,h=>by rw[fD,fD,h x (by simp),B9 λ y hy=>h y (by simp[hy])]
def outF(N:Ra61.Net)(v:Ra61.Row):List Nat:=Ra61.linesOf N λ s=>(Ra61.toldFr (Ra61.at_ v s),none)
theorem Oc{N:Ra61.Net}{v:Ra61.Row}{jc:List Int}{d:Nat}(R:Fq.M6 v jc (d:Int))(hl:jc.length=N.length):mr (N.map λ s=>s.name) (jc.map λ z=>Ra61.frac z d)=outF N v:=by
 unfold outF Ra61.linesOf
 rw[yt _ _ (by rw[ah,ah,hl]),ah]
 refine B9 λ s hs=>?_
 have hs:=aX.mp hs
 have hs':s<jc.length:=by omega
 have e1:(N.map λ s=>s.name).getD s []=Ra61.nameOf N s:=by
  rw[aa,ai];rfl
 have e2:(jc.map λ z=>Ra61.frac z d).getD s []=Ra61.toldFr (Ra61.at_ v s):=by
  rw[(R.at hs').told,bM,aa,ai,af hs',aa,af hs'];rfl
 rw[e1,e2]
 unfold B6 Ra61.line
 simp
def Od(K:aj)(t:ng):Sp:=λ vs H Q _=>∃(ml ol:Addr) (xs:List V) (b:Nat->Bool) (ls:List Addr) (iX:List (List Fq.kX)),vs=[.ref ml,.ref ol]/\jz K H ml xs/\xs.length=iX.length/\(∀i v,xs[i]? = some v->∀H,OL K v H (b i))/\H ol=some (.lst (ls.map V.ref))/\Ea (Jc t H) ls iX/\iX.length<=16 /\
 ∀D ws H',jk H H'->H D=none->H' D=some (.lst (ws.map V.ref))->Ea (Jc t H') ws (La.oA iX.length b iX)->Q (.ref D) H'
theorem Oe(T:Txt K mg t):Ok P w K mg base 1 t.tS t.rP ["marks","options"] (Od K t):=by
 refine T.wu.fn.qw ou (λ vs H Q E h=>?_) λ cdv A outer s H vs Q E hr h=>?_
 ·obtain⟨ml,ol,xs,b,ls,iX,rfl,_⟩:=h;rfl
 ·obtain⟨ml,ol,xs,b,ls,iX,rfl,hml,YQ,hx,Lo,W,YN,h⟩:=h
  refine⟨_,jf (jx (nI (own:=[("mark",2),("choices",3)]) rfl ou.nd (DZ (by rfl) T.Iq (iY (pv 0)<|iY (pv 1) jb)) (jO rfl)
   (λ _ _ _ _ _=>ur K (i:=2) (j:=3) rfl ou.nd rfl rfl (Or.inl rfl) (Or.inl rfl)) (λ _ _ _ _ _=>kj)
   (λ _ _ _ _ _=>ua (HZ K (pv 2)) (pv 3) (mq jb)))),?_⟩
  have hlen:xs.length=(ls.map V.ref).length:=by rw[ah,W.len,YQ]
  have wl:(La.oA iX.length b iX).length=iX.length:=by simp[La.oA]
  refine⟨_,rfl,_,rfl,ml,ol,_,_,rfl,hml,jz.of Lo,λ D hD=>GS (K:=K) (a:=ml) (b:=ol) (xs:=xs) (ys:=ls.map V.ref) hlen
   (λ i H9=>∃qs:List Addr,qs.length=i/\jk H H9/\H9 D=some (.lst (qs.map V.ref))/\Ea (Jd t H9 D) qs ((La.oA iX.length b iX).take i))
   ⟨[],rfl,jh hD,iZ,Ea.nil⟩ (λ i H9 _ ⟨_,_,e,_,_⟩=>⟨jk.seq e hml,jz.of (e _ _ Lo)⟩) ?_ ?_⟩
  ·rintro i v u H9 T9 hi hj Qi ⟨qs,K2,k9,h9,E9⟩;obtain⟨la,el,rfl⟩:=lS hj;obtain⟨os,eo,ho⟩:=W.get el;have hin:i<iX.length:=(ao.mp eo).1;have tv:=hx i v hi;have Vl:jk H9 (upd H9 T9 (.tup [v,.ref la])):=jh Qi;have Qk:=Vl _ _ h9;have E10:=E9.mono λ x a h=>Jd.same h Vl
   have YR:=k9.trans Vl;have ke:(La.oA iX.length b iX)[i]? = some (if b i=true then os else []):=by
    unfold La.oA;rw[ai,aN hin];show some (if b i=true then iX.getD i [] else [])=_;rw[aa,eo];rfl
   refine AB.at iZ ⟨rfl,?_⟩;generalize upd H9 T9 (.tup [v,.ref la])=OZ at *
   have fin:∀(z:Addr) (H4:Hp),jk OZ H4->Jd t H4 D (if b i=true then os else []) z->∃acc,H4 D=some (.lst acc)/\acc.length<sizeLine/\∃qs:List Addr,qs.length=i+1/\jk H (upd H4 D (.lst (acc++[V.ref z]))) /\
     (upd H4 D (.lst (acc++[V.ref z]))) D=some (.lst (qs.map V.ref))/\Ea (Jd t (upd H4 D (.lst (acc++[V.ref z]))) D) qs ((La.oA iX.length b iX).take (i+1)):=λ z H4 k4 hz=>by
    have NS:=k4 _ _ Qk;refine⟨qs.map V.ref,NS,by rw[ah,K2,sizeLine_eq];omega,qs++[z],by simp[K2],λ b u e=>?_,by rw[iZ,bw];rfl,?_⟩
    ·rw[jd (je e hD)];exact k4 _ _ (YR _ _ e)
    ·rw[take_snoc ke];exact Ea.snoc (E10.mono λ x a h=>(Jd.same h k4).put NS) (hz.put NS)
   refine⟨_,rfl,b i,tv _,?_⟩
   cases hb:b i with
   |true=>
    rw[hb,if_pos rfl] at fin;exact tZ rfl ⟨_,rfl,fin la OZ (jk.refl _) (ho.new hD YR)⟩
   |false=>
    rw[hb,if_neg (by simp)] at fin;refine t6 rfl ⟨by simp,λ z hz=>fin z _ (jh hz) ⟨(λ q=>by rw[q,Qk] at hz;cases hz),[],iZ,Ea.nil⟩⟩
  ·rintro H9 ⟨qs,K2,k9,h9,E9⟩;rw[YQ] at K2 E9;rw[ay (by rw[wl];exact aq _)] at E9;exact h D qs H9 k9 hD h9 (E9.mono λ x a h=>h.os)
def Gh(K:aj)(t:ng):Sp:=λ vs H Q _=>∃(va:Addr) (jc:List Int) (bot:Int),vs=[.ref va]/\Ln K t H va jc bot/\jc.length<=16/\∀x H',jk H H'->H x=none->Ln K t H' x (jc.map λ z=>-z) bot->Q (.ref x) H'
theorem Gi(T:Txt K mg t):Ok P w K mg base 3 t.qE t.qf ["self"] (Gh K t):=by
 refine T.tX.fn.qw nB (λ vs H Q E h=>?_) λ cdv A outer s H vs Q E hr h=>?_
 ·obtain⟨va,jc,bot,rfl,_⟩:=h;rfl
 ·obtain⟨va,jc,bot,rfl,⟨dv,tl,v1,v2⟩,hn,h⟩:=h
  refine⟨_,jf (jx (Ay T.mj T.uR (ve T) hr rfl jA (iY (nI (own:=[("top",1)]) rfl nB.nd (kK (jM K (pv 0) rfl)) (jO rfl) (λ _ _ _ _ _=>jS (i:=1) nB.nd rfl (Or.inl rfl)) (λ _ _ _ _ _=>kj)
   (λ _ _ _ _ _=>CQ yz (pv 1)))<|iY (jM K (pv 0) rfl) jb))),?_⟩
  refine⟨_,rfl,va,_,dv,_,_,rfl,v1,T.mj.cl,T.oJ,BZ _ _,tl,rfl,⟨_,v2⟩,λ D hD=>lU (K:=K) (a:=tl) (xs:=jc.map V.int) (λ i H9=>H9=upd H D (.lst (((jc.map λ z=>-z).map V.int).take i))) rfl (λ i H9 _ e9=>by rw[e9];exact jk.seq (jh hD) v2) ?_ ?_⟩
  ·rintro i x H9 hi rfl;obtain⟨hi1,rfl⟩:=int_at hi;refine⟨rfl,?_⟩;refine⟨_,rfl,_,rfl,_,iZ,by rw[aU,sizeLine_eq];simp;omega,?_⟩;rw[jL,take_snoc (l:=(jc.map λ z=>-z).map V.int) (x:=V.int (-(jc.getD i 0))) (by rw[ai,ai,af hi1,aa,af hi1];rfl)]
  ·rintro H9 rfl;rw[ah,show ((jc.map λ z=>-z).map V.int).take jc.length=(jc.map λ z=>-z).map V.int from ay (by rw[ah,ah];exact aq _)];have k1:=jh (o:=.lst ((jc.map λ z=>-z).map V.int)) hD;refine⟨_,rfl,va,_,dv,_,_,rfl,k1 _ _ v1,T.mj.cl,T.nk,wX _ _,?_⟩;intro x dx hx hdx hne;refine⟨x,dx,_,_,rfl,iZ,?_⟩;rw[jL];have k2:=oF (u:=.own x) (v:=.ins t.mL dx (Oo (.ref D) (.int bot))) hx hdx;exact⟨rfl,h x _ (k1.trans k2) (k1.free hx) ⟨dx,D,iZ,jz.of (k2 _ _ iZ)⟩⟩
theorem SR{N:Ra61.Net}{g:Nat}(G:Fq.Good N):Gb (La.jQ N g) (La.lu N g):=by
 have l1:(La.jQ N g).length=N.length:=by simp[La.jQ,La.oA]
 refine⟨by rw[l1];exact G.len.1,by rw[l1];exact G.len.2,by rw[l1];simp[La.lu,Fq.Eo],λ e he=>?_,?_⟩
 ·obtain⟨m,hm,rfl⟩:=az.mp he
  obtain⟨s,_,rfl⟩:=az.mp hm
  split<;>decide
 ·rw[l1]
  exact Gg (B8 G (.inl rfl))
def Of(K:aj)(t:ng):Sp:=λ vs H Q E=>∃(g room:Int) (l:Addr) (bs:List Nat),vs=[.int g,.int room,.ref l]/\jz K H l (jJ bs)/\(∀c∈bs,c<256) /\
 if (0<=g/\g<=65535)/\bs.length<=65536/\0<=room/\room<=65536 then
  Hs (Rd.ku bs) (∀H',E (.ref t.jr) none H') (λ N=>if 2^N.length<=g.toNat then ∀H',E (.ref t.jF) none H' else
   if room<((outF N (Ra61.worst N g.toNat)).length:Int) then ∀H',E (.ref t.lK) none H' else
    ∀D H',jk H H'->H' D=some (.lst (((((outF N (Ra61.worst N g.toNat)).length:Nat):Int)::(outF N (Ra61.worst N g.toNat)).map λ(b:Nat)=>(b:Int)).map V.int))->Q (.ref D) H')
 else ∀H',E (.ref t.jE) none H'
theorem CL(T:Txt K mg t)(kb:K.In base)(hN:base.NoSeer)(hP:P.given.tree=none):Ok P w K mg base 38 t.xK t.vX ["goals","room","text"] (Of K t):=by
 refine T.AZ.fn.qw jZ (λ vs H Q E h=>?_) λ cdv A outer s H vs Q E hr h=>?_
 ·obtain⟨g,room,l,bs,rfl,_⟩:=h;rfl
 ·obtain⟨g,room,l,bs,rfl,hl,hb,h⟩:=h
  have hr1:=hr.mono (show 1<=37 by decide);have hr2:=hr.mono (show 2<=37 by decide);have hr3:=hr.mono (show 3<=37 by decide);have IZ:=hr.mono (show 4<=37 by decide);have Xx:=hr.mono (show 10<=37 by decide);refine⟨_,ja (jB (i:=3) jZ.nd rfl (Or.inl rfl) (jG T.rW (vI T kb) Xx rfl (jw xl_of) (iY (pv 2)<|iY (pv 1)<|iY (pv 0) jb)))<|
   ja (jB (i:=4) jZ.nd rfl (Or.inl rfl) (jG T.AX (CI T) hr1 rfl jA (iY (pv 0)<|iY (pv 3) jb)))<|
   ja (jB (i:=5) jZ.nd rfl (Or.inl rfl) (jG T.xP (zQ T) IZ rfl jA (iY (pv 4)<|iY (pv 3)<|iY jt jb)))<|
   ja (jB (i:=6) jZ.nd rfl (Or.inl rfl) (Ay T.mS T.A2 (CK T) hr2 rfl jA (iY (jG T.wu (Oe T) hr1 rfl jA (iY (jG T.xQ (K9 T) hr2 rfl jA (iY (pv 5) jb))<|iY (pv 5) jb))<|iY
    (nI (own:=[("mark",7)]) rfl jZ.nd (kK (pv 4)) (jO rfl) (λ _ _ _ _ _=>jS (i:=7) jZ.nd rfl (Or.inl rfl)) (λ _ _ _ _ _=>kj) (λ _ _ _ _ _=>CQ yz (pv 7))) jb)))<|
   ja (jB (i:=8) jZ.nd rfl (Or.inl rfl) (rG T.mS T.uV (Ge T) IZ jA (pv 6) (iY
    (nI (own:=[("state",9)]) rfl jZ.nd (kK (pv 3)) (jO rfl) (λ _ _ _ _ _=>jS (i:=9) jZ.nd rfl (Or.inl rfl)) (λ _ _ _ _ _=>kj) (λ _ _ _ _ _=>jt)) jb)))<|
   jf (jx (jG T.tell (Qo T kb) hr1 rfl (jw xl_of) (iY (pv 3)<|iY (kW T.mj T.zu (Qn T hN hP) hr jA (kW T.mj T.tX (Gi T) hr3 jA (pv 8)))<|iY (pv 1) jb))),?_⟩
  refine⟨_,rfl,_,rfl,_,rfl,l,bs,room,g,rfl,hl,hb,?_⟩
  by_cases hin:(0<=g/\g<=65535)/\bs.length<=65536/\0<=room/\room<=65536
  case neg=>
   rw[if_neg hin] at h ⊢;exact h
  rw[if_pos hin] at h ⊢
  cases eN:Rd.ku bs with
  |none=>rw[eN] at h;exact h
  |some N=>
   rw[eN] at h;have G:=Rd.FI eN;have Nm:=Rd.Km eN;have h:if 2^N.length<=g.toNat then ∀H',E (.ref t.jF) none H' else
     if room<((outF N (Ra61.worst N g.toNat)).length:Int) then ∀H',E (.ref t.lK) none H' else
      ∀D H',jk H H'->H' D=some (.lst (((((outF N (Ra61.worst N g.toNat)).length:Nat):Int)::(outF N (Ra61.worst N g.toNat)).map λ(b:Nat)=>(b:Int)).map V.int))->Q (.ref D) H':=h
   show if 2^N.length<=g.toNat then _ else _
   by_cases hg:2^N.length<=g.toNat
   ·rw[if_pos hg] at h ⊢;exact h
   rw[if_neg hg] at h ⊢;rintro v H1 k1 ⟨sl,nU,rfl,n1,n2⟩;refine⟨_,rfl,_,rfl,g,sl,_,rfl,hin.1.1,jz.of n1,by rw[ah,n2.len];exact G.len.2,λ ml hml=>?_⟩;rw[ah,n2.len];have k2:=jh (o:=.lst ((lG N.length g.toNat).map V.int)) hml;have m2:(upd H1 ml (.lst ((lG N.length g.toNat).map V.int))) ml=some (.lst ((lG N.length g.toNat).map V.int)):=iZ;generalize upd H1 ml (.lst ((lG N.length g.toNat).map V.int))=H2 at *
   have Vm:(lG N.length g.toNat).length=N.length:=by unfold lG;simp
   refine⟨_,rfl,_,rfl,ml,sl,0,N,g.toNat,nU,rfl,.inl rfl,jz.of m2,jz.of (k2 _ _ n1),n2.mono λ x a h=>h.same k2,G,λ ol ls H3 k3 hol3 o3 E3=>?_⟩;have Lc:=Oa N g.toNat 0;have ts:=B8 (g:=g.toNat) G (m:=0) (.inl rfl);refine⟨_,rfl,ol,ls,Fq.tK N g.toNat 0,rfl,o3,E3,by rw[Lc];exact G.len.2,by rw[Lc];exact ts,λ el H4 k4 hel e4=>?_⟩;rw[Lc] at e4;have Be:La.o6 (La.za N g.toNat) N.length:=La.DI;refine⟨_,rfl,el,ol,(La.za N g.toNat).map V.int,λ s=>decide ((La.za N g.toNat).getD s 0≠0),ls,Fq.tK N g.toNat 0,rfl,jz.of e4,by rw[ah,Be.len,Lc],λ i v hv H=>?_,k4 _ _ o3,E3.mono λ x a h=>h.same k4,by rw[Lc];exact G.len.2,λ D qs H5 k5 hD h5 E5=>?_⟩
   ·obtain⟨hi1,rfl⟩:=int_at hv;exact (N3 _).symm
   rw[Lc] at E5;have E5:Ea (Jc t H5) qs (La.jQ N g.toNat):=E5;have VP:=(k3.trans k4).trans k5;have YS:La.lu N g.toNat=(lG N.length g.toNat).map λ m=>-m:=rfl
   have Vn:(La.lu N g.toNat).length=N.length:=by rw[YS,ah,Vm]
   refine⟨_,rfl,ml,rfl,⟨_,jz.of (VP _ _ m2)⟩,λ Z hZ=>lU (K:=K) (a:=ml) (xs:=(lG N.length g.toNat).map V.int) (λ i H9=>H9=upd H5 Z (.lst (((La.lu N g.toNat).map V.int).take i))) rfl (λ i H9 _ e9=>by rw[e9];exact jz.of (by rw[jd (je (VP _ _ m2) hZ)];exact VP _ _ m2)) ?_ ?_⟩
   ·rintro i x H9 hi rfl;obtain⟨hi1,rfl⟩:=int_at hi;refine⟨rfl,?_⟩;refine⟨_,rfl,_,rfl,_,iZ,by rw[aU,ah,Vn,sizeLine_eq];have:=G.len.2;omega,?_⟩;rw[jL,take_snoc (l:=(La.lu N g.toNat).map V.int) (x:=V.int (-((lG N.length g.toNat).getD i 0))) (by rw[YS,ai,ai,af hi1,aa,af hi1];rfl)]
   rintro H9 rfl;rw[ah,Vm,show ((La.lu N g.toNat).map V.int).take N.length=(La.lu N g.toNat).map V.int from ay (by rw[ah,Vn];exact aq _)];have k6:=jh (o:=.lst ((La.lu N g.toNat).map V.int)) hZ;have z6:(upd H5 Z (.lst ((La.lu N g.toNat).map V.int))) Z=some (.lst ((La.lu N g.toNat).map V.int)):=iZ;generalize upd H5 Z (.lst ((La.lu N g.toNat).map V.int))=H6 at *
   intro qa dq hqa hdq hne;refine⟨qa,dq,_,_,rfl,iZ,?_⟩;rw[jL];refine⟨rfl,?_⟩;have k7:=oF (u:=.own qa) (v:=.ins t.lJ dq (KW (.ref D) (.ref Z))) hqa hdq;have q7:(upd (upd H6 dq (.own qa)) qa (.ins t.lJ dq (KW (.ref D) (.ref Z)))) qa=some (.ins t.lJ dq (KW (.ref D) (.ref Z))):=iZ;generalize upd (upd H6 dq (.own qa)) qa (.ins t.lJ dq (KW (.ref D) (.ref Z)))=H7 at *
   have QE:Tf K t H7 qa (La.jQ N g.toNat) (La.lu N g.toNat):=⟨dq,D,Z,qs,q7,k7 _ _ (k6 _ _ h5),E5.mono λ x a h=>(h.same k6).same k7,jz.of (k7 _ _ z6)⟩
   have VQ:=(k2.trans (VP.trans k6)).trans k7;refine⟨_,rfl,qa,dq,_,rfl,q7,zb (by decide) (by decide),_,rfl,sl,rfl,⟨_,jz.of (VQ _ _ n1)⟩,λ Y hY=>lU (K:=K) (a:=sl) (xs:=nU.map V.ref) (λ i H9=>H9=upd H7 Y (.lst (((La.zeros N.length).map V.int).take i))) rfl (λ i H9 _ e9=>by rw[e9];exact jz.of (by rw[jd (je (VQ _ _ n1) hY)];exact VQ _ _ n1)) ?_ ?_⟩
   ·rintro i x H9 hi rfl;obtain⟨sa,ea,rfl⟩:=lS hi;have hi:i<N.length:=by rw[<-n2.len];exact (ao.mp ea).1
    refine⟨rfl,_,iZ,by rw[aU,ah,vC,sizeLine_eq];have:=G.len.2;omega,?_⟩;rw[jL,take_snoc (l:=(La.zeros N.length).map V.int) (x:=V.int 0) (by unfold La.zeros;rw[ai,ai,aN hi];rfl)]
   rintro H9 rfl;rw[ah,n2.len,show ((La.zeros N.length).map V.int).take N.length=(La.zeros N.length).map V.int from ay (by rw[ah,vC];exact aq _)];have k8:=jh (o:=.lst ((La.zeros N.length).map V.int)) hY;have y8:(upd H7 Y (.lst ((La.zeros N.length).map V.int))) Y=some (.lst ((La.zeros N.length).map V.int)):=iZ;generalize upd H7 Y (.lst ((La.zeros N.length).map V.int))=H8 at *
   obtain⟨ks,hks,_⟩:=La.Ez (g:=g.toNat) G;have ow:(La.jQ N g.toNat).length=N.length:=by simp[La.jQ,La.oA]
   refine⟨qa,Y,La.jQ N g.toNat,La.lu N g.toNat,La.zeros N.length,La.Hq N g.toNat,rfl,QE.same k8,jz.of y8,SR G,La.DM,λ π Fπ=>by rw[ow];exact⟨Fπ.fit,La.Hr G Fπ.fit,La.DL G Fπ⟩,by rw[ow];exact⟨ks,hks⟩,λ π va H9 Fπ eπ k9 hva V9 Z9=>?_⟩;rw[ow] at eπ V9 Z9;obtain⟨b0,vl,R⟩:=La.KH G Fπ eπ;clear eπ hks;generalize La.kr (La.jQ N g.toNat) (La.lu N g.toNat) N.length π = VV at *
   obtain⟨jc,bot⟩:=VV;have b0:0<bot:=b0;have vl:jc.length=N.length:=vl;have V9:Ln K t H9 va jc bot:=V9;have Z9:F5 jc bot 1000:=Z9;have R:Fq.M6 (Ra61.worst N g.toNat) (jc.map λ z=>-z) bot:=R;obtain⟨d,rfl⟩:=fi (fB b0);obtain⟨dv,tl,v1,v2⟩:=id V9;have K19:=(VQ.trans k8).trans k9;refine⟨_,rfl,_,rfl,va,dv,_,rfl,v1,Ob (by decide) (by decide),va,jc,(d:Int),rfl,V9,by rw[vl];exact G.len.2,λ nv OZ Vl hnv YT=>?_⟩;obtain⟨dv',tl',w1,w2⟩:=id YT;have nl:(jc.map λ z=>-z).length=N.length:=by rw[ah,vl]
   have YU:F5 (jc.map λ z=>-z) (d:Int) 1000:=⟨λ x hx=>by
    obtain⟨y,hy,rfl⟩:=az.mp hx;rw[Int.natAbs_neg];exact Z9.jc y hy,Z9.bot,Z9.B⟩
   refine⟨nv,dv',_,rfl,w1,Ob (by decide) (by decide),nv,jc.map λ z=>-z,d,1000,rfl,YT,by omega,YU,by decide,by rw[nl];exact G.len.2,λ wl ws H11 k11 hwl h11 W11=>?_⟩;have SS:=(K19.trans Vl).trans k11;have dl:d<2^1000:=by have:=Z9.bot;simpa using this
   refine⟨_,rfl,sl,wl,room,N,ws,(jc.map λ z=>-z).map λ z=>Ra61.frac z d,rfl,⟨sl,nU,rfl,SS _ _ n1,n2.mono λ x a h=>h.same SS⟩,h11,W11,by rw[ah,nl],G.len.2,λ s hs=>by have:=Nm s hs;omega,λ b hb'=>?_,?_⟩
   ·obtain⟨z,hz,rfl⟩:=az.mp hb';exact bg (NT (B:=1000) (YU.jc z hz) dl) (by decide)
   ·rw[Oc R nl]
    by_cases hh:room<((outF N (Ra61.worst N g.toNat)).length:Int)
    ·rw[if_pos hh] at h ⊢;exact h
    ·rw[if_neg hh] at h ⊢;exact λ D H' kk _ e=>h D H' ((k1.trans SS).trans kk) e
def Og(g room:Int)(bs:List Nat):List Int:=if (0<=g/\g<=65535)/\bs.length<=65536/\0<=room/\room<=65536 then (match Rd.ku bs with
 |none=>[-2]
 |some N=>if 2^N.length<=g.toNat then [-3] else if room<((outF N (Ra61.worst N g.toNat)).length:Int) then [-7] else (((outF N (Ra61.worst N g.toNat)).length:Nat):Int)::(outF N (Ra61.worst N g.toNat)).map λ(b:Nat)=>(b:Int)) else [-1]
theorem Qs{H H2:Hp}{l Tb:Addr}{xs:List V}{ps:Array Value}(h:jz K H l xs)(hT:H Tb=some (.DR ps))(same:∀b,b≠Tb->H2 b=H b):jz K H2 l xs:=by
 rcases h with (h | ⟨o,h⟩) | h
 ·exact .inl (.inl (by rw[<-h];exact same _ (nH h hT (by intro z;cases z))))
 ·exact .inl (.inr ⟨o,by rw[<-h];exact same _ (nH h hT (by intro z;cases z))⟩)
 ·exact .inr h
theorem Ld(T:Txt K mg t)(kb:K.In base)(hN:base.NoSeer)(hP:P.given.tree=none){A:Around}{outer:List Env}{s:Shared}{H:Hp}{l c Tb:Addr}{g room:Int}{tg tr:Tok}{bs:List Nat}{Q:VK}{E:XK}(hr:mQ 44 A)(e0:yD P w K mg base A outer s H)(hl:jz K H l (jJ bs))(hb:∀c∈bs,c<256)
  (hcode:∀o fd,base.get? t.vo=some o->o.data=.func fd->fd.code=.ref c) (C:PySem.W.CodeHd base c Tb) (hT:H Tb=some (.DR #[])) (hB:∀T,base.get? T=none->base.BuiltinsAt mg T)
  (hq:∀p H',H' p=some (.lst ((Og g room bs).map V.int))->Q (.ref p) H') :
  codeAny (model P w) A (.call (.ref t.vo) ⟨[.int g tg,.int room tr,.ref l],[]⟩) (CR (wG P w) outer P w H s Q E) s:=by
 obtain⟨oc,od,kV,doc,pm,an,cdv,ct,osl,Xi,lk,hcd⟩:=T.worst.fn.ex
 have KX:K.In s.heap:=kb.keeps λ b o e=>(e0.bs b o e).1
 have hbd:=T.worst.bd s [.int g tg,.int room tr,.ref l] KX rfl
 rw[Xi] at hbd lk
 have hc:=hcode _ _ (kb _ _ lk) rfl
 refine ME (vs:=[.int g,.int room,.ref l]) (us:=[.int g tg,.int room tr,.ref l]) (E:=E) lk hcd MX rfl hr e0 hbd (.cons ⟨_,rfl⟩ (.cons ⟨_,rfl⟩ (.cons rfl .nil))) λ s1 hr1 I kp=>?_
 refine wpAny_execs_cons (wpAny_Return_some (wpAny_Call_Name_kw (sN I rfl T.answer.mg ?_)))
 have frees:∀y:Str×NameKind,y∈[(("goals":Str),NameKind.free),("room",.free),("text",.free),("tell_worst",.globalImplicit)]->y.2=.free->y.1∈[("goals":Str),"room","text"]:=by
  intro y hy e;simp only[aA,dg,or_false] at hy
  rcases hy with rfl | rfl | rfl | rfl<;>first | (simp;done) | cases e
 have cells:∀x:Str,x∈[("goals":Str),"room","text"]->∃c,(envOfC "worst" (ji xA) s.heap.objs.size t.vo cdv).cells.lookup x=some c:=λ x hx=>by
  simp only[aA,dg,or_false] at hx
  rcases hx with rfl | rfl | rfl
  ·exact I.ok.has "goals" (.inl rfl)
  ·exact I.ok.has "room" (.inl rfl)
  ·exact I.ok.has "text" (.inl rfl)
 refine e7 (h₀:=base) kb T.answer.fn.kp (Pg (MH I hc C hT hB ?_ rfl λ p c' pm' ctv s2 H2 ho RS ks I2 same grown=>?_))
 ·intro y hy e
  exact cells _ (frees y (by simpa [or_comm,or_left_comm,or_assoc] using hy) e)
 refine⟨I2.Gk,wpAny_call (codeAny_mono (Hx (E:=E0) (Q:=Q) T kb hr1 I2.OQ ho rfl λ SD A1 s3 hrA e3 Xy=>?_) λ r s' h=>?_)⟩
 ·have Xz:s3.heap.CodeRec (.ref c') ((envOfC "worst" (ji xA) s.heap.objs.size t.vo cdv).qual ++ "<lambda>"):=by
   obtain⟨c2,oc,vs,tq,e1,e2,e4,e5⟩:=RS;exact⟨c2,oc,vs,tq,e1,Xy _ _ e2,e4,e5⟩
  refine Pd (k:=41) (vs:=[.int g,.int room,.ref l]) hrA (Uq.of (vs:=[.int g,.int room,.ref l]) I2 rfl ?_ ?_ ?_ ?_ Xy) e3 (Xy _ _ ho) rfl Xz rfl rfl rfl (λ hrk=>jG T.AZ (CL T kb hN hP) (hrk.mono (by decide)) rfl (jw RP) (iY (pv 0)<|iY (pv 1)<|iY (pv 2) jb)) ?_
  ·decide
  ·intro y hy e;exact cells _ (frees y (by simpa [or_comm,or_left_comm,or_assoc] using hy) e)
  ·intro x hx;have hx:x∈[("goals":Str),"room","text"]:=hx;simp only[aA,dg,or_false] at hx
   rcases hx with rfl | rfl | rfl<;>rfl
  ·intro x hx;have hx:x∈[("goals":Str),"room","text"]:=hx;simp only[aA,dg,or_false] at hx
   rcases hx with rfl | rfl | rfl<;>rfl
  ·refine⟨_,rfl,_,rfl,_,rfl,g,room,l,bs,rfl,Qs hl hT same,hb,?_⟩;unfold Og at hq
   by_cases h1:(0<=g/\g<=65535)/\bs.length<=65536/\0<=room/\room<=65536
   ·rw[if_pos h1] at hq ⊢
    cases e:Rd.ku bs with
    |none=>
     rw[e] at hq;exact λ H'=>⟨-2,.text,λ q hq'=>hq q _ iZ⟩
    |some net=>
     rw[e] at hq;dsimp only at hq;show if 2^net.length<=g.toNat then _ else _
     by_cases h2:2^net.length<=g.toNat
     ·rw[if_pos h2] at hq ⊢;exact λ H'=>⟨-3,.goal,λ q hq'=>hq q _ iZ⟩
     rw[if_neg h2] at hq ⊢
     by_cases h3:room<((outF net (Ra61.worst net g.toNat)).length:Int)
     ·rw[if_pos h3] at hq ⊢;exact λ H'=>⟨-7,.room,λ q hq'=>hq q _ iZ⟩
     rw[if_neg h3] at hq ⊢;exact λ q H' sm hp=>hq q H' hp
   ·rw[if_neg h1] at hq ⊢;exact λ H'=>⟨-1,.range,λ q hq'=>hq q _ iZ⟩
 ·cases r with
  |error e=>
   obtain⟨_,_,_,_,_,_,_,_,_,_,_,_,_,_,z⟩:=h;exact z.elim
  |ok f=>
   cases f with
   |ret u=>
    obtain⟨v,H',J,rv,q⟩:=I2.after h;exact⟨v,H',J.os,J.bare,J.base,J.hok,rv,q⟩
   |next=>exact False.elim h
   |brk=>exact False.elim h
   |cont=>exact False.elim h
end
end Ck
end
noncomputable section
namespace Ck
open PySem PySem.Spec PyProof.Rows L2
open PySem.W (OpenSpec WData)
theorem Oh(g room:Int)(ns:List Int)(h:ns.length<=65536):PyRa61.worst g room ns=Og g room (ns.map eG):=by
 have hn:(ns.map eG).length<=65536:=by rw[ah];exact h
 show (Ra61.answer (.worst (Ra61Neutral.nats ns) (ns.length:Int) g room)).value::Ra61Neutral.ints (Ra61.answer (.worst (Ra61Neutral.nats ns) (ns.length:Int) g room)).out=_
 have e:Ra61.answer (.worst (Ra61Neutral.nats ns) (ns.length:Int) g room)=if (Ra61.inside (ns.length:Int) 0 Ra61.MOST&&(Ra61.inside g 0 65535&&Ra61.inside room 0 Ra61.ROOM))=false then Ra61.only (-1) else
   Ra61.onGoals (Ra61Neutral.nats ns) g λ N=>Ra61.said room (Ra61.linesOf N λ s=>(Ra61.toldFr (Ra61.at_ (Ra61.worst N g.toNat) s),none)):=rfl
 rw[e]
 unfold Og
 have hin:(Ra61.inside (ns.length:Int) 0 Ra61.MOST&&(Ra61.inside g 0 65535&&Ra61.inside room 0 Ra61.ROOM))=true↔(0<=g/\g<=65535)/\(ns.map eG).length<=65536/\0<=room/\room<=65536:=by
  unfold Ra61.inside Ra61.MOST Ra61.ROOM;simp only[aQ,decide_eq_true_eq,ah]
  omega
 by_cases q:(0<=g/\g<=65535)/\(ns.map eG).length<=65536/\0<=room/\room<=65536
 ·rw[if_pos q,if_neg (by rw[hin.mpr q];simp),<-Rd.MU]
  unfold Ra61.onGoals Ra61.onNet;show (match Ra61.net (ns.map eG) with | none=>_ | some N=>_:Ra61.Ans).value::Ra61Neutral.ints (match Ra61.net (ns.map eG) with | none=>_ | some N=>_:Ra61.Ans).out=_
  cases eN:Ra61.net (ns.map eG) with
  |none=>rfl
  |some N=>
   dsimp only;have G:Fq.Good N:=Rd.FI (by rw[<-Rd.MU];exact eN)
   by_cases h2:2^N.length<=g.toNat
   ·rw[if_pos h2,if_pos h2];rfl
   ·rw[if_neg h2,if_neg h2];show (Ra61.said room (outF N (Ra61.worst N g.toNat))).value::Ra61Neutral.ints (Ra61.said room (outF N (Ra61.worst N g.toNat))).out=_;unfold Ra61.said
    by_cases h3:room<((outF N (Ra61.worst N g.toNat)).length:Int)
    ·rw[if_pos h3,if_pos h3];rfl
    ·rw[if_neg h3,if_neg h3];rfl
 ·rw[if_neg q,if_pos (by
   cases z:(Ra61.inside (ns.length:Int) 0 Ra61.MOST&&(Ra61.inside g 0 65535&&Ra61.inside room 0 Ra61.ROOM)) with
   |false=>rfl
   |true=>exact absurd (hin.mp z) q)]
  rfl
end Ck
end
noncomputable section
namespace Ck
open PySem PySem.Spec PyProof.Rows L2
open PySem.W (OpenSpec WData)
abbrev row:=cu
theorem Gj:mQ 44 callerA:=⟨rfl,by decide,by decide⟩
theorem SV{K:aj}{h:Heap}{T:Addr}(KX:K.In h)(hT:h.get? T=some (iB #[]))(hn:PySem.W.noTabs K=true):K.lookup T=none:=by
 cases e:K.lookup T with
 |none=>rfl
 |some o=>
  have e2:=KX _ _ e;rw[hT] at e2
  cases e2;have h2:=aY.mp hn (T,iB #[]) (PySem.W.mem_of_lookupK e);exact absurd (show false=true from h2) aM
theorem Oi{ns:List Int}(h:∀x∈ns,0<=x):jJ (ns.map eG)=ns.map V.int:=by
 unfold jJ
 rw[dw]
 refine List.map_congr_left λ x hx=>?_
 have:=h x hx
 show V.int ((x.toNat:Nat):Int)=V.int x
 rw[f9 this]
theorem HB(said:row.wellSaid=true){args:List WData}(hpre:row.pre args=true):∃(g room:Int) (ns:List Int),ns.length<=65536/\(∀x:Int,x∈ns->(0:Int)<=x/\x<=(255:Int))/\args=[.int g,.int room,.list (ns.map .int)] /\
  ∀d ds,d=.list ((PyRa61.worst g room ns).map .int)->row.claim.post [.int g,.int room,.list (ns.map .int)] d ds=true:=by
 obtain⟨⟨g,room,ns,u0⟩,hw,_,rfl⟩:=(OpenSpec.pre_iff said args).mp hpre
 have hw1:(eT (-2147483648) 2147483647 g&&(eT (-2147483648) 2147483647 room&&(PySem.W.Codec.inList 0 65536 (eT 0 255) ns&&true)))=true:=hw
 simp only[aQ] at hw1
 have XA:(PySem.W.Codec.inLen 0 65536 ns&&ns.all (eT 0 255))=true:=hw1.2.2.1
 rw[aQ] at XA
 exact⟨g,room,ns,(PySem.W.Codec.inNat_iff.mp XA.1).2,λ x hx=>PySem.W.Codec.inInt_iff.mp (aY.mp XA.2 x hx),rfl,λ d ds e=>(OpenSpec.post_iff said hw d ds).mpr e⟩
theorem HC(said:row.wellSaid=true){w:World}{s₀ s₁:Shared}{mg mb:Str->Option Value}{q:Program}{loose:List Str}{mean:ExcName->Option Value}{K:aj}(KX:K.In s₁.heap)(Tp:Top q loose mean mg mb s₁.heap){t:ng}(T:Txt K mg t)(hi:importsNone q=true)
  (hq:((recsOf q).find? λ d=>d.name==("worst":Str)).isSome=true) (hnt:PySem.W.noTabs K=true) {fa:Addr} (hmg:mg "worst" = some (.ref fa)) (hg:s₁.gens = #[]) {args:List WData} {vals:List Value} (hpre:row.pre args=true) (hwl:PySem.W.WellAll w.params s₁.heap vals args) :
  wpAny (model row.prog w) callerA (PySem.call (.ref fa) vals) (λ v s'=>PySem.W.GoodWG row.claim (classAt s₀.heap) (ExcName.means s₀.heap) args s₁ (.ok (.ret v)) s')
   (λ e s'=>PySem.W.GoodWG row.claim (classAt s₀.heap) (ExcName.means s₀.heap) args s₁ (.error e) s') s₁:=by
 obtain⟨g,room,ns,hlen,hall,rfl,post⟩:=HB said hpre
 obtain⟨tg,tr,l,vs,rfl,hobj,hints⟩:∃tg tr l vs,vals=[Value.int g tg,Value.int room tr,Value.ref l]/\s₁.heap.get? l=some { cls:=.type "list",data:=.seq vs.toArray }/\IntsAre vs ns:=by
  cases hwl with
  |cons w1 w2=>
   cases w2 with
   |cons w3 w4=>
    cases w4 with
    |cons w7 w8=>
     cases w8
     cases w1;cases w3
     cases w7 with
     |list ho hall=>exact⟨_,_,_,_,rfl,ho,Att.zI ns _ hall⟩
 obtain⟨d,hd⟩:=gE.mp hq
 have hdn:d.name=("worst":Str):=beq_iff_eq.mp (List.find?_some (p:=λ d:DefRec=>d.name==("worst":Str)) hd)
 obtain⟨a,o,fd,c,Tb,h1,h2,h3,h4,h5,h6⟩:=Tp.tab d (List.mem_of_find?_eq_some hd)
 rw[hdn] at h1
 have efa:a=fa:=by rw[hmg] at h1;cases h1;rfl
 subst efa
 have YV:t.vo=a:=by have:=T.worst.mg;rw[hmg] at this;cases this;rfl
 have hT:s₁.heap.get? Tb=some (iB #[]):=h6.2
 obtain⟨base,H,L⟩:=WJ (P:=row.prog) (w:=w) KX Tp.g Tp.b Tp.builtins Tp.nolimit hg hobj hints (bg hlen (by decide)) hT (SV KX hT hnt)
 have Q2:∀{b o},s₁.heap.get? b=some o->(∀vs,o.data≠.fields vs)->(∀vs n,o.data≠.seq vs n)->base.get? b=some o:=λ {b o} e n1 n2=>by
  refine L.S5 b o e ?_
  rcases L.only b with z | z | ⟨_,_,_,z⟩
  ·exact z
  ·rw[z,hT] at e;cases e;exact absurd rfl (n1 _)
  ·rw[z,hobj] at e;cases e;exact absurd rfl (n2 _ _)
 have hC:PySem.W.CodeHd base c Tb:=by
  obtain⟨o',vs',file,tf,flags,tg',inF,text,tt,e1,r1,r2,r3,r4,r5,r6,r7,r8,hne⟩:=PySem.W.CodeHd.of h5 h6;refine⟨o',vs',file,tf,flags,tg',inF,text,tt,L.S5 _ _ e1 ?_,r1,r2,r3,r4,r5,r6,r7,r8,hne⟩
  rcases L.only c with z | z | ⟨_,_,_,z⟩
  ·exact z
  ·exact absurd z hne
  ·rw[z,hobj] at e1;cases e1;exact absurd (show Value.type "list" = Value.type "code" from r1) (by decide)
 have VR:∀{a:Addr} {m:Str->Option Value},s₁.heap.Ns a m->base.Ns a m:=λ {a m} x=>by
  obtain⟨o,es,ep,e,dd,r⟩:=x;exact⟨o,es,ep,Q2 e (λ vs z=>by rw[dd] at z;cases z) (λ vs n z=>by rw[dd] at z;cases z),dd,r⟩
 obtain⟨bm,ob,b1,b2,b3,b4,b5,b6⟩:=Tp.bmain
 have bmB:=Q2 b3 (λ vs z=>by rw[b6] at z;cases z) (λ vs n z=>by rw[b6] at z;cases z)
 have hB:∀T,base.get? T=none->base.BuiltinsAt mg T:=λ T hTn=>by
  refine⟨bm,ob,b1,b2,λ z=>?_,λ z=>?_,bmB,b4,b5,b6⟩
  ·obtain⟨o2,es,ep,e2,d2,_⟩:=Tp.g;rw[<-z,b3] at e2
   cases e2;rw[b6] at d2;cases d2
  ·rw[z,hTn] at bmB;cases bmB
 have hN:base.NoSeer:=by
  obtain⟨⟨mc,c1,c2,c3⟩,⟨mm,c4,c5⟩,⟨mb',c6,c7⟩,_⟩:=Tp.seer hi;exact⟨⟨mc,VR c1,c2,c3⟩,⟨mm,VR c4,c5⟩,⟨mb',VR c6,c7⟩,⟨mg,bm,ob,VR Tp.g,b1,bmB,b4,b5⟩⟩
 refine PySem.W.enter_call ?_
 have run:=Ld (P:=row.prog) (w:=w) T L.Qt hN (by rfl) (tg:=tg) (tr:=tr) (g:=g) (room:=room) (E:=E0) (Q:=λ v H'=>∃p,v=.ref p/\H' p=some (.lst ((Og g room (ns.map eG)).map V.int))) Gj L.env (bs:=ns.map eG) (by rw[Oi λ x hx=>(hall x hx).1];exact L.txt)
  (λ c hc=>by
   obtain⟨x,hx,rfl⟩:=az.mp hc;have:=hall x hx;omega) (λ o' fd' e' d'=>by
   have YW:=(L.env.bs _ _ e').1;rw[YV,h2] at YW
   cases YW;rw[h3] at d'
   cases d';exact h4) hC L.tab hB λ p H' hp=>⟨p,rfl,hp⟩
 rw[YV] at run
 refine codeAny_mono run λ r s' hr=>?_
 cases r with
 |error e=>
  obtain⟨_,_,_,_,_,_,_,_,_,_,_,_,_,_,z⟩:=hr;exact z.elim
 |ok f=>
  cases f with
  |ret u=>
   refine J5 L h6 hr (post _ _ ?_);rw[Oh g room ns hlen]
  |next=>exact False.elim hr
  |brk=>exact False.elim hr
  |cont=>exact False.elim hr
end Ck
end
noncomputable section
open PySem PySem.W
theorem Ck.said:cu.wellSaid=true:=by decide +kernel
def Ck.dk:DefRec×List (Str×Expr):=(defOf Ck.xZ "worst").get (by decide +kernel)
theorem Ck.hdef:defOf Ck.xZ cu.name=some (Ck.dk.1,Ck.dk.2):=by kernel_rfl
theorem Ck.hdn:Ck.dk.1.name=("worst":Str):=by kernel_rfl
theorem PySem.Challenge.cw_chancechoices_s03_worst_holds : PySem.Challenge.rw_chancechoices_s03_worst.Holds := by
 refine holds_os (q:=Ck.xZ) (loose:=[]) (Xt:=Ck.WN) (XP:=XL Ck.xZ []) (Yf:=Ck.Kh.obs) (Ya:=Ck.Kh.val) (YP:=InK Ck.Kt) (d:=Ck.dk.1) (kwd:=Ck.dk.2) Ck.UC Ck.Kh.of Ck.Kh.keeps (λ s e=>xl_of s (iC.mp e).1) XL.keeps Ck.hdef (by kernel_rfl) (by kernel_rfl) (λ s e=>recFacts_of (iC.mp e).2) (os_shapes) Ck.said (by decide +kernel) ⟨rfl,rfl,rfl,rfl,rfl,by decide +kernel⟩ ⟨[.int 0,.int 0,.list []],by decide +kernel,by decide +kernel⟩ ?_
 intro w s₀ s₁ mg mb G Y fa o pm cd doc dV kV ho hd hcd hD hmg hg args vals as hpre hlay hrd hwl hlo
 obtain⟨t,T⟩:=Ck.txt Y G.T.g
 rw[Ck.hdn] at hmg
 exact Ck.HC Ck.said Y G.T T (by decide +kernel) (by decide +kernel) (by kernel_rfl) hmg hg hpre hwl
#print axioms PySem.Challenge.cw_chancechoices_s03_worst_holds
end
