import PyProof.Rows.All
import Wide.All
import OpenK.AllK
import Wide.FinOn
import PyProof.EqAt
import PyProof.EqKinds
import PyProof.TupleCall
import KE.BitLaws
import PySem.SetTable
import PyProof.TupleKey
import PyProof.Rows.SetFrom
import KE.KLam
import KE.OsGo
import Open.SpecLaws
import KE.KRevIter
import Open.Pieces
import KE.OsHead
import PySem.Challenge.RW_chancechoices_s02_best
set_option Elab.async false
set_option linter.all false
set_option maxRecDepth 100000
set_option maxHeartbeats 8000000
open List renaming getD_eq_getElem?_getD → aa,getElem?_eq_getElem → af,length_map → ah,getElem?_map → aj,getElem?_eq_some_iff → ao,mem_of_getElem? → au,range → ay,mem_map → az,take_of_length_le → aA,mem_cons → aB,size_toArray → aC,length_append → aE,replicate → aF,mem_range → aG,length_cons → aK,mem_cons_of_mem → aM,getElem?_range → aO,mem_cons_self → aP,map_cons → aU,getElem_mem → aW,length_take → aX,mem_append → br,map_append → bu,takeWhile_cons_of_pos → bz,drop_eq_getElem_cons → bB,all_eq_true → bD,mem_append_right → bG,dropWhile_cons_of_pos → bH,getElem?_append_left → bL,mem_filter → bM,getElem_of_mem → bN,getElem?_eq_none → bO,map_nil → bQ,getElem?_concat_length → bX,findIdx?_eq_some_iff_getElem → bY,length_set → cy,length_replicate → cB,lookup_cons → cC,getElem?_of_mem → cF,append_assoc → cG,length_range → cH,replicate_succ → cJ,filter_cons → cN,getElem?_append_right → cP,append_nil → cQ,nodup_cons → cR,pairwise_map → cS,nodup_append → cU,foldl_append → cV,sum_cons → cW,not_mem_nil → dg,length_eq_zero_iff → dh,append_of_mem → dw,foldl_cons → dD,nil_append → dF,all_cons → dJ,dropWhile_suffix → dM,flatten_cons → dN,lookup → dR,length → dU,takeWhile_cons_of_neg → dX,getElem?_zipIdx → dY,dropWhile_cons_of_neg → eu,map_map → eF,take_length → eG,findIdx?_eq_none_iff → eL,filterMap_cons → eS,length_zipWith → eT,mem_filterMap → eY,getElem?_replicate → e7,getElem?_set_self → fh,range_succ_eq_map → fm,getElem?_set → fz,flatMap_cons → fB,takeWhile_append_dropWhile → fD,getElem?_zipWith → fF,length_drop → fJ,suffix_cons → fK,suffix_refl → fL,cons_append → fM,mem_flatMap → fN,ext_getElem → fO,mem_append_left → fQ,getElem?_set_ne → fR,of_mem_zip → fU,map_eq_nil_iff → f9,flatMap_append → gc,foldl_nil → gv,take_zero → gy,exists_mem_of_ne_nil → gz,take_add_one → gC,find?_range_eq_some → gG,length_erase_of_mem → gH,set_eq_of_length_le → gK,nodup_range → gO,any_eq_true → gP,length_pos_of_mem → gY,pairwise_lt_range → gZ,range_succ → ia,length_filter_le → ig,take_append_drop → iu,mem_erase_of_ne → iz,nodup_nil → iA,mem_of_mem_take → iD,zipWith → iV
open PySem.W renaming Frag → ai,emptyDict → bV,findIn → cE,instObj → cI,fnOf → dj,keepIn → dS,callWith_K → eZ,cellsFrom_some → fk,methodCall_KW → fE,plainGet → fH,plainGet_of → f6,lookIn → gh,codeIn → gi,methodObj → gA,hasDictIn → gB,takerIn → g6,makesIn → g7,tabObj → iE,hideAll_get → iH,excIn → iK,of_hideAll → iM,codeRec_of → iO,isFn → iQ,plainOver → iR,handedIn → iY
open Option renaming bind_some → ak,map_some → bE,bind_none → bI,getD_some → di,map_eq_some_iff → dm,isSome_iff_exists → gF,map_map → iC
open Nat renaming le_refl → aq,lt_succ_self → aD,lt_of_lt_of_le → aI,ne_of_lt → aV,le_of_lt → aY,zero_le → aZ,le_trans → bf,gcd → bq,lt_of_le_of_lt → bF,lt_irrefl → bJ,lt_succ_of_lt → b9,pow_succ → cg,gcd_pos_of_pos_right → cX,mod_eq_of_lt → c9,lt_trichotomy → dO,le_of_lt_succ → dP,lt_succ_of_le → dQ,pow_le_pow_right → dW,mul_pos → ef,mul_le_mul_right → eB,le_add_right → eE,pow_lt_pow_iff_right → eW,ne_of_gt → fi,le_of_succ_le → fq,lt_or_ge → fu,mul_mod → fS,div_le_self → fZ,pow_le_pow_left → gf,mod_lt → gj,eq_or_lt_of_le → gn,gcd_dvd_right → gE,le_of_eq → gS,mul_comm → gT,div_div_eq_div_mul → gW,add_zero → gX,strongRecOn → g8,not_lt_zero → g9,div_lt_iff_lt_mul → ic,add_mod → iy,mul_assoc → iJ,zero_add → iS,lt_trans → iT,sub_self → iX
open Classical renaming byContradiction → aH,choose_spec → fG,choose → gR
open Bool renaming false_eq_true → aJ,false_ne_true → aN,and_eq_true → aR,eq_iff_iff → aT,true_and → bZ,not_true → fP,not_false → gr,and_self → gI,not_eq_true → gM,and_false → iw,and_eq_true_iff → iF,or_eq_true_iff → iI,false_or → iL,true_or → iU
open Rat renaming intCast_mul → aL,intCast_natCast → bg,mul_nonneg → bh,mul_le_mul_of_nonneg_left → bA,le_of_mul_le_mul_left → bC,le_refl → bK,le_of_lt → bU,natCast_le_natCast → cu,mul_le_mul_of_nonneg_right → cD,intCast_lt_intCast → cK,intCast_le_intCast → cM,pow_succ → dB,intCast_inj → dH,mul_lt_mul_of_pos_left → dZ,lt_of_mul_lt_mul_left → eO,natCast_mul → eX,mul_pos → fT,intCast_sub → fV,intCast_neg → fW,intCast_add → fX,pow_zero → gg,natCast_nonneg → gx,le_trans → iW
open PySem renaming mem_of_lookup → aQ
open Option.some renaming inj → aS
open Array renaming getElem?_eq_getElem → bw,getElem?_eq_some_iff → bx,length_toList → c8,getElem?_append_left → gk,toList_filterMap → g5,getElem?_toList → ie,forIn_toList → iP
open Int renaming toNat_natCast → bP,mul_le_mul_of_nonneg_right → bR,fdiv_eq_ediv_of_nonneg → cO,toNat → eH,eq_ofNat_of_zero_le → fc,le_of_lt → fy,natCast_mul → fY,toNat_of_nonneg → f7,natAbs_mul → gu,natAbs_natCast → gw,gcd → iG
open PySem.F renaming plainAttrs_list → bW,excBase_Exception → cA,slot_list_append → cY,type_list_append → cZ,slot_list_index → gQ
open PySem.Challenge renaming rw_chancechoices_s02_best → cz,pw_chancechoices_s02_best → dG
open List.Pairwise renaming imp → cT,imp_of_mem → eV
open PySem.W.Codec renaming inInt → eU
open List.cons renaming inj → gJ
open Prod renaming ext → iB
open PySem.P renaming truthy_int → iN
noncomputable section
namespace L2
open PySem PySem.Spec PyProof.Rows
abbrev Key:=Sum Int Str
def CT:Key->Value->Bool
 |.inl k,v=>Value.isInt k v
 |.inr x,v=>Value.isStrOf x v
def V3(w:World):Key->Int
 |.inl k=>hashInt k
 |.inr x=>hashStr w x
theorem lG:∀{k:Key}{v:Value},CT k v=true->(∃i t,k=Sum.inl i/\v=Value.int i t)\/(∃x t,k=Sum.inr x/\v=Value.str x t)
 |.inl i,v,h=>by
  obtain⟨t,e⟩:=Value.isInt_shape (k:=i) (v:=v) h;exact .inl ⟨i,t,rfl,e⟩
 |.inr x,v,h=>by
  obtain⟨t,e⟩:=Value.isStrOf_shape (x:=x) (v:=v) h;exact .inr ⟨x,t,rfl,e⟩
theorem Jz(i:Int)(t:Tok):CT (.inl i) (.int i t)=true:=by simp[CT,Value.isInt]
theorem JA(x:Str)(t:Tok):CT (.inr x) (.str x t)=true:=by simp[CT,Value.isStrOf]
theorem Ri(a b:Int):decide ((Sum.inl a:Key)=Sum.inl b)=(a==b):=by
 by_cases e:a=b
 ·subst e;simp
 ·have h:¬(Sum.inl a:Key)=Sum.inl b:=λ q=>e (Sum.inl.inj q)
  rw[decide_eq_false h];exact (beq_eq_false_iff_ne.mpr e).symm
theorem Rj(a b:Str):decide ((Sum.inr a:Key)=Sum.inr b)=decide (a=b):=by
 by_cases e:a=b
 ·subst e;simp
 ·have h:¬(Sum.inr a:Key)=Sum.inr b:=λ q=>e (Sum.inr.inj q)
  rw[decide_eq_false h,decide_eq_false e]
theorem Rk(a:Int)(b:Str):decide ((Sum.inl a:Key)=Sum.inr b)=false:=decide_eq_false (λ q=>nomatch q)
theorem Rl(a:Str)(b:Int):decide ((Sum.inr a:Key)=Sum.inl b)=false:=decide_eq_false (λ q=>nomatch q)
def kX(prog:Program)(w:World):PySem.KeyKind prog w Key where
 is:=CT
 hash:=V3 w
 inj:=λ v a b ha hb=>by
  rcases lG ha with ⟨i,t,rfl,rfl⟩ | ⟨x,t,rfl,rfl⟩
  ·rcases lG hb with ⟨j,u,rfl,e⟩ | ⟨y,u,rfl,e⟩
   ·injection e with e1 _;rw[e1]
   ·exact nomatch e
  ·rcases lG hb with ⟨j,u,rfl,e⟩ | ⟨y,u,rfl,e⟩
   ·exact nomatch e
   ·injection e with e1 _;rw[e1]
 byValue:=λ k v h=>by
  rcases lG h with ⟨i,t,rfl,rfl⟩ | ⟨x,t,rfl,rfl⟩<;>rfl
 pyHash:=λ hv h=>by
  rcases lG hv with ⟨i,t,rfl,rfl⟩ | ⟨x,t,rfl,rfl⟩
  ·exact wpAny_pyHash_int h
  ·exact wpAny_pyHash_str h
 eqBool:=λ hu hv h=>by
  rcases lG hu with ⟨i,t,rfl,rfl⟩ | ⟨x,t,rfl,rfl⟩
  ·rcases lG hv with ⟨j,u,rfl,rfl⟩ | ⟨y,u,rfl,rfl⟩
   ·rw[Ri] at h;exact wpAny_eqBool_int h
   ·rw[Rk] at h;exact SeqAt.EqAt.int_str i t y u _ _ _ _ h
  ·rcases lG hv with ⟨j,u,rfl,rfl⟩ | ⟨y,u,rfl,rfl⟩
   ·rw[Rl] at h;exact SeqAt.EqAt.str_int x t j u _ _ _ _ h
   ·rw[Rj] at h;exact wpAny_eqBool_str h
 «strs»:=λ k x t v h=>by
  rcases lG h with ⟨i,u,rfl,e⟩ | ⟨y,u,rfl,e⟩
  ·exact nomatch e
  ·injection e with e1 _
   subst e1
   cases v<;>rfl
theorem EX(prog:Program)(w:World)(i:Int)(t:Tok):(kX prog w).is (.inl i) (.int i t)=true:=Jz i t
theorem EY(prog:Program)(w:World)(x:Str)(t:Tok):(kX prog w).is (.inr x) (.str x t)=true:=JA x t
end L2
namespace L2
open PySem PySem.Spec PyProof.Rows
inductive V where
 |pZ | bl (b:Bool) | int (i:Int) | str (x:Str) | HX (b:Array UInt8) | VB (b:UInt64) | ref (a:Addr) | ty (n:String)
 deriving DecidableEq
def RelV:V->Value->Prop
 |.pZ,u=>u=Value.none
 |.bl b,u=>u=Value.bool b
 |.int i,u=>∃t,u=Value.int i t
 |.str x,u=>∃t,u=Value.str x t
 |.HX b,u=>∃t,u=Value.bytes b t
 |.VB b,u=>∃t,u=Value.float b t
 |.ref a,u=>u=Value.ref a
 |.ty n,u=>u=Value.type n
abbrev Vals:List V->List Value->Prop:=Paired RelV
theorem Vals.length{xs:List V}{us:List Value}(r:Vals xs us):xs.length=us.length:=Paired.length r
theorem Vals.get:∀{xs:List V}{us:List Value}{i:Nat}{x:V},Vals xs us->xs[i]? = some x->∃u,us[i]? = some u/\RelV x u
 |_,_,_,_,.nil,e=>by simp at e
 |_,_,0,_,.cons r _,e=>by simp at e;subst e;exact⟨_,rfl,r⟩
 |_,_,i+1,x,.cons _ t,e=>by
  obtain⟨u,h1,h2⟩:=Vals.get (i:=i) (x:=x) t (by simpa using e);exact⟨u,by simpa using h1,h2⟩
theorem Vals.set{x:V}{u:Value}(r:RelV x u):∀{xs:List V}{us:List Value}(i:Nat),Vals xs us->Vals (xs.set i x) (us.set i u)
 |_,_,_,.nil=>.nil
 |_,_,0,.cons _ t=>.cons r t
 |_,_,i+1,.cons q t=>.cons q (Vals.set r i t)
theorem Vals.append:∀{xs ys:List V}{us ws:List Value},Vals xs us->Vals ys ws->Vals (xs++ys) (us++ws)
 |_,_,_,_,.nil,s=>s
 |_,_,_,_,.cons r t,s=>.cons r (Vals.append t s)
theorem Vals.take:∀{xs:List V}{us:List Value}(n:Nat),Vals xs us->Vals (xs.take n) (us.take n)
 |_,_,0,_=>.nil
 |_,_,_+1,.nil=>.nil
 |_,_,n+1,.cons r t=>.cons r (Vals.take n t)
theorem Vals.drop:∀{xs:List V}{us:List Value}(n:Nat),Vals xs us->Vals (xs.drop n) (us.drop n)
 |_,_,0,r=>r
 |_,_,_+1,.nil=>.nil
 |_,_,n+1,.cons _ t=>Vals.drop n t
def Cn:Option V->Option Value->Prop
 |some v,some u=>RelV v u
 |none,none=>True
 |_,_=>False
def KV{κ:Type}:List (κ×V)->List (κ×Value)->Prop:=Paired λ(p:κ×V) (q:κ×Value)=>p.1=q.1/\RelV p.2 q.2
def kV:Key->V
 |.inl i=>.int i
 |.inr x=>.str x
inductive HO where
 |lst (xs:List V)
 |tup (xs:List V)
 |dK (kvs:List (Key×V)) | dT (kvs:List (List Key×V))
 |set (S:Int->Bool) (n:Nat)
 |ins (C dx:Addr) (fs:List (Str×V))
 |own (x:Addr)
 |xd (fs:List (Str×V))
 |met (f x:Addr)
 |V4 (lo hi:Int)
 |Lp (o:Obj) (u:HO)
 |D0 (ps:Array Value)
 |ext (φ:Heap->Prop)
abbrev Hp:=Addr->Option HO
def upd(H:Hp)(a:Addr)(o:HO):Hp:=λ b=>if b=a then some o else H b
theorem jb{H:Hp}{a:Addr}{o:HO}:upd H a o a=some o:=by unfold upd;rw[if_pos rfl]
theorem je{H:Hp}{a b:Addr}{o:HO}(h:b≠a):upd H a o b=H b:=by unfold upd;rw[if_neg h]
theorem jU{H:Hp}{a:Addr}{o u:HO}:upd (upd H a o) a u=upd H a u:=by
 funext b;unfold upd;split<;>rfl
theorem nK{H:Hp}{a b:Addr}{o u:HO}(h:H a=some o)(h':H b=some u)(d:o≠u):a≠b:=by
 intro e;subst e;rw[h] at h';exact d (aS h')
theorem jh{H:Hp}{a b:Addr}{o:HO}(h:H a=some o)(h':H b=none):a≠b:=by
 intro e;subst e;rw[h] at h';cases h'
section
variable(P:Program)(w:World)
def n6(H:Hp)(h:Heap)(a:Addr):HO->Prop
 |.lst xs=>xs.length<=sizeLine/\∃(its:List Value) (n:Nat),Vals xs its/\h.get? a=some { cls:=.type "list",data:=.seq its.toArray n }
 |.tup xs=>xs.length<=sizeLine/\∃its:List Value,Vals xs its/\IsTup h a its.toArray
 |.dK kvs=>kvs.length<=sizeLine/\(a==sysModules)=false/\∃vs,KV kvs vs/\h.DictOf (kX P w) a vs
 |.dT kvs=>kvs.length<=sizeLine/\(a==sysModules)=false/\∃xs:List (List Key×Addr×Value),
   Paired (λ(p:List Key×V) (q:List Key×Addr×Value)=>p.1=q.1/\H q.2.1=some (.tup (p.1.map kV))/\RelV p.2 q.2.2) kvs xs /\
   ∃o es ep,h.get? a=some o/\o.ExactDict/\o.data=.dict es ep/\es.toList=xs.map (entryOfKey (tupleKind (kX P w)))/\(xs.map (·.1)).Nodup
 |.set S n=>h.SetOf (intKind P w) a S n
 |.ins C dx fs=>H dx=some (.own a)/\fs.length<=1000/\dx≠a/\h.get? a=some (cI C dx) /\
   ∃mA,h.Ns1 dx mA/\(∀f,Cn (fs.lookup f) (mA f))/\PySem.Within mA (fs.map (·.1))
 |.own _=>∃o,h.get? a=some o
 |.xd fs=>∃mA,h.Ns1 a mA/\∀f,Cn (fs.lookup f) (mA f)
 |.V4 lo hi=>∃t u v,h.get? a=some { cls:=.type "range",data:=.fields #[.int lo t,.int hi u,.int 1 v] }
 |.Lp o u=>h.get? a=some o/\n6 H h a u
 |.D0 ps=>h.get? a=some { cls:=.none,data:=.fields ps }
 |.met f x=>h.get? a=some (gA (.ref f) (.ref x))
 |.ext φ=>φ h/\(∃o,h.get? a=some o)/\∀h1 h2:Heap,φ h1->(∀o,h1.get? a=some o->h2.get? a=some o)->φ h2
def yK(H:Hp)(h:Heap):Prop:=∀a o,H a=some o->n6 P w H h a o
end
section
variable{P:Program}{w:World}{H H':Hp}{h h':Heap}{a:Addr}{o:HO}
theorem n6.lt(x:n6 P w H h a o):a<h.objs.size:=by
 cases o with
 |lst xs=>obtain⟨_,_,_,_,e⟩:=x;exact Heap.lt_size e
 |tup xs=>obtain⟨_,_,_,p⟩:=x;exact p.lt
 |dK kvs=>obtain⟨_,_,_,_,o,_,_,e,_⟩:=x;exact Heap.lt_size e
 |dT kvs=>obtain⟨_,_,_,_,o,_,_,e,_⟩:=x;exact Heap.lt_size e
 |set S n=>obtain⟨o,_,_,_,e,_⟩:=x;exact Heap.lt_size e
 |ins C dx fs=>obtain⟨_,_,_,e,_⟩:=x;exact Heap.lt_size e
 |own y=>obtain⟨_,e⟩:=x;exact Heap.lt_size e
 |xd fs=>obtain⟨_,⟨_,_,_,e,_⟩,_⟩:=x;exact Heap.lt_size e
 |V4 lo hi=>obtain⟨_,_,_,e⟩:=x;exact Heap.lt_size e
 |Lp ob u=>obtain⟨e,_⟩:=x;exact Heap.lt_size e
 |D0 ps=>exact Heap.lt_size (show h.get? a=some _ from x)
 |met f y=>exact Heap.lt_size (show h.get? a=some _ from x)
 |ext φ=>obtain⟨_,⟨_,e⟩,_⟩:=x;exact Heap.lt_size e
theorem Paired.TN{α β:Type}{F G:α->β->Prop}:∀{l₁:List α}{l₂:List β},Paired F l₁ l₂->(∀a b,F a b->G a b)->Paired G l₁ l₂
 |_,_,.nil,_=>.nil
 |_,_,.cons r t,f=>.cons (f _ _ r) (Paired.TN t f)
theorem n6.stay(x:n6 P w H h a o)(k:∀b u,(b=a\/H b=some (.own a))->h.get? b=some u->h'.get? b=some u)
  (ho:∀b,H b=some (.own a)->H' b=some (.own a)) (ht:∀b xs,H b=some (.tup xs)->H' b=some (.tup xs)):n6 P w H' h' a o:=by
 induction o with
 |lst xs=>obtain⟨z,its,n,r,e⟩:=x;exact⟨z,its,n,r,k _ _ (.inl rfl) e⟩
 |tup xs=>obtain⟨z,its,r,ob,e,c⟩:=x;exact⟨z,its,r,ob,k _ _ (.inl rfl) e,c⟩
 |dK kvs=>obtain⟨z,y,vs,r,ob,es,ep,e,c⟩:=x;exact⟨z,y,vs,r,ob,es,ep,k _ _ (.inl rfl) e,c⟩
 |dT kvs=>
  obtain⟨z,y,xs,r,ob,es,ep,e,c⟩:=x;exact⟨z,y,xs,Paired.TN r λ p q z=>⟨z.1,ht _ _ z.2.1,z.2.2⟩,ob,es,ep,k _ _ (.inl rfl) e,c⟩
 |set S n=>obtain⟨ob,es,ep,t,e,c⟩:=x;exact⟨ob,es,ep,t,k _ _ (.inl rfl) e,c⟩
 |ins C dx fs=>
  obtain⟨d,z,ne,e,mA,⟨od,es,ep,e2,c⟩,r⟩:=x;exact⟨ho _ d,z,ne,k _ _ (.inl rfl) e,mA,⟨od,es,ep,k _ _ (.inr d) e2,c⟩,r⟩
 |own y=>obtain⟨ob,e⟩:=x;exact⟨ob,k _ _ (.inl rfl) e⟩
 |xd fs=>obtain⟨mA,⟨od,es,ep,e,c⟩,r⟩:=x;exact⟨mA,⟨od,es,ep,k _ _ (.inl rfl) e,c⟩,r⟩
 |V4 lo hi=>obtain⟨t,u,v,e⟩:=x;exact⟨t,u,v,k _ _ (.inl rfl) e⟩
 |Lp ob u ih=>obtain⟨e,q⟩:=x;exact⟨k _ _ (.inl rfl) e,ih q⟩
 |D0 ps=>
  have e:h.get? a=some { cls:=.none,data:=.fields ps }:=x;show h'.get? a=some { cls:=.none,data:=.fields ps };exact k a _ (.inl rfl) e
 |met f y=>
  have e:h.get? a=some (gA (.ref f) (.ref y)):=x;show h'.get? a=some (gA (.ref f) (.ref y));exact k a _ (.inl rfl) e
 |ext φ=>obtain⟨p,⟨o,e⟩,st⟩:=x;exact⟨st _ _ p λ o q=>k _ _ (.inl rfl) q,⟨o,k _ _ (.inl rfl) e⟩,st⟩
theorem yK.lt(x:yK P w H h)(e:H a=some o):a<h.objs.size:=(x a o e).lt
theorem yK.fresh(x:yK P w H h)(e:h.objs.size<=a):H a=none:=by
 cases q:H a with
 |none=>rfl
 |some u=>exact absurd (aI (x.lt q) e) (bJ _)
theorem yK.kept(x:yK P w H h)(k:∀b u,h.get? b=some u->h'.get? b=some u):yK P w H h':=λ a o e=>
 (x a o e).stay (λ b u _ q=>k b u q) (λ _ q=>q) λ _ _ q=>q
theorem yK.laid(x:yK P w H h)(k:∀b u,h.get? b=some u->h'.get? b=some u)(hp:h.objs.size<=a)(new:n6 P w (upd H a o) h' a o):yK P w (upd H a o) h':=λ b u e=>by
 have hn:=x.fresh hp
 by_cases hb:b=a
 ·subst hb;rw[jb] at e;cases e;exact new
 ·rw[je hb] at e
  exact (x b u e).stay (λ c v _ q=>k c v q) (λ c q=>by rw[je (jh q hn)];exact q) λ c xs q=>by rw[je (jh q hn)];exact q
end
def Rd(H:Hp)(a:Addr)(u:HO):Prop:=H a=some u\/∃o,H a=some (.Lp o u)
theorem Rd.ok{P:Program}{w:World}{H:Hp}{h:Heap}{a:Addr}{u:HO}(r:Rd H a u)(x:yK P w H h):n6 P w H h a u:=by
 rcases r with r | ⟨o,r⟩
 ·exact x a u r
 ·obtain⟨_,q⟩:=x a _ r
  exact q
def VC:Option HO->Prop
 |some (.lst _)=>True
 |some (.dK _)=>True
 |some (.dT _)=>True
 |some (.set _ _)=>True
 |some (.ins _ _ _)=>True
 |some (.ext _)=>True
 |_=>False
section
variable{P:Program}{w:World}{H:Hp}{h h':Heap}{x e:Addr}{o':HO}
theorem yK.write(ok:yK P w H h)(mu:VC (H x))(he:e=x\/H e=some (.own x))(k:∀b u,b≠e->h.get? b=some u->h'.get? b=some u)(Tf:∃u,h'.get? e=some u)
  (new:n6 P w (upd H x o') h' x o'):yK P w (upd H x o') h':=λ b u q=>by
 have TQ:∀c y,H c=some (.own y)->c≠x:=λ c y r z=>by subst z;rw[r] at mu;exact mu
 have V5:∀c xs,H c=some (.tup xs)->c≠x:=λ c xs r z=>by subst z;rw[r] at mu;exact mu
 by_cases hb:b=x
 ·subst hb;rw[jb] at q;cases q;exact new
 ·rw[je hb] at q
  by_cases Rm:b=e
  ·have q':H b=some (.own x):=by
    rcases he with z | z
    ·exact absurd (Rm.trans z) hb
    ·rw[Rm];exact z
   rw[q] at q';cases q';obtain⟨v,hv⟩:=Tf;exact⟨v,by rw[Rm];exact hv⟩
  ·refine (ok b u q).stay (λ c v hc r=>k c v ?_ r) (λ c r=>by rw[je (TQ c b r)];exact r) λ c xs r=>by rw[je (V5 c xs r)];exact r
   rcases hc with rfl | hc
   ·exact Rm
   ·rintro rfl
    rcases he with z | z
    ·exact TQ c b hc z
    ·rw[hc] at z;cases z;exact hb rfl
end
structure Un(fs ex:List Addr)(H H':Hp)(h h':Heap):Prop where
 keep:∀b o,h.get? b=some o->H b=none->b ∉ fs->b ∉ ex->h'.get? b=some o
 slot:∀b o,h.get? b=some o->H b=none->b∈fs->b ∉ ex->∃sl,h'.get? b=some { o with slots:=sl }
 free:∀b o,h.get? b=some o->H b=none->b ∉ ex->H' b=none
 there:∀b o,h.get? b=some o->b ∉ ex->∃o',h'.get? b=some o'
 tups:∀b xs,H b=some (.tup xs)->H' b=some (.tup xs)
 Co:∀b o u,H b=some (.Lp o u)->H' b=some (.Lp o u)
 Cp:∀b ps,H b=some (.D0 ps)->∃more,H' b=some (.D0 (ps++more))
section
variable{fs fs' ex Tg:List Addr}{H H1 H2:Hp}{h h1 h2 h':Heap}{a x e:Addr}{o:HO}
theorem Un.any(u:Un fs ex H H1 h h1){b:Addr}{ob:Obj}(q:h.get? b=some ob)(n:H b=none)(hx:b ∉ ex):∃sl,h1.get? b=some { ob with slots:=sl }:=by
 by_cases hb:b∈fs
 ·exact u.slot b ob q n hb hx
 ·exact⟨ob.slots,u.keep b ob q n hb hx⟩
theorem Un.kept(k:∀b u,h.get? b=some u->h'.get? b=some u):Un fs ex H H h h':=
 ⟨λ b ob q _ _ _=>k b ob q,λ b ob q _ _ _=>⟨ob.slots,k b ob q⟩,λ _ _ _ n _=>n,λ b ob q _=>⟨ob,k b ob q⟩,λ _ _ q=>q,λ _ _ _ q=>q,λ _ ps q=>⟨#[],by rw[q];simp⟩⟩
theorem Un.refl:Un fs ex H H h h:=Un.kept λ _ _ q=>q
theorem Un.laid(k:∀b u,h.get? b=some u->h'.get? b=some u)(hp:h.objs.size<=a)(hn:H a=none):Un fs ex H (upd H a o) h h' where
 keep:=λ b u q _ _ _=>k b u q
 slot:=λ b u q _ _ _=>⟨u.slots,k b u q⟩
 free:=λ b u q n _=>by rw[je (aV (aI (Heap.lt_size q) hp))];exact n
 there:=λ b u q _=>⟨u,k b u q⟩
 tups:=λ b xs q=>by rw[je (jh q hn)];exact q
 Co:=λ b u xs q=>by rw[je (jh q hn)];exact q
 Cp:=λ b ps q=>⟨#[],by rw[je (jh q hn),q];simp⟩
theorem Un.write(mu:VC (H x))(he:e=x\/H e=some (.own x))(k:∀b u,b≠e->h.get? b=some u->h'.get? b=some u)(Tf:∃u,h'.get? e=some u):Un fs ex H (upd H x o) h h':=by
 have hx:∀b,H b=none->b≠x:=λ b n z=>by subst z;rw[n] at mu;exact mu
 have hb:∀b,H b=none->b≠e:=λ b n z=>by
  subst z
  rcases he with r | r
  ·exact hx b n r
  ·rw[n] at r;cases r
 have hm:∀b u,H b=some u->¬VC (some u)->b≠x:=λ b u q nm z=>by subst z;rw[q] at mu;exact nm mu
 refine⟨λ b u q n _ _=>k b u (hb b n) q,λ b u q n _ _=>⟨u.slots,k b u (hb b n) q⟩,λ b u q n _=>by rw[je (hx b n)];exact n,λ b u q _=>?_,
  λ b xs q=>by rw[je (hm b _ q λ z=>z)];exact q,λ b u xs q=>by rw[je (hm b _ q λ z=>z)];exact q,λ b ps q=>⟨#[],by rw[je (hm b _ q λ z=>z),q];simp⟩⟩
 by_cases Rm:b=e
 ·subst Rm;exact Tf
 ·exact⟨u,k b u Rm q⟩
end
def VD(h:Heap)(H:Hp):List Addr:=(ay h.objs.size).filter λ a=>(H a).isSome
def EZ(h:Heap)(H:Hp):Heap:=PySem.W.hideAll h (VD h H)
theorem JB(h:Heap)(H:Hp):(EZ h H).objs.size=h.objs.size:=PySem.W.hideAll_size _ _
theorem Ly{h:Heap}{H:Hp}{b:Addr}{o:Obj}(e:h.get? b=some o)(n:H b=none):(EZ h H).get? b=some o:=
 iH _ e λ hm=>by
  have q:(H b).isSome=true:=(bM.mp hm).2;rw[n] at q;simp at q
theorem OB{h:Heap}{H:Hp}{b:Addr}{o:Obj}(e:(EZ h H).get? b=some o):h.get? b=some o/\H b=none:=by
 have e':h.get? b=some o:=iM (VD h H) e
 refine⟨e',?_⟩
 cases q:H b with
 |none=>rfl
 |some x=>
  have hm:b∈VD h H:=bM.mpr ⟨aG.mpr (Heap.lt_size e'),by simp[q]⟩;have z:(EZ h H).get? b=none:=PySem.W.hideAll_none (VD h H) hm;rw[z] at e;cases e
end L2
namespace L2
open PySem PySem.Spec PyProof.Rows
structure Mod(K:ai)(mg:Str->Option Value)(base:Heap):Prop where
 QD:K.In base
 glob:base.Ns mainGlobals mg
 blt:∃mb,base.Ns builtinsNs mb/\∀x:Str,x≠"__name__"->mb x=bootBuiltins x
 nolimit:base.NoLimit
structure Cx where
 prog:Program
 w:World
 K:ai
 mg:Str->Option Value
 base:Heap
 A:Around
 N:List Str
 Cq:Shared
 QF:Hp
 env:Env
 outer:List Env
 stack:List Env
 ex:List Addr
 fn:Str->Bool
 calm:Bool
 pn:List (Addr×Obj)
 xe:Value->Shared->Prop
def frs(l:List Env):List Addr:=l.filterMap (·.frame)
abbrev Cx.fs(X:Cx):List Addr:=frs X.outer
def OE(sc:Scope)(x:Str):Prop:=sc.names.lookup x=some .local\/sc.names.lookup x=some .cell\/sc.names.lookup x=some .free
def Loc(sc:Scope)(x:Str):Prop:=sc.names.lookup x=some .local\/sc.names.lookup x=some .cell
def Look(env:Env)(h:Heap)(m:Str->Option Value)(x:Str)(u:Value):Prop:=
 (env.kindOf x=some .local/\m x=some u)\/((env.kindOf x=some .cell\/env.kindOf x=some .free)/\∃c,env.cells.lookup x=some c/\h.IsCell c (some u))
structure Cx.Ok(X:Cx):Prop where
 mod:Mod X.K X.mg X.base
 kind:X.env.scope.kind=.function
 glob:X.env.globals=mainGlobals
 blt:X.env.builtins=builtinsNs
 above:X.Cq.heap.objs.size<=X.env.locals
 inj:∀x y c,X.env.cells.lookup x=some c->X.env.cells.lookup y=some c->x=y
 has:∀x,(X.env.kindOf x=some .cell\/X.env.kindOf x=some .free)->∃c,X.env.cells.lookup x=some c
 VE:∀x c,X.fn x=true->X.env.cells.lookup x=some c->X.Cq.heap.objs.size<=c
 hd:X.calm=true->X.A.handled=none
 frames:X.A.frames=some X.stack
 OF:X.stack=X.outer\/(X.stack=X.env::X.outer/\X.env.frame=some X.env.locals)
 V6:∀b∈X.ex,b≠X.env.locals/\∀x c,X.env.cells.lookup x=some c->c≠b
 bs:∀b o,X.base.get? b=some o->X.Cq.heap.get? b=some o/\X.QF b=none
 Ou:X.base.objs.size<=X.Cq.heap.objs.size
 OG:∀b o,X.base.get? b=some o->b ∉ X.ex
 OH:∀b∈X.ex,b ∉ X.fs
 zQ:X.Cq.heap.FunFrames X.base X.outer
 Rn:∀b∈X.fs,X.QF b=none
structure Inv(X:Cx)(pins:List (Addr×Obj))(σ:List (Option V))(H:Hp)(s:Shared):Prop where
 ok:X.Ok
 os:s.os=X.Cq.os
 bare:AllBare s.gens
 base:Un X.fs X.ex X.QF H X.Cq.heap s.heap
 loc:∃m,s.heap.Ns X.env.locals m/\∀(i:Nat) (x:Str) (v:V),X.N[i]? = some x->σ[i]? = some (some v)->OE X.env.scope x->∃u,RelV v u/\Look X.env s.heap m x u
 cell:∀x c,X.env.cells.lookup x=some c->∃v,s.heap.IsCell c v
 free:H X.env.locals=none
 tZ:∀x c,X.env.cells.lookup x=some c->H c=none
 pin:∀p∈X.pn++pins,s.heap.get? p.1=some p.2/\H p.1=none/\p.1≠X.env.locals/\p.1 ∉ X.fs/\∀v,p.2.data≠.cell v
 hok:yK X.prog X.w H s.heap
 len:σ.length=X.N.length
section
variable{X:Cx}{pins:List (Addr×Obj)}{σ:List (Option V)}{H H':Hp}{s:Shared}{h':Heap}
theorem Cx.Ok.V8(ok:X.Ok){b:Addr}{o:Obj}(e:X.base.get? b=some o):b ∉ X.fs:=λ hb=>by
 have:=(ok.zQ.mem hb).1
 rw[e] at this;cases this
theorem Inv.bs(I:Inv X pins σ H s):∀b o,X.base.get? b=some o->s.heap.get? b=some o/\H b=none:=λ b o e=>
 ⟨I.base.keep b o (I.ok.bs b o e).1 (I.ok.bs b o e).2 (I.ok.V8 e) (I.ok.OG b o e),I.base.free b o (I.ok.bs b o e).1 (I.ok.bs b o e).2 (I.ok.OG b o e)⟩
theorem Inv.bk(I:Inv X pins σ H s):∀b o,X.base.get? b=some o->s.heap.get? b=some o:=λ b o e=>(I.bs b o e).1
theorem Inv.mod(I:Inv X pins σ H s):Mod X.K X.mg X.base:=I.ok.mod
theorem Inv.GC(I:Inv X pins σ H s):X.K.In s.heap:=I.ok.mod.QD.keeps I.bk
theorem Inv.nolimit(I:Inv X pins σ H s):s.heap.NoLimit:=I.ok.mod.nolimit.keeps I.bk
theorem Inv.fr(I:Inv X pins σ H s):∃m,Fr X.base X.env.locals s.heap m:=
 let ⟨m,hn,_⟩:=I.loc
 ⟨m,hn,I.bk,bf I.ok.Ou I.ok.above⟩
theorem Inv.lt(I:Inv X pins σ H s):X.env.locals<s.heap.objs.size:=let ⟨_,hn,_⟩:=I.loc;hn.lt
theorem Inv.sz(I:Inv X pins σ H s):X.Cq.heap.objs.size<=s.heap.objs.size:=bf I.ok.above (aY I.lt)
theorem Inv.Wa(I:Inv X pins σ H s){a:Addr}(h:s.heap.objs.size<=a):a ∉ X.fs:=λ hb=>by
 obtain⟨_,o,ho,_⟩:=I.ok.zQ.mem hb
 exact absurd (aI (Heap.lt_size ho) (bf I.sz h)) (bJ _)
theorem Inv.Ro(I:Inv X pins σ H s):∀x c,X.env.cells.lookup x=some c->c≠X.env.locals:=λ x c e z=>by
 obtain⟨v,o,ho,hd⟩:=I.cell x c e
 obtain⟨m,⟨o',es,ep,ho',hd',_⟩,_⟩:=I.loc
 rw[z,ho'] at ho;cases ho;rw[hd'] at hd;cases hd
theorem Inv.zQ(I:Inv X pins σ H s):s.heap.FunFrames X.base X.outer:=by
 have all:∀(l:List Env),(∀b∈frs l,b∈X.fs)->X.Cq.heap.FunFrames X.base l->s.heap.FunFrames X.base l:=by
  intro l
  induction l with
  |nil=>intro _ _;trivial
  |cons env r ih=>
   intro hs hl;obtain⟨hk,⟨L,o,hf,hn,ho,hd⟩,hr⟩:=hl;have hL:L∈X.fs:=hs L (by unfold frs;rw[eS,hf];exact aP);obtain⟨sl,e⟩:=I.base.slot L o ho (I.ok.Rn L hL) hL λ z=>I.ok.OH L z hL
   exact⟨hk,⟨L,_,hf,hn,e,hd⟩,ih (λ b hb=>hs b (by unfold frs;rw[eS,hf];exact aM _ hb)) hr⟩
 exact all X.outer (λ _ hb=>hb) I.ok.zQ
theorem Inv.stack(I:Inv X pins σ H s):s.heap.FunFrames X.base X.stack:=by
 rcases I.ok.OF with e | ⟨e,hf⟩
 ·rw[e];exact I.zQ
 ·rw[e]
  obtain⟨m,hn,_⟩:=I.loc;refine .cons (by rw[I.ok.kind];decide) hf hn ?_ I.zQ;exact Heap.get?_none_of_le (bf I.ok.Ou I.ok.above)
theorem Inv.Ai(I:Inv X pins σ H s):∀b∈frs X.stack,b∈X.env.locals::X.fs:=λ b hb=>by
 rcases I.ok.OF with e | ⟨e,hf⟩
 ·rw[e] at hb;exact aM _ hb
 ·rw[e] at hb
  unfold frs at hb;rw[eS,hf] at hb;exact hb
theorem Inv.z6(I:Inv X pins σ H s):∀b∈frs X.stack,H b=none:=λ b hb=>by
 rcases aB.mp (I.Ai b hb) with e | hb
 ·rw[e];exact I.free
 ·obtain⟨_,o,ho,_⟩:=I.ok.zQ.mem hb
  exact I.base.free b o ho (I.ok.Rn b hb) λ z=>I.ok.OH b z hb
theorem Inv.step{g':Array GenState}{t':Nat}{d':Drawn}{ch:List Addr}(I:Inv X pins σ H s)
  (hch:∀b∈ch,(b∈X.ex\/X.Cq.heap.objs.size<=b)/\b≠X.env.locals/\(∀x c,X.env.cells.lookup x=some c->c≠b)/\∀p∈X.pn++pins,p.1≠b)
  (keep:∀b o,b≠X.env.locals->b ∉ X.fs->b ∉ ch->s.heap.get? b=some o->H b=none->h'.get? b=some o)
  (slot:∀b o,b≠X.env.locals->b∈X.fs->b ∉ ch->s.heap.get? b=some o->H b=none->∃sl,h'.get? b=some { o with slots:=sl }) (free:∀b o,b ∉ ch->s.heap.get? b=some o->H b=none->H' b=none)
  (there:∀b o,b ∉ ch->s.heap.get? b=some o->∃o',h'.get? b=some o')
  (tups:∀b xs,H b=some (.tup xs)->H' b=some (.tup xs)) (Co:∀b o u,H b=some (.Lp o u)->H' b=some (.Lp o u)) (Cp:∀b ps,H b=some (.D0 ps)->∃more,H' b=some (.D0 (ps++more)))
  (ns:∀m,s.heap.Ns X.env.locals m->h'.Ns X.env.locals m) (hok:yK X.prog X.w H' h') (hg:AllBare g') :
  Inv X pins σ H' { s with heap:=h',gens:=g',drawn:=d',toks:=t' }:=by
 have XR:∀b o,X.Cq.heap.get? b=some o->b≠X.env.locals:=λ b o e=>aV (aI (Heap.lt_size e) I.ok.above)
 have VF:∀b o,X.Cq.heap.get? b=some o->b ∉ X.ex->b ∉ ch:=λ b o e hx hb=>by
  rcases (hch b hb).1 with z | z
  ·exact hx z
  ·exact absurd (aI (Heap.lt_size e) z) (bJ _)
 have cellK:∀x c,X.env.cells.lookup x=some c->∀v,s.heap.IsCell c v->h'.IsCell c v:=λ x c e v ⟨o,ho,hd⟩=>by
  have TR:c ∉ ch:=λ z=>(hch c z).2.2.1 x c e rfl
  by_cases hc:c∈X.fs
  ·obtain⟨sl,q⟩:=slot c o (I.Ro x c e) hc TR ho (I.tZ x c e);exact⟨_,q,hd⟩
  ·exact⟨o,keep c o (I.Ro x c e) hc TR ho (I.tZ x c e),hd⟩
 refine⟨I.ok,I.os,hg,⟨λ b o e n hb hx=>?_,λ b o e n hb hx=>?_,λ b o e n hx=>?_,λ b o e hx=>?_,λ b xs e=>tups b xs (I.base.tups b xs e),λ b o xs e=>Co b o xs (I.base.Co b o xs e),λ b ps e=>?_⟩,?_,λ x c e=>?_,?_,λ x c e=>?_,λ p hp=>?_,hok,I.len⟩
 ·exact keep b o (XR b o e) hb (VF b o e hx) (I.base.keep b o e n hb hx) (I.base.free b o e n hx)
 ·obtain⟨sl,e1⟩:=I.base.slot b o e n hb hx
  obtain⟨VG,e2⟩:=slot b _ (XR b o e) hb (VF b o e hx) e1 (I.base.free b o e n hx);exact⟨VG,e2⟩
 ·obtain⟨o',e1⟩:=I.base.there b o e hx
  exact free b o' (VF b o e hx) e1 (I.base.free b o e n hx)
 ·obtain⟨o',e1⟩:=I.base.there b o e hx
  exact there b o' (VF b o e hx) e1
 ·obtain⟨m1,e1⟩:=I.base.Cp b ps e
  obtain⟨m2,e2⟩:=Cp b _ e1;exact⟨m1++m2,by rw[e2,Array.append_assoc]⟩
 ·obtain⟨m,hn,hl⟩:=I.loc
  refine⟨m,ns m hn,λ i x v e1 e2 e3=>?_⟩;obtain⟨u,r,l⟩:=hl i x v e1 e2 e3;refine⟨u,r,?_⟩
  rcases l with l | ⟨k,c,e,z⟩
  ·exact .inl l
  ·exact .inr ⟨k,c,e,cellK x c e _ z⟩
 ·obtain⟨v,z⟩:=I.cell x c e
  exact⟨v,cellK x c e v z⟩
 ·obtain⟨m,⟨o,_,_,ho,_⟩,_⟩:=I.loc
  exact free _ o (λ z=>(hch _ z).2.1 rfl) ho I.free
 ·obtain⟨v,o,ho,hd⟩:=I.cell x c e
  exact free c o (λ z=>(hch c z).2.2.1 x c e rfl) ho (I.tZ x c e)
 ·obtain⟨e,n,ne,nf,d⟩:=I.pin p hp
  have TR:p.1 ∉ ch:=λ z=>(hch p.1 z).2.2.2 p hp rfl
  exact⟨keep p.1 p.2 ne nf TR e n,free p.1 p.2 TR e n,ne,nf,d⟩
theorem Inv.un{t':Nat}(I:Inv X pins σ H s)(u:Un X.fs [] H H' s.heap h')(hok:yK X.prog X.w H' h'):Inv X pins σ H' { s with heap:=h',toks:=t' }:=by
 obtain⟨m,⟨o,es,ep,ho,r⟩,_⟩:=id I.loc
 obtain⟨sl,hL⟩:=u.any ho I.free (by simp)
 exact I.step (g':=s.gens) (d':=s.drawn) (ch:=[]) (λ _ z=>nomatch z) (λ b o _ hb _ e n=>u.keep b o e n hb (by simp)) (λ b o _ hb _ e n=>u.slot b o e n hb (by simp)) (λ b o _ e n=>u.free b o e n (by simp)) (λ b o _ e=>u.there b o e (by simp)) u.tups u.Co u.Cp (λ m' hm=>by
  obtain⟨o',es',Rp,ho',r'⟩:=hm;rw[ho] at ho';cases ho';exact⟨_,es',Rp,hL,r'⟩) hok I.bare
theorem Inv.call{g':Array GenState}{t':Nat}{d':Drawn}{ch:List Addr}(I:Inv X pins σ H s)(u:Un (frs X.stack) ch H H' s.heap h')(hok:yK X.prog X.w H' h')(hg:AllBare g')
  (hch:∀b∈ch,(b∈X.ex\/X.Cq.heap.objs.size<=b)/\b≠X.env.locals/\(∀x c,X.env.cells.lookup x=some c->c≠b)/\∀p∈X.pn++pins,p.1≠b) :
  Inv X pins σ H' { s with heap:=h',gens:=g',drawn:=d',toks:=t' }:=by
 obtain⟨m,⟨o,es,ep,ho,r⟩,_⟩:=id I.loc
 obtain⟨sl,hL⟩:=u.any ho I.free λ z=>(hch _ z).2.1 rfl
 exact I.step (ch:=ch) hch (λ b o hL hb hc e n=>u.keep b o e n (λ z=>(aB.mp (I.Ai b z)).elim hL hb) hc) (λ b o _ _ hc e n=>u.any e n hc) (λ b o hc e n=>u.free b o e n hc) (λ b o hc e=>u.there b o e hc) u.tups u.Co u.Cp (λ m' hm=>by
  obtain⟨o',es',Rp,ho',r'⟩:=hm;rw[ho] at ho';cases ho';exact⟨_,es',Rp,hL,r'⟩) hok hg
theorem Inv.turned{t':Nat}{it:Addr}(I:Inv X pins σ H s)(k:∀b o,b≠it->s.heap.get? b=some o->h'.get? b=some o)(hn:H it=none)(hL:it≠X.env.locals)
  (h1:it∈X.ex\/X.Cq.heap.objs.size<=it) (h2:∀x c,X.env.cells.lookup x=some c->c≠it) (h3:∀p∈X.pn++pins,p.1≠it):Inv X pins σ H { s with heap:=h',toks:=t' }:=by
 have QG:∀b u,H b=some u->b≠it:=λ b u e z=>by rw[z,hn] at e;cases e
 refine I.step (g':=s.gens) (d':=s.drawn) (ch:=[it]) (λ b hb=>?_) (λ b o _ _ hc e _=>k b o (λ z=>hc (by simp[z])) e) (λ b o _ _ hc e _=>⟨o.slots,k b o (λ z=>hc (by simp[z])) e⟩) (λ _ _ _ _ n=>n)
  (λ b o hc e=>⟨o,k b o (λ z=>hc (by simp[z])) e⟩) (λ _ _ e=>e) (λ _ _ _ e=>e) (λ b ps e=>⟨#[],by rw[e];simp⟩) (λ m hm=>?_) (λ b u e=>?_) I.bare
 ·have e:b=it:=by simpa using hb
  subst e;exact⟨h1,hL,h2,h3⟩
 ·obtain⟨o,es,ep,ho,r⟩:=hm
  exact⟨o,es,ep,k _ o (Ne.symm hL) ho,r⟩
 ·refine (I.hok b u e).stay (λ c v hc q=>k c v ?_ q) (λ _ q=>q) λ _ _ q=>q
  rcases hc with z | z
  ·rw[z];exact QG b u e
  ·exact QG c _ z
theorem Inv.tok(I:Inv X pins σ H s)(t:Nat):Inv X pins σ H { s with toks:=t }:=I.un (h':=s.heap) (t':=t) Un.refl I.hok
theorem Inv.kept{t':Nat}(I:Inv X pins σ H s)(k:∀b u,s.heap.get? b=some u->h'.get? b=some u):Inv X pins σ H { s with heap:=h',toks:=t' }:=I.un (Un.kept k) (I.hok.kept k)
theorem Inv.laid{a:Addr}{o:HO}{t':Nat}(I:Inv X pins σ H s)(k:∀b u,s.heap.get? b=some u->h'.get? b=some u)(hp:s.heap.objs.size<=a)(new:n6 X.prog X.w (upd H a o) h' a o) :
  Inv X pins σ (upd H a o) { s with heap:=h',toks:=t' }:=I.un (Un.laid k hp (I.hok.fresh hp)) (I.hok.laid k hp new)
theorem Inv.write{x e:Addr}{o:HO}{t':Nat}(I:Inv X pins σ H s)(mu:VC (H x))(he:e=x\/H e=some (.own x))(k:∀b u,b≠e->s.heap.get? b=some u->h'.get? b=some u)(Tf:∃u,h'.get? e=some u)
  (new:n6 X.prog X.w (upd H x o) h' x o):Inv X pins σ (upd H x o) { s with heap:=h',toks:=t' }:=I.un (Un.write mu he k Tf) (I.hok.write mu he k Tf new)
theorem Inv.weak{σ':List (Option V)}(I:Inv X pins σ H s)(hl:σ'.length = σ.length)(w:∀(i:Nat) v,σ'[i]? = some (some v)->σ[i]? = some (some v)):Inv X pins σ' H s:=
 ⟨I.ok,I.os,I.bare,I.base,let ⟨m,hn,hl'⟩:=I.loc;⟨m,hn,λ i x v e1 e2 e3=>hl' i x v e1 (w i v e2) e3⟩,I.cell,I.free,I.tZ,I.pin,I.hok,hl.trans I.len⟩
theorem Inv.HY{QH:List (Addr×Obj)}(I:Inv X pins σ H s)(h:∀p∈QH,s.heap.get? p.1=some p.2/\H p.1=none/\p.1≠X.env.locals/\p.1 ∉ X.fs/\∀v,p.2.data≠.cell v):Inv X QH σ H s:=
 ⟨I.ok,I.os,I.bare,I.base,I.loc,I.cell,I.free,I.tZ,λ p hp=>(br.mp hp).elim (λ z=>I.pin p (fQ _ z)) (h p),I.hok,I.len⟩
theorem Aj{N:List Str}(hN:N.Nodup){i j:Nat}{x:Str}(a:N[i]? = some x)(b:N[j]? = some x):i=j:=by
 obtain⟨h1,e1⟩:=ao.mp a
 obtain⟨h2,e2⟩:=ao.mp b
 exact (List.getElem_inj hN).mp (e1.trans e2.symm)
theorem CU{M:Model}{A:Around}{E:Value->Shared->Prop}{i:Nat}{x:Str}{v:V}{u:Value}{Q:Unit->Shared->Prop}(I:Inv X pins σ H s)(hN:X.N.Nodup)(hi:X.N[i]? = some x)(hx:Loc X.env.scope x)(r:RelV v u)
  (h:∀s',Inv X pins (σ.set i (some v)) H s'->(∃a,Heap.SameBut a s.heap s'.heap/\(a=X.env.locals\/X.env.cells.lookup x=some a))->Q () s') (hf:X.fn x=true\/X.env.scope.names.lookup x=some .local:=by first | exact .inl rfl | exact .inr rfl | assumption):wpAny M A (storeName X.env x u) Q E s:=by
 obtain⟨m,hn,hl⟩:=id I.loc
 have hcls:(X.env.scope.kind == .class||(X.env.scope.kind == .module&&X.env.locals != X.env.globals))=false:=by rw[I.ok.kind];rfl
 have XS:i<σ.length:=by rw[I.len];exact (ao.mp hi).1
 have Ro:=I.Ro
 have tracked:∀{a:Addr} {h':Heap},(∃o,s.heap.get? a=some o/\H a=none)->Heap.SameBut a s.heap h'->yK X.prog X.w H h':=λ {a h'} ha hs b ob e=>by
  obtain⟨_,_,hfree⟩:=ha;refine (I.hok b ob e).stay (λ c w' hc q=>(hs.2 c ?_).trans q) (λ _ q=>q) λ _ _ q=>q
  rintro rfl
  rcases hc with rfl | hc
  ·rw[hfree] at e;cases e
  ·rw[hfree] at hc;cases hc
 rcases hx with hk | hk
 ·refine wpAny_storeName_local hk hn (λ h' hn' hs=>?_) hcls
  obtain⟨oL,_,_,Y9,_⟩:=id hn;refine h _ ⟨I.ok,I.os,I.bare,⟨λ b o e n hb hx=>?_,λ b o e n hb hx=>?_,I.base.free,λ b o e hx=>?_,I.base.tups,I.base.Co,I.base.Cp⟩,⟨_,hn',λ j y v' e1 e2 e3=>?_⟩,λ y c e=>?_,I.free,I.tZ,λ p hp=>?_,tracked ⟨oL,Y9,I.free⟩ hs,by simpa using I.len⟩ ⟨_,hs,.inl rfl⟩
  ·exact (hs.2 b (aV (aI (Heap.lt_size e) I.ok.above))).trans (I.base.keep b o e n hb hx)
  ·obtain⟨sl,e1⟩:=I.base.slot b o e n hb hx;exact⟨sl,(hs.2 b (aV (aI (Heap.lt_size e) I.ok.above))).trans e1⟩
  ·obtain⟨o',e1⟩:=I.base.there b o e hx;exact⟨o',(hs.2 b (aV (aI (Heap.lt_size e) I.ok.above))).trans e1⟩
  ·by_cases hj:j=i
   ·subst hj;rw[hi] at e1;cases e1;rw[fh XS] at e2
    cases e2;exact⟨u,r,.inl ⟨hk,by simp⟩⟩
   ·rw[fR (Ne.symm hj)] at e2;obtain⟨u',r',q⟩:=hl j y v' e1 e2 e3;refine⟨u',r',?_⟩
    rcases q with ⟨k,e⟩ | ⟨k,c,e,z⟩
    ·refine .inl ⟨k,?_⟩;have:y≠x:=λ e=>hj (Aj hN e1 (e ▸ hi))
     simp[this,e]
    ·exact .inr ⟨k,c,e,z.sameBut hs (Ro y c e)⟩
  ·obtain⟨w',z⟩:=I.cell y c e;exact⟨w',z.sameBut hs (Ro y c e)⟩
  ·obtain⟨e,n,ne,nf,d⟩:=I.pin p hp;exact⟨(hs.2 p.1 ne).trans e,n,ne,nf,d⟩
 ·have hfn:X.fn x=true:=by
   rcases hf with z | z
   ·exact z
   ·rw[z] at hk;cases hk
  obtain⟨c,hc⟩:=I.ok.has x (.inl hk);obtain⟨w',z⟩:=I.cell x c hc;refine wpAny_storeName_cell I.ok.kind hk hc z (λ h' hc' hs=>?_);obtain⟨oc,hoc,Wb⟩:=id z;refine h { s with heap:=h' } ⟨I.ok,I.os,I.bare,⟨λ b o e n hb hx=>?_,λ b o e n hb hx=>?_,I.base.free,λ b o e hx=>?_,I.base.tups,I.base.Co,I.base.Cp⟩,⟨m,hn.sameBut hs (Ne.symm (Ro x c hc)),λ j y v' e1 e2 e3=>?_⟩,λ y c' e=>?_,I.free,I.tZ,λ p hp=>?_,tracked ⟨oc,hoc,I.tZ x c hc⟩ hs,by simpa using I.len⟩ ⟨c,hs,.inr hc⟩
  ·exact (hs.2 b (aV (aI (Heap.lt_size e) (I.ok.VE x c hfn hc)))).trans (I.base.keep b o e n hb hx)
  ·obtain⟨sl,e1⟩:=I.base.slot b o e n hb hx;exact⟨sl,(hs.2 b (aV (aI (Heap.lt_size e) (I.ok.VE x c hfn hc)))).trans e1⟩
  ·obtain⟨o',e1⟩:=I.base.there b o e hx;exact⟨o',(hs.2 b (aV (aI (Heap.lt_size e) (I.ok.VE x c hfn hc)))).trans e1⟩
  ·by_cases hj:j=i
   ·subst hj;rw[hi] at e1;cases e1;rw[fh XS] at e2
    cases e2;exact⟨u,r,.inr ⟨.inl hk,c,hc,hc'⟩⟩
   ·rw[fR (Ne.symm hj)] at e2;obtain⟨u',r',q⟩:=hl j y v' e1 e2 e3;refine⟨u',r',?_⟩
    rcases q with q | ⟨k,c',e,z'⟩
    ·exact .inl q
    ·refine .inr ⟨k,c',e,z'.sameBut hs ?_⟩;rintro rfl;exact hj (Aj hN e1 (I.ok.inj _ _ _ e hc ▸ hi))
  ·by_cases hcc:c'=c
   ·subst hcc;exact⟨_,hc'⟩
   ·obtain⟨w2,z2⟩:=I.cell y c' e;exact⟨w2,z2.sameBut hs hcc⟩
  ·obtain⟨e,n,ne,nf,d⟩:=I.pin p hp;refine⟨(hs.2 p.1 ?_).trans e,n,ne,nf,d⟩;intro q;rw[q,hoc] at e;have q':oc=p.2:=aS e;exact d w' (by rw[<-q'];exact Wb)
theorem Ak{M:Model}{A:Around}{E:Value->Shared->Prop}{i:Nat}{x:Str}{v:V}{u:Value}{Q:Unit->Shared->Prop}(I:Inv X pins σ H s)(hN:X.N.Nodup)(hi:X.N[i]? = some x)(hx:Loc X.env.scope x)(r:RelV v u)
  (h:∀s',Inv X pins (σ.set i (some v)) H s'->Q () s') (hf:X.fn x=true\/X.env.scope.names.lookup x=some .local:=by first | exact .inl rfl | exact .inr rfl | assumption):wpAny M A (storeName X.env x u) Q E s:=
 CU I hN hi hx r (λ s' I' _=>h s' I') hf
theorem Inv.TU{s':Shared}{ch:List Addr}(I:Inv X pins σ H s)(ho:s'.os=s.os)(u:Un (frs X.stack) ch H H' s.heap s'.heap)(hok:yK X.prog X.w H' s'.heap)(hg:AllBare s'.gens)
  (hch:∀b∈ch,(b∈X.ex\/X.Cq.heap.objs.size<=b)/\b≠X.env.locals/\(∀x c,X.env.cells.lookup x=some c->c≠b)/\∀p∈X.pn++pins,p.1≠b):Inv X pins σ H' s':=by
 obtain⟨h',g',d',t',o'⟩:=s'
 have e:o'=s.os:=ho
 subst e
 exact I.call (g':=g') (t':=t') (d':=d') u hok hg hch
end
abbrev XK:=Value->Option Addr->Hp->Prop
abbrev St:=List (Option V)
abbrev VK:=V->Hp->Prop
abbrev TE:=St->Hp->VK->Prop
abbrev TT:=St->Hp->(Bool->Hp->Prop)->Prop
abbrev TA:=St->Hp->(List V->Hp->Prop)->Prop
structure Ends where
 nx:St->Hp->Prop
 rt:VK
 bk:St->Hp->Prop:=λ _ _=>False
 ct:St->Hp->Prop:=λ _ _=>False
abbrev TS:=Ends->St->Hp->Prop
def EP(X:Cx)(pins:List (Addr×Obj))(σ:St)(Q:VK)(u:Value)(s':Shared):Prop:=∃v H',Inv X pins σ H' s'/\RelV v u/\Q v H'
def TP(X:Cx)(pins:List (Addr×Obj))(σ:St)(Q:Bool->Hp->Prop)(b:Bool)(s':Shared):Prop:=∃H',Inv X pins σ H' s'/\Q b H'
def AP(X:Cx)(pins:List (Addr×Obj))(σ:St)(Q:List V->Hp->Prop)(us:List Value)(s':Shared):Prop:=∃vs H',Inv X pins σ H' s'/\Vals vs us/\Q vs H'
def SP(X:Cx)(pins:List (Addr×Obj))(D:Ends)(f:Flow)(s':Shared):Prop:=
 match f with
 |.next=>∃σ' H',Inv X pins σ' H' s'/\D.nx σ' H'
 |.brk=>∃σ' H',Inv X pins σ' H' s'/\D.bk σ' H'
 |.cont=>∃σ' H',Inv X pins σ' H' s'/\D.ct σ' H'
 |.ret u=>∃v σ' H',Inv X pins σ' H' s'/\RelV v u/\D.rt v H'
def PE(X:Cx)(e:Expr)(t:TE):Prop:=
 ∀(pins:List (Addr×Obj)) (s:Shared) (σ:St) (H:Hp) (Q:VK),Inv X pins σ H s->t σ H Q->wpAny (model X.prog X.w) X.A (eval e X.env) (EP X pins σ Q) X.xe s
def PT(X:Cx)(e:Expr)(t:TT):Prop:=
 ∀(pins:List (Addr×Obj)) (s:Shared) (σ:St) (H:Hp) (Q:Bool->Hp->Prop),Inv X pins σ H s->t σ H Q->wpAny (model X.prog X.w) X.A (isTrue e X.env (eval e X.env)) (TP X pins σ Q) X.xe s
def PW(X:Cx)(e:Expr)(t:TT):Prop:=
 ∀(whole:Sem Value) (pins:List (Addr×Obj)) (s:Shared) (σ:St) (H:Hp) (Q:Bool->Hp->Prop),Inv X pins σ H s->t σ H Q->wpAny (model X.prog X.w) X.A (isTrue e X.env whole) (TP X pins σ Q) X.xe s
theorem PW.pt{X:Cx}{e:Expr}{t:TT}(h:PW X e t):PT X e t:=h _
def PA(X:Cx)(es:List Expr)(t:TA):Prop:=
 ∀(pos:Pos) (pins:List (Addr×Obj)) (s:Shared) (σ:St) (H:Hp) (Q:List V->Hp->Prop),Inv X pins σ H s->t σ H Q->wpAny (model X.prog X.w) X.A (spliced (backTo pos (starEach es X.env))) (AP X pins σ Q) X.xe s
def PS(X:Cx)(st:Stmt)(t:TS):Prop:=
 ∀(pins:List (Addr×Obj)) (s:Shared) (σ:St) (H:Hp) (D:Ends),Inv X pins σ H s->t D σ H->wpAny (model X.prog X.w) X.A (exec st X.env) (SP X pins D) X.xe s
def Lz(X:Cx)(st:List Stmt)(t:TS):Prop:=
 ∀(pins:List (Addr×Obj)) (s:Shared) (σ:St) (H:Hp) (D:Ends),Inv X pins σ H s->t D σ H->wpAny (model X.prog X.w) X.A (execs st X.env) (SP X pins D) X.xe s
theorem lQ{α:Type}{t:Sem α}{Q Q':α->Shared->Prop}{M:Model}{A:Around}{E:Value->Shared->Prop}{s:Shared}(h:wpAny M A t Q E s)(hQ:∀a s,Q a s->Q' a s):wpAny M A t Q' E s:=wpAny_mono h hQ λ _ _ x=>x
end L2
namespace L2
open PySem PySem.Spec PyProof.Rows
section
variable{X:Cx}
theorem bin{a b:Expr}{ta tb:TE}(ha:PE X a ta)(hb:PE X b tb){pins:List (Addr×Obj)}{s:Shared}{σ:St}{H:Hp}{R:V->V->Hp->Prop}(I:Inv X pins σ H s)(h:ta σ H λ x H1=>tb σ H1 λ y H2=>R x y H2)
  {α:Type} {Q:α->Shared->Prop} {f:Value->Value->Sem α}
  (hf:∀v u s2 x y H2,Inv X pins σ H2 s2->RelV x v->RelV y u->R x y H2->wpAny (model X.prog X.w) X.A (f v u) Q X.xe s2) :
  wpAny (model X.prog X.w) X.A (eval a X.env) (λ v s₁=>wpAny (model X.prog X.w) X.A (eval b X.env) (λ u s₂=>wpAny (model X.prog X.w) X.A (f v u) Q X.xe s₂) X.xe s₁) X.xe s:=by
 refine lQ (ha pins s σ H _ I h) λ v s1 ⟨x,H1,I1,r1,q1⟩=>?_
 refine lQ (hb pins s1 σ H1 _ I1 q1) λ u s2 ⟨y,H2,I2,r2,q2⟩=>?_
 exact hf v u s2 x y H2 I2 r1 r2 q2
def xy(i:Nat):TE:=λ σ H Q=>∃v,σ[i]? = some (some v)/\Q v H
def tC(v:V):TE:=λ _ H Q=>Q v H
theorem Rr{i:Nat}{x:Str}{pos:Pos}(hN:X.N[i]? = some x)(hv:OE X.env.scope x)(hd:(x==("__debug__":Str))=false:=by decide)(hcd:(x==("__classdict__":Str))=false:=by decide):PE X (.Name x pos) (xy i):=by
 intro pins s σ H Q I h
 obtain⟨v,e,h⟩:=h
 obtain⟨m,hn,hl⟩:=I.loc
 obtain⟨u,r,l⟩:=hl i x v hN e hv
 have fin:EP X pins σ Q u s:=⟨v,H,I,r,h⟩
 rcases l with ⟨hk,hm⟩ | ⟨hk,c,hc,hcell⟩
 ·exact wpAny_Name (wpAny_loadName_local I.ok.kind hk hn hm fin) hd
 ·rcases hk with hk | hk
  ·exact wpAny_Name (wpAny_loadName_cell I.ok.kind hk hc hcell fin) hd
  ·exact wpAny_Name (wpAny_loadName_free I.ok.kind hk hc hcell fin hcd) hd
theorem jv{i j pos}:PE X (.Constant (.int i) j pos) (tC (.int i)):=λ _ _ _ H _ I h=>wpAny_Constant_int ⟨.int i,H,I.tok _,⟨_,rfl⟩,h⟩
theorem LA{b j pos}:PE X (.Constant (.bool b) j pos) (tC (.bl b)):=λ _ _ _ H _ I h=>Constant_bool ⟨.bl b,H,I,rfl,h⟩
def Gl(X:Cx)(x:Str):Prop:=X.env.kindOf x=some .globalImplicit
theorem sY{E:Value->Shared->Prop}{pins:List (Addr×Obj)}{s:Shared}{σ:St}{H:Hp}{x:Str}{u:Value}{pos:Pos}{Q:Value->Shared->Prop}(I:Inv X pins σ H s)(hg:Gl X x)(hm:X.mg x=some u)(h:Q u s)
  (hd:(x==("__debug__":Str))=false:=by decide):wpAny (model X.prog X.w) X.A (eval (.Name x pos) X.env) Q E s:=
 Calls.Name_function_global I.ok.kind hg (Calls.loadGlobal_global (by rw[I.ok.glob];exact I.mod.glob.keeps I.bk) hm h) hd
theorem wL{E:Value->Shared->Prop}{pins:List (Addr×Obj)}{s:Shared}{σ:St}{H:Hp}{x:Str}{u:Value}{pos:Pos}{Q:Value->Shared->Prop}(I:Inv X pins σ H s)(hg:Gl X x)(hm:X.mg x=none)(hv:bootBuiltins x=some u)(h:Q u s)
  (hn:x≠"__name__":=by decide) (hd:(x==("__debug__":Str))=false:=by decide):wpAny (model X.prog X.w) X.A (eval (.Name x pos) X.env) Q E s:=by
 obtain⟨mb,h1,h2⟩:=I.mod.blt
 exact Calls.Name_function_global I.ok.kind hg (Calls.loadGlobal_builtin (by rw[I.ok.glob];exact I.mod.glob.keeps I.bk) hm (by rw[I.ok.blt];exact h1.keeps I.bk) ((h2 x hn).trans hv) h) hd
theorem OI{x:Str}{v:V}{u:Value}{pos:Pos}(hg:Gl X x)(hm:X.mg x=some u)(r:RelV v u)(hd:(x==("__debug__":Str))=false:=by decide):PE X (.Name x pos) (tC v):=
 λ _ _ _ H _ I h=>sY I hg hm ⟨v,H,I,r,h⟩ hd
variable{a b:Expr}{ta tb:TE}{pos:Pos}
def tB(t:TE):TT:=λ σ H Q=>t σ H λ x H1=>∃c,x=.bl c/\Q c H1
theorem qb{e:Expr}{t:TE}(h:PE X e t)(he:∀whole,isTrue e X.env whole=(do let v <-whole;standAt e.pos;holding [v] (truthy v)):=by intro _;rfl):PT X e (tB t):=by
 intro pins s σ H Q I hw
 refine isTrue_plain (lQ (h pins s σ H _ I hw) λ v s1 ⟨x,H1,I1,r1,q1⟩=>?_) (he _)
 obtain⟨d,rfl,q⟩:=q1
 cases r1
 exact wpAny_truthy_bool ⟨H1,I1,q⟩
variable{tA VH:TT}{rest:List Expr}
def We(t u:TT):TT:=λ σ H Q=>t σ H λ c H1=>if c=true then u σ H1 Q else Q false H1
def Za(t u:TT):TT:=λ σ H Q=>t σ H λ c H1=>if c=true then Q true H1 else u σ H1 Q
def Wf(t:TT):TT:=λ σ H Q=>t σ H λ c H1=>Q (!c) H1
theorem HZ(ha:PT X a tA):PW X (.BoolOp .And [a] pos) tA:=by
 intro wh pins s σ H Q I h
 refine isTrue_and (lQ (ha pins s σ H Q I h) λ c s1 e=>?_)
 cases c with
 |true=>exact isTrue_and_nil e
 |false=>exact e
theorem Rt(ha:PT X a tA):PW X (.BoolOp .Or [a] pos) tA:=by
 intro wh pins s σ H Q I h
 refine isTrue_or (lQ (ha pins s σ H Q I h) λ c s1 e=>?_)
 cases c with
 |false=>exact isTrue_or_nil e
 |true=>exact e
theorem LB(ha:PT X a tA)(hb:PW X (.BoolOp .And (b::rest) pos) VH):PW X (.BoolOp .And (a::b::rest) pos) (We tA VH):=by
 intro wh pins s σ H Q I h
 refine isTrue_and (lQ (ha pins s σ H _ I h) λ c s1 ⟨H1,I1,q1⟩=>?_)
 cases c with
 |true=>exact hb wh pins s1 σ H1 Q I1 q1
 |false=>exact⟨H1,I1,q1⟩
theorem TV(ha:PT X a tA)(hb:PW X (.BoolOp .Or (b::rest) pos) VH):PW X (.BoolOp .Or (a::b::rest) pos) (Za tA VH):=by
 intro wh pins s σ H Q I h
 refine isTrue_or (lQ (ha pins s σ H _ I h) λ c s1 ⟨H1,I1,q1⟩=>?_)
 cases c with
 |true=>exact⟨H1,I1,q1⟩
 |false=>exact hb wh pins s1 σ H1 Q I1 q1
theorem Al(ha:PT X a tA):PT X (.UnaryOp .Not a pos) (Wf tA):=by
 intro pins s σ H Q I h
 exact isTrue_not (ha pins s σ H (λ c H1=>Q (!c) H1) I h)
def Wg(ta tb:TE):TE:=λ σ H Q=>ta σ H λ x H1=>∃c,x=.bl c/\if c=true then Q (.bl true) H1 else tb σ H1 Q
theorem LC{op}{t:TE}(h:PE X a t):PE X (.BoolOp op [a] pos) t:=λ pins s σ H Q I hw=>BoolOp_one (h pins s σ H Q I hw)
theorem LD(ha:PE X a ta)(hb:PE X (.BoolOp .Or (b::rest) pos) tb):PE X (.BoolOp .Or (a::b::rest) pos) (Wg ta tb):=by
 intro pins s σ H Q I h
 refine BoolOp_or (lQ (ha pins s σ H _ I h) λ v s1 ⟨x,H1,I1,r1,q1⟩=>?_)
 obtain⟨c,rfl,q1⟩:=q1
 cases r1
 refine wpAny_truthy_bool ?_
 cases c with
 |false=>exact hb pins s1 σ H1 Q I1 q1
 |true=>exact⟨.bl true,H1,I1,rfl,q1⟩
def XT(t:TT)(ta tb:TE):TE:=λ σ H Q=>t σ H λ c H1=>if c=true then ta σ H1 Q else tb σ H1 Q
theorem uu{c:Expr}(hc:PT X c tA)(ha:PE X a ta)(hb:PE X b tb):PE X (.IfExp c a b pos) (XT tA ta tb):=by
 intro pins s σ H Q I h
 refine wpAny_IfExp (lQ (hc pins s σ H _ I h) λ d s1 ⟨H1,I1,q1⟩=>?_)
 cases d with
 |true=>exact ha pins s1 σ H1 Q I1 q1
 |false=>exact hb pins s1 σ H1 Q I1 q1
end
end L2
namespace L2
open PySem PySem.Spec PyProof.Rows
def jE(K:ai)(H:Hp)(a:Addr)(xs:List V):Prop:=
 Rd H a (.lst xs) \/
  ∃(o:Obj) (its:Array Value) (n:Nat),K.lookup a=some o/\o.cls=.type "list"/\o.dict=none/\o.data=.seq its n/\its.size<=sizeLine/\Vals xs its.toList
def rH(K:ai)(H:Hp)(a:Addr)(xs:List V):Prop:=
 Rd H a (.tup xs) \/
  ∃(o:Obj) (its:Array Value) (n:Nat),K.lookup a=some o/\o.cls=.type "tuple"/\o.data=.seq its n/\its.size<=sizeLine/\Vals xs its.toList
def Wh:Value->Option V
 |.none=>some .pZ
 |.bool b=>some (.bl b)
 |.int i _=>some (.int i)
 |.str x _=>some (.str x)
 |.bytes b _=>some (.HX b)
 |.float b _=>some (.VB b)
 |.ref a=>some (.ref a)
 |.type n=>some (.ty n)
 |_=>none
theorem RelV.abs{x:V}{u:Value}(r:RelV x u):Wh u=some x:=by
 cases x with
 |pZ=>cases r;rfl
 |bl _=>cases r;rfl
 |int _=>obtain⟨t,rfl⟩:=r;rfl
 |str _=>obtain⟨t,rfl⟩:=r;rfl
 |HX _=>obtain⟨t,rfl⟩:=r;rfl
 |VB _=>obtain⟨t,rfl⟩:=r;rfl
 |ref _=>cases r;rfl
 |ty _=>cases r;rfl
theorem RelV.inj{x y:V}{u:Value}(r:RelV x u)(q:RelV y u):x=y:=aS (r.abs.symm.trans q.abs)
theorem Vals.inj:∀{xs ys:List V}{us:List Value},Vals xs us->Vals ys us->xs=ys
 |_,_,_,.nil,.nil=>rfl
 |_,_,_,.cons r t,.cons r' t'=>by rw[r.inj r',Vals.inj t t']
section
variable{X:Cx}{pins:List (Addr×Obj)}{σ:St}{H:Hp}{s:Shared}{a:Addr}{xs ys:List V}
theorem jE.of{K:ai}(h:H a=some (.lst xs)):jE K H a xs:=.inl (.inl h)
theorem rH.of{K:ai}(h:H a=some (.tup xs)):rH K H a xs:=.inl (.inl h)
theorem Inv.list(I:Inv X pins σ H s)(h:jE X.K H a xs):∃its:List Value,Vals xs its/\PlainL s.heap a its.toArray/\xs.length<=sizeLine:=by
 rcases h with h | ⟨o,its,n,hk,hc,hd,hs,hz,r⟩
 ·obtain⟨z,its,n,r,e⟩:=h.ok I.hok
  exact⟨its,r,⟨_,n,e,rfl,rfl,rfl⟩,z⟩
 ·refine⟨its.toList,r,⟨o,n,I.GC a o hk,hc,hd,by simpa using hs⟩,?_⟩
  have e:=r.length;simp only[c8] at e
  omega
theorem Inv.tuple(I:Inv X pins σ H s)(h:rH X.K H a xs):∃its:List Value,Vals xs its/\IsTup s.heap a its.toArray/\xs.length<=sizeLine:=by
 rcases h with h | ⟨o,its,n,hk,hc,hs,hz,r⟩
 ·obtain⟨z,its,r,p⟩:=h.ok I.hok
  exact⟨its,r,p,z⟩
 ·refine⟨its.toList,r,⟨o,I.GC a o hk,hc,n,by simpa using hs⟩,?_⟩
  have e:=r.length;simp only[c8] at e
  omega
theorem Inv.xA(I:Inv X pins σ H s)(h:jE X.K H a xs)(h':jE X.K H a ys):xs=ys:=by
 obtain⟨its,r,⟨o,n,e,_,_,d⟩,_⟩:=I.list h
 obtain⟨its',r',⟨o',n',e',_,_,d'⟩,_⟩:=I.list h'
 rw[e] at e';cases e'
 rw[d] at d'
 injection d' with d1 _
 have:its=its':=by simpa using congrArg Array.toList d1
 subst this
 exact r.inj r'
end
section
variable{X:Cx}{pins:List (Addr×Obj)}{σ:St}{H:Hp}{s:Shared}{E:Value->Shared->Prop}
end
section
variable{X:Cx}{st:Stmt}{rest:List Stmt}{t u:TS}{e:Expr}{te:TE}{pos:Pos}
def TX:TS:=λ D σ H=>D.nx σ H
def JC(t u:TS):TS:=λ D σ H=>t { D with nx:=u D } σ H
theorem nc:Lz X [] TX:=λ _ _ σ H _ I h=>wpAny_execs_nil ⟨σ,H,I,h⟩
theorem jc(h1:PS X st t)(h2:Lz X rest u):Lz X (st::rest) (JC t u):=by
 intro pins s σ H D I h
 refine wpAny_execs_cons (lQ (h1 pins s σ H { D with nx:=u D } I h) λ f s1 q=>?_)
 cases f with
 |next=>
  obtain⟨σ',H',I',q⟩:=q;exact h2 pins s1 σ' H' D I' q
 |ret v=>exact q
 |brk=>exact q
 |cont=>exact q
theorem jg(h1:PS X st t):Lz X [st] t:=by
 intro pins s σ H D I h
 refine wpAny_execs_cons (lQ (h1 pins s σ H D I h) λ f s1 q=>?_)
 cases f with
 |next=>exact wpAny_execs_nil q
 |ret v=>exact q
 |brk=>exact q
 |cont=>exact q
theorem Inv.quiet{pins:List (Addr×Obj)}{σ:St}{H:Hp}{s:Shared}(I:Inv X pins σ H s):interactive X.env=false:=by simp[interactive,I.ok.kind]
def LF(te:TE):TS:=λ D σ H=>te σ H λ _ H1=>D.nx σ H1
theorem jJ(he:PE X e te)(hs:swapsWith e none pos.line X.env=pure false:=by rfl):PS X (.Expr e pos) (LF te):=by
 intro pins s σ H D I h
 exact wpAny_Expr_any (lQ (he pins s σ H _ I h) λ v s1 ⟨x,H1,I1,r1,q1⟩=>⟨σ,H1,I1,q1⟩) I.quiet hs
def OJ(te:TE):TS:=λ D σ H=>te σ H D.rt
theorem jB(he:PE X e te):PS X (.Return (some e) pos) (OJ te):=by
 intro pins s σ H D I h
 exact wpAny_Return_some (lQ (he pins s σ H _ I h) λ v s1 ⟨x,H1,I1,r1,q1⟩=>⟨x,σ,H1,I1,r1,q1⟩)
def Wi(c:TT)(t u:TS):TS:=λ D σ H=>c σ H λ b H1=>if b=true then t D σ H1 else u D σ H1
theorem rJ{c:Expr}{a b:List Stmt}{tc:TT}(hc:PT X c tc)(ha:Lz X a t)(hb:Lz X b u):PS X (.If c a b pos) (Wi tc t u):=by
 intro pins s σ H D I h
 refine wpAny_If (lQ (hc pins s σ H _ I h) λ d s1 ⟨H1,I1,q1⟩=>?_)
 cases d with
 |true=>exact ha pins s1 σ H1 D I1 q1
 |false=>exact hb pins s1 σ H1 D I1 q1
end
abbrev TG:=V->St->Hp->(St->Hp->Prop)->Prop
abbrev Ru:=List V->St->Hp->(St->Hp->Prop)->Prop
def PG(X:Cx)(target:Expr)(t:TG):Prop:=
 ∀(pins:List (Addr×Obj)) (s:Shared) (σ:St) (H:Hp) (v:V) (u:Value) (Q:St->Hp->Prop),Inv X pins σ H s->RelV v u->t v σ H Q ->
  wpAny (model X.prog X.w) X.A (assign target X.env u) (λ _ s'=>∃σ' H',Inv X pins σ' H' s'/\Q σ' H') X.xe s
def VI(X:Cx)(ts:List Expr)(t:Ru):Prop:=
 ∀(pins:List (Addr×Obj)) (s:Shared) (σ:St) (H:Hp) (vs:List V) (us:List Value) (Q:St->Hp->Prop),Inv X pins σ H s->Vals vs us->t vs σ H Q ->
  wpAny (model X.prog X.w) X.A (assignInOrder ((assignEach ts X.env).map (·.2)) us) (λ _ s'=>∃σ' H',Inv X pins σ' H' s'/\Q σ' H') X.xe s
abbrev LG:=V->V->V->Hp->(Hp->Prop)->Prop
def Rv(X:Cx)(t:LG):Prop:=
 ∀(pins:List (Addr×Obj)) (s:Shared) (σ:St) (H:Hp) (o i v:V) (ov iv u:Value) (Q:Hp->Prop),Inv X pins σ H s->RelV o ov->RelV i iv->RelV v u->t o i v H Q ->
  wpAny (model X.prog X.w) X.A (setItem ov iv u) (λ _ s'=>∃H',Inv X pins σ H' s'/\Q H') X.xe s
abbrev Th:=V->V->Hp->VK->Prop
def Wj(X:Cx)(op:Operator)(t:Th):Prop:=
 ∀(pins:List (Addr×Obj)) (s:Shared) (σ:St) (H:Hp) (x y:V) (v u:Value) (Q:VK),Inv X pins σ H s->RelV x v->RelV y u->t x y H Q ->
  wpAny (model X.prog X.w) X.A (inplaceOp op v u) (EP X pins σ Q) X.xe s
section
variable{X:Cx}{pos:Pos}
def CV(i:Nat):TG:=λ v σ H Q=>Q (σ.set i (some v)) H
theorem j0{i:Nat}{x:Str}(hN:X.N.Nodup)(hi:X.N[i]? = some x)(hx:Loc X.env.scope x)(hf:X.fn x=true\/X.env.scope.names.lookup x=some .local:=by first | exact .inl rfl | exact .inr rfl | assumption):PG X (.Name x pos) (CV i):=by
 intro pins s σ H v u Q I r h
 exact wpAny_assign_Name (Ak I hN hi hx r (λ s' I'=>⟨_,H,I',h⟩) hf)
def TY:Ru:=λ vs σ H Q=>vs=[]/\Q σ H
def LH(t:TG)(u:Ru):Ru:=λ vs σ H Q=>∃v r,vs=v::r/\t v σ H λ σ' H'=>u r σ' H' Q
theorem OL:VI X [] TY:=by
 intro pins s σ H vs us Q I r h
 obtain⟨e,h⟩:=h
 subst e
 cases r
 exact assignInOrder_nil ⟨σ,H,I,h⟩
theorem E1{e:Expr}{es:List Expr}{t:TG}{u:Ru}(h1:PG X e t)(h2:VI X es u)
  (hs:(assignEach (e::es) X.env).map (·.2)=assign e X.env::(assignEach es X.env).map (·.2):=by rfl):VI X (e::es) (LH t u):=by
 intro pins s σ H vs us Q I r h
 obtain⟨v,vr,e1,h⟩:=h
 subst e1
 cases r with
 |cons r rr=>
  rw[hs];refine assignInOrder_cons (lQ (h1 pins s σ H _ _ _ I r h) λ _ s1 ⟨σ1,H1,I1,q1⟩=>?_);exact h2 pins s1 σ1 H1 _ _ Q I1 rr q1
def TZ(K:ai)(n:Nat)(t:Ru):TG:=λ v σ H Q=>∃a xs,v=.ref a/\rH K H a xs/\xs.length=n/\t xs σ H Q
theorem Rw{es:List Expr}{k:Nat}{t:Ru}{n:Nat}(hc:X.calm=true)(h:VI X es t)
  (hn:(assignEach es X.env).length=n:=by rfl) (hst:(assignEach es X.env).findIdx? (·.1)=none:=by rfl):PG X (.Tuple es k pos) (TZ X.K n t):=by
 intro pins s σ H v u Q I r hw
 obtain⟨a,xs,e1,hq,hl,hw⟩:=hw
 subst e1
 cases r
 obtain⟨its,rv,ht,hz⟩:=I.tuple hq
 refine assign_Tuple_tuple (I.ok.hd hc) ht (by simp[hn,<-hl,rv.length]) hst λ h' hx=>?_
 have I1:Inv X pins σ H { s with heap:=h' }:=I.kept (t':=s.toks) λ b o e=>hx b o (aV (Heap.lt_size e)) e
 exact h pins _ σ H xs _ Q I1 (by simpa using rv) hw
def Wk(to ti:TE)(t:LG):TG:=λ v σ H Q=>to σ H λ o H1=>ti σ H1 λ i H2=>t o i v H2 λ H3=>Q σ H3
theorem wM{o i:Expr}{to ti:TE}{t:LG}(ho:PE X o to)(hi:PE X i ti)(hs:Rv X t)
  (ha:∀v,assign (.Subscript o i pos) X.env v=(do
   let ov <-holding [v] (eval o X.env)
   let iv <-holding [v,ov] (eval i X.env)
   standAt pos
   holding [v,ov,iv] (setItem ov iv v)
   release [v,ov,iv] []):=by intro _;rfl):PG X (.Subscript o i pos) (Wk to ti t):=by
 intro pins s σ H v u Q I r h
 rw[ha]
 refine wpAny_bind (wpAny_holding (lQ (ho pins s σ H _ I h) λ ov s1 ⟨x,H1,I1,r1,q1⟩=>?_))
 refine wpAny_bind (wpAny_holding (lQ (hi pins s1 σ H1 _ I1 q1) λ iv s2 ⟨y,H2,I2,r2,q2⟩=>?_))
 refine wpAny_bind (wpAny_standAt (wpAny_bind (wpAny_holding (lQ (hs pins s2 σ H2 x y v ov iv u _ I2 r1 r2 r q2) λ _ s3 ⟨H3,I3,q3⟩=>?_))))
 exact wpAny_release ⟨σ,H3,I3,q3⟩
def Ry(te:TE)(g:TG):TS:=λ D σ H=>te σ H λ x H1=>g x σ H1 D.nx
theorem wN{tg e:Expr}{te:TE}{g:TG}(he:PE X e te)(hg:PG X tg g)(hs:swapsWithSole [tg] e pos.line X.env=pure false:=by rfl)(hw:swappedStores [tg] e X.env=pure none:=by rfl)
  (h1:(assignEach [tg] X.env).map (·.2)=[assign tg X.env]:=by rfl):PS X (.Assign [tg] e pos) (Ry te g):=by
 intro pins s σ H D I h
 refine wpAny_Assign_stores (lQ (he pins s σ H _ I h) λ v s1 ⟨x,H1,I1,r1,q1⟩=>?_) hs hw
 rw[h1]
 exact lQ (hg pins s1 σ H1 x v _ I1 r1 q1) λ _ s2 q=>q
theorem jD{i:Nat}{x:Str}{e:Expr}{te:TE}{pos':Pos}(hN:X.N.Nodup)(hi:X.N[i]? = some x)(hx:Loc X.env.scope x)(he:PE X e te)(hs:swapsWith e (some (.Name x pos')) pos.line X.env=pure false:=by rfl)(hf:X.fn x=true\/X.env.scope.names.lookup x=some .local:=by first | exact .inl rfl | exact .inr rfl | assumption) :
  PS X (.Assign [.Name x pos'] e pos) (Ry te (CV i)):=by
 intro pins s σ H D I h
 refine wpAny_Assign_Name (lQ (he pins s σ H _ I h) λ v s1 ⟨y,H1,I1,r1,q1⟩=>?_) hs
 exact Ak I1 hN hi hx r1 (λ s2 I2=>⟨_,H1,I2,q1⟩) hf
def Wl(i:Nat)(te:TE)(ti:Th):TS:=λ D σ H=>∃x,σ[i]? = some (some x)/\te σ H λ y H1=>ti x y H1 λ z H2=>D.nx (σ.set i (some z)) H2
theorem Rz{i:Nat}{x:Str}{e:Expr}{te:TE}{op:Operator}{ti:Th}{pos':Pos}(hN:X.N.Nodup)(hi:X.N[i]? = some x)(hx:Loc X.env.scope x)(he:PE X e te)(ho:Wj X op ti)(hf:X.fn x=true\/X.env.scope.names.lookup x=some .local:=by first | exact .inl rfl | exact .inr rfl | assumption) :
  PS X (.AugAssign (.Name x pos') op e pos) (Wl i te ti):=by
 intro pins s σ H D I h
 obtain⟨v,e1,h⟩:=h
 obtain⟨m,hn,hl⟩:=I.loc
 have Wm:OE X.env.scope x:=by rcases hx with k | k;exact .inl k;exact .inr (.inl k)
 obtain⟨u,r,l⟩:=hl i x v hi e1 Wm
 refine wpAny_AugAssign_Name ?_
 have go:wpAny (model X.prog X.w) X.A (eval e X.env) (λ w s₂=>wpAny (model X.prog X.w) X.A (inplaceOp op u w) (λ r s₃=>wpAny (model X.prog X.w) X.A (storeName X.env x r) (λ _=>SP X pins D .next) X.xe s₃) X.xe s₂) X.xe s:=by
  refine lQ (he pins s σ H _ I h) λ w s1 ⟨y,H1,I1,r1,q1⟩=>?_
  refine lQ (ho pins s1 σ H1 v y u w _ I1 r r1 q1) λ z s2 ⟨zv,H2,I2,r2,q2⟩=>?_
  exact Ak I2 hN hi hx r2 (λ s3 I3=>⟨_,H2,I3,q2⟩) hf
 rcases l with ⟨hk,hm⟩ | ⟨hk,c,hc,hcell⟩
 ·exact wpAny_loadName_local I.ok.kind hk hn hm go
 ·rcases hk with hk | hk
  ·exact wpAny_loadName_cell I.ok.kind hk hc hcell go
  ·rcases hx with k | k
   ·have:X.env.scope.names.lookup x=some .free:=hk;rw[k] at this;cases this
   ·have:X.env.scope.names.lookup x=some .free:=hk;rw[k] at this;cases this
def T3(to ti te:TE)(OM:V->V->Hp->VK->Prop)(VJ:Th)(ON:LG):TS:=λ D σ H=>to σ H λ o H1=>ti σ H1 λ i H2=>OM o i H2 λ x H3=>te σ H3 λ y H4=>VJ x y H4 λ z H5=>ON o i z H5 λ H6=>D.nx σ H6
def T4(X:Cx)(t:V->V->Hp->VK->Prop):Prop:=
 ∀(pins:List (Addr×Obj)) (s:Shared) (σ:St) (H:Hp) (o i:V) (ov iv:Value) (Q:VK),Inv X pins σ H s->RelV o ov->RelV i iv->t o i H Q ->
  wpAny (model X.prog X.w) X.A (getItem ov iv) (EP X pins σ Q) X.xe s
theorem OO{o i e:Expr}{to ti te:TE}{OM:V->V->Hp->VK->Prop}{VJ:Th}{ON:LG}{op:Operator}{tpos:Pos}(ho:PE X o to)(hi:PE X i ti)(hg:T4 X OM)(he:PE X e te)(hp:Wj X op VJ)(hs:Rv X ON)
  (ha:∀ov iv new,augStore i ov iv new=(do holding [new,ov,iv] (setItem ov iv new);release [new,ov,iv] [];pure .next):=by intros;rfl):PS X (.AugAssign (.Subscript o i tpos) op e pos) (T3 to ti te OM VJ ON):=by
 intro pins s σ H D I h
 refine wpAny_AugAssign_SubscriptAny (lQ (ho pins s σ H _ I h) λ ov s1 ⟨x1,H1,I1,r1,q1⟩=>?_) ha
 refine lQ (hi pins s1 σ H1 _ I1 q1) λ iv s2 ⟨x2,H2,I2,r2,q2⟩=>?_
 refine lQ (hg pins s2 σ H2 x1 x2 ov iv _ I2 r1 r2 q2) λ old s3 ⟨x3,H3,I3,r3,q3⟩=>?_
 refine lQ (he pins s3 σ H3 _ I3 q3) λ v s4 ⟨x4,H4,I4,r4,q4⟩=>?_
 refine lQ (hp pins s4 σ H4 x3 x4 old v _ I4 r3 r4 q4) λ new s5 ⟨x5,H5,I5,r5,q5⟩=>?_
 exact lQ (hs pins s5 σ H5 x1 x2 x5 ov iv new _ I5 r1 r2 r5 q5) λ _ s6 ⟨H6,I6,q6⟩=>⟨σ,H6,I6,q6⟩
def Zb(f:Int->Int->Int):Th:=λ x y H Q=>∃i j,x=.int i/\y=.int j/\Q (.int (f i j)) H
theorem RA:Wj X .Sub (Zb λ i j=>i-j):=by
 intro pins s σ H x y v u Q I r1 r2 h
 obtain⟨i,j,e1,e2,q⟩:=h
 subst e1;subst e2
 obtain⟨t,rfl⟩:=r1
 obtain⟨t',rfl⟩:=r2
 exact isub_int ⟨.int _,H,I.tok _,⟨_,rfl⟩,q⟩
end
section
variable{X:Cx}{pos:Pos}
def RB(c:TT)(tb:TS):TS:=λ D σ H=>∃W:Nat->St->Hp->Prop,(∃m,W m σ H)/\∀m σ H,W m σ H ->
 c σ H λ b H1=>if b=true then ∃N:St->Hp->Prop,(∀σ' H',N σ' H'->∃m',m'<m/\W m' σ' H')/\tb { D with nx:=N,ct:=N,bk:=D.nx } σ H1 else D.nx σ H1
theorem mU{c:Expr}{body:List Stmt}{tc:TT}{tb:TS}(hp:PassesOwn (model X.prog X.w) X.A X.env X.xe)(hc:PT X c tc)(hb:Lz X body tb):PS X (.While c body [] pos) (RB tc tb):=by
 intro pins s σ H D I h
 obtain⟨W,⟨m0,w0⟩,turn⟩:=h
 refine wpAny_While (codeAny_whileLoop (λ n s'=>∃σ' H',Inv X pins σ' H' s'/\W n σ' H') ?_ m0 ⟨σ,H,I,w0⟩)
 rintro n s1 ⟨σ1,H1,I1,w1⟩
 refine wpAny_passesOwn hp (lQ (hc pins s1 σ1 H1 _ I1 (turn n σ1 H1 w1)) λ b s2 ⟨H2,I2,q2⟩=>?_)
 cases b with
 |true=>
  obtain⟨N,hN,q2⟩:=q2;rw[if_pos rfl];refine wpAny_passesOwn hp (lQ (hb pins s2 σ1 H2 _ I2 q2) λ f s3 q3=>?_)
  cases f with
  |next=>
   obtain⟨σ3,H3,I3,n3⟩:=q3;obtain⟨m',hm,w3⟩:=hN σ3 H3 n3;exact⟨m',hm,σ3,H3,I3,w3⟩
  |cont=>
   obtain⟨σ3,H3,I3,n3⟩:=q3;obtain⟨m',hm,w3⟩:=hN σ3 H3 n3;exact⟨m',hm,σ3,H3,I3,w3⟩
  |brk=>exact q3
  |ret v=>exact q3
 |false=>
  rw[if_neg aN];exact wpAny_execs_nil ⟨σ1,H2,I2,q2⟩
end
structure It where
 go:Nat->Hp->Prop
 LI:Nat->Hp->V->Hp->Prop
 stop:Nat->Hp->Prop
def zR(X:Cx)(pins:List (Addr×Obj))(H:Hp)(b:Addr):Prop:=
 H b=none/\b≠X.env.locals/\b ∉ X.fs/\(b∈X.ex\/X.Cq.heap.objs.size<=b)/\(∀x c,X.env.cells.lookup x=some c->c≠b)/\∀p∈X.pn++pins,p.1≠b
theorem Inv.LJ{X:Cx}{pins:List (Addr×Obj)}{σ:St}{H H':Hp}{s:Shared}{b:Addr}(I:Inv X pins σ H s)(hb:s.heap.objs.size<=b)(hn:H' b=none):zR X pins H' b:=by
 refine⟨hn,fi (aI I.lt hb),I.Wa hb,.inr (bf I.sz hb),λ x c e z=>?_,λ p hp z=>?_⟩
 ·obtain⟨v,q⟩:=I.cell x c e
  exact absurd (aI q.lt (by rw[z];exact hb)) (bJ _)
 ·exact absurd (aI (Heap.lt_size (I.pin p hp).1) (by rw[z];exact hb)) (bJ _)
structure Turn(P:Program)(w:World)(K:ai)(tg:Expr)(J:It)(fp:List Addr)(it:Addr)(tn:Nat->Heap->Prop):Prop where
 mem:it∈fp
 obj:∀i h,tn i h->∀b∈fp,∃o,h.get? b=some o/\∀v,o.data≠.cell v
 keep:∀i h h',tn i h->(∀b∈fp,∀o,h.get? b=some o->h'.get? b=some o)->tn i h'
 item:∀(X:Cx),X.prog=P->X.w=w->X.K=K->X.calm=true->∀(i:Nat) (pins:List (Addr×Obj)) (s:Shared) (σ:St) (H:Hp) (E:Value->Shared->Prop),Inv X pins σ H s->(∀b∈fp,zR X pins H b)->tn i s.heap->J.go i H ->
  wpAny (model P w) X.A (pyNext (.ref it)) (λ r s1=>∃u,r=some u /\
   wpAny (model P w) X.A (letOwnedTupleGo tg (.ref it) u) (λ _ s2=>∃x H',Inv X pins σ H' s2/\RelV x u/\J.LI i H x H'/\tn (i+1) s2.heap/\∀b∈fp,H' b=none) E s1) E s
 done:∀(X:Cx),X.prog=P->X.w=w->X.K=K->X.calm=true->∀(i:Nat) (pins:List (Addr×Obj)) (s:Shared) (σ:St) (H:Hp) (E:Value->Shared->Prop),Inv X pins σ H s->(∀b∈fp,zR X pins H b)->tn i s.heap->J.stop i H ->
  wpAny (model P w) X.A (pyNext (.ref it)) (λ r s1=>r=none/\Inv X pins σ H s1) E s
 self:∀(A:Around) (i:Nat) (s:Shared) (Q:Value->Shared->Prop) (E:Value->Shared->Prop),tn i s.heap->Q (.ref it) s->wpAny (model P w) A (pyIter (.ref it)) Q E s
abbrev TI:=St->Hp->(It->Hp->Prop)->Prop
def XU(X:Cx)(pins:List (Addr×Obj))(σ:St)(tg:Expr)(R:It->Hp->Prop)(itv:Value)(s2:Shared):Prop:=
 ∃(it:Addr) (fp:List Addr) (tn:Nat->Heap->Prop) (J:It) (H':Hp),itv=.ref it/\Inv X pins σ H' s2/\Turn X.prog X.w X.K tg J fp it tn/\tn 0 s2.heap/\(∀b∈fp,zR X pins H' b)/\R J H'
def PI(X:Cx)(tg iter:Expr)(wi:TI):Prop:=
 ∀(pins:List (Addr×Obj)) (s:Shared) (σ:St) (H:Hp) (R:It->Hp->Prop),Inv X pins σ H s->wi σ H R ->
  wpAny (model X.prog X.w) X.A (eval iter X.env) (λ v s1=>wpAny (model X.prog X.w) X.A (pyIter v) (XU X pins σ tg R) X.xe s1) X.xe s
theorem QI{M:Model}{A:Around}{E:Value->Shared->Prop}{s:Shared}{tg:Expr}{it:Addr}{u:Value}{o:Obj}{n:String}{vs:Array Value}{Q:Unit->Shared->Prop}(ho:s.heap.get? it=some o)(hc:o.cls=.type n)(hd:o.data=.fields vs)
  (hn:["enumerate","zip","dict_itemiterator","dict_reverseitemiterator","odict_iterator","itertools.zip_longest","itertools.pairwise"].contains n=false) (hQ:Q () s):wpAny M A (letOwnedTupleGo tg (.ref it) u) Q E s:=by
 unfold letOwnedTupleGo
 cases tg<;>first
  |exact wpAny_pure hQ
  | (cases u<;>first
    |exact wpAny_pure hQ
    | (refine wpAny_bind (wpAny_load ho ?_)
       rw[hc,hd];show wpAny M A (if (["enumerate","zip","dict_itemiterator","dict_reverseitemiterator","odict_iterator","itertools.zip_longest","itertools.pairwise"].contains n&&vs[0]? == some (rawInt _))=true then _ else _) Q E s;rw[if_neg (by intro h;rw[hn,Bool.false_and] at h;cases h)];exact wpAny_pure hQ))
def QJ(K:ai)(a:Addr):It:=
 ⟨λ i H=>∃xs x,jE K H a xs/\xs[i]? = some x,λ i H x H'=>H'=H/\∀xs,jE K H a xs->xs[i]? = some x,λ i H=>∃xs,jE K H a xs/\xs.length<=i⟩
def OP(lo:Int)(n:Nat):It:=⟨λ i _=>i<n,λ i H x H'=>H'=H/\x=.int (lo+i),λ i _=>n<=i⟩
theorem JD{P:Program}{w:World}{K:ai}{tg:Expr}(a it:Addr):Turn P w K tg (QJ K a) [it] it (λ i h=>h.IsListIter it a i) where
 mem:=by simp
 obj:=λ i h st b hb=>by
  have e:b=it:=by simpa using hb
  subst e;obtain⟨o,e,c,d⟩:=st;exact⟨o,e,λ v z=>by rw[d] at z;cases z⟩
 keep:=λ i h h' st k=>st.at λ o e=>k it (by simp) o e
 item:=by
  intro X hP hw hK hc i pins s σ H E I hf st hg;subst hP hw hK;obtain⟨xs,x,hq,hx⟩:=hg;obtain⟨its,rv,p,hz⟩:=I.list hq;obtain⟨u,hu,ru⟩:=rv.get hx;obtain⟨f0,f1,f2,f3,f4,f5⟩:=hf it (by simp);refine wpAny_pyNext_list_item st p.isList (x:=u) (by simpa using hu) λ h' st' sb=>?_
  have I1:Inv X pins σ H { s with heap:=h' }:=I.turned (t':=s.toks) (λ b o hb e=>(sb.2 b hb).trans e) f0 f1 f3 f4 f5;obtain⟨o,e,c,d⟩:=id st';exact⟨u,rfl,QI (s:={ s with heap:=h' }) e c d (by decide) ⟨x,H,I1,ru,⟨rfl,λ ys hy=>by rw[I.xA hy hq];exact hx⟩,st',λ b hb=>(hf b hb).1⟩⟩
 done:=by
  intro X hP hw hK hc i pins s σ H E I hf st hg;subst hP hw hK;obtain⟨xs,hq,hx⟩:=hg;obtain⟨its,rv,p,hz⟩:=I.list hq;obtain⟨f0,f1,f2,f3,f4,f5⟩:=hf it (by simp);have hl:=rv.length;exact wpAny_pyNext_list_end (I.ok.hd hc) st p.isList (by simp;omega) λ h' eb=>⟨rfl,I.turned (t':=s.toks) (λ b o hb e=>eb b o hb e) f0 f1 f3 f4 f5⟩
 self:=λ _ _ _ _ _ st h=>wpAny_pyIter_listiter st h
theorem GO{P:Program}{w:World}{K:ai}{tg:Expr}(it:Addr)(lo:Int)(n:Nat):Turn P w K tg (OP lo n) [it] it (λ i h=>IsRangeIter h it (lo+(i:Nat)*1) ((n:Int)-(i:Nat)) 1) where
 mem:=by simp
 obj:=λ i h st b hb=>by
  have e:b=it:=by simpa using hb
  subst e;exact⟨_,st,λ v z=>by
   have z':Data.fields _=Data.cell v:=z
   cases z'⟩
 keep:=λ i h h' st k=>k it (by simp) _ st
 item:=by
  intro X hP hw hK hc i pins s σ H E I hf st hg;subst hP hw hK;obtain⟨f0,f1,f2,f3,f4,f5⟩:=hf it (by simp);have W:=Walks.range (prog:=X.prog) (w:=X.w) (I.ok.hd hc) it lo 1 n;refine W.item i s _ _ hg st λ v h' tk hv st' kk=>?_
  obtain⟨t,rfl⟩:=hv;have I1:Inv X pins σ H { s with heap:=h',toks:=tk }:=I.turned (λ b o hb e=>kk b o (by simpa using hb) e) f0 f1 f3 f4 f5;refine⟨_,rfl,QI (s:={ s with heap:=h',toks:=tk }) (n:="range_iterator") st' rfl rfl (by decide) ⟨.int (lo+i),H,I1,⟨t,?_⟩,⟨rfl,rfl⟩,st',λ b hb=>(hf b hb).1⟩⟩;rw[Int.mul_one]
 done:=by
  intro X hP hw hK hc i pins s σ H E I hf st hg;subst hP hw hK;obtain⟨f0,f1,f2,f3,f4,f5⟩:=hf it (by simp);exact wpAny_pyNext_range_end (I.ok.hd hc) st (by have:n<=i:=hg;omega) λ h' eb=>⟨rfl,I.turned (t':=s.toks) (λ b o hb e=>eb b o hb e) f0 f1 f3 f4 f5⟩
 self:=λ _ _ _ _ _ st h=>wpAny_pyIter_rangeiter st h
end L2
namespace L2
open PySem PySem.Spec PyProof.Rows
section
variable{X:Cx}{tg:Expr}
def T5(K:ai)(tl:TE):TI:=λ σ H R=>tl σ H λ x H1=>∃a,x=.ref a/\(∃xs,jE K H1 a xs)/\R (QJ K a) H1
theorem lH{l:Expr}{tl:TE}(hl:PE X l tl):PI X tg l (T5 X.K tl):=by
 intro pins s σ H R I h
 refine lQ (hl pins s σ H _ I h) λ v s1 ⟨x,H1,I1,r1,q1⟩=>?_
 obtain⟨a,e,⟨xs,hq⟩,q⟩:=q1
 subst e
 cases r1
 obtain⟨its,rv,p,hz⟩:=I1.list hq
 refine wpAny_pyIter_list p.isList ?_
 refine⟨s1.heap.objs.size,[s1.heap.objs.size],_,_,H1,rfl,I1.kept (t':=s1.toks) λ b o e=>Heap.get?_push_of_some _ e,JD a _,⟨_,Heap.get?_push_size _ rfl,rfl,rfl⟩,λ b hb=>?_,q⟩
 have e:b=s1.heap.objs.size:=by simpa using hb
 subst e
 exact I1.LJ (aq _) (I1.hok.fresh (aq _))
theorem LK{pins:List (Addr×Obj)}{σ:St}{H:Hp}{s:Shared}{R:It->Hp->Prop}{E:Value->Shared->Prop}{lo hi:Int}{t u v:Tok}{tk:Nat}(I:Inv X pins σ H s)(h1:-(2^62)<=lo)(h2:lo<2^62)(h3:-(2^62)<=hi)(h4:hi<2^62)
  (q:R (OP lo (hi-lo).toNat) H):wpAny (model X.prog X.w) X.A (pyIter (.ref s.heap.objs.size)) (XU X pins σ tg R) E { s with heap:=s.heap.push { cls:=.type "range",data:=.fields #[.int lo t,.int hi u,.int 1 v] },toks:=tk }:=by
 refine wpAny_pyIter_range (IsRange.new ..) (small_one h1 h2 h3 h4) ?_
 have I1:Inv X pins σ H { s with heap:=s.heap.push { cls:=.type "range",data:=.fields #[.int lo t,.int hi u,.int 1 v] },toks:=tk }:=I.kept λ b o e=>Heap.get?_push_of_some _ e
 refine⟨(s.heap.push { cls:=.type "range",data:=.fields #[.int lo t,.int hi u,.int 1 v] }).objs.size,[(s.heap.push { cls:=.type "range",data:=.fields #[.int lo t,.int hi u,.int 1 v] }).objs.size],_,_,H,rfl,
  I1.kept (t':=tk) λ b o e=>Heap.get?_push_of_some _ e,GO _ lo (hi-lo).toNat,?_,λ b hb=>?_,q⟩
 ·have e1:lo+((0:Nat):Int)*1=lo:=by simp
  have e2:(((hi-lo).toNat:Nat):Int)-((0:Nat):Int)=Builtin.Range.rangeSize lo hi 1:=by rw[rangeSize_one];split<;>omega
  show IsRangeIter _ _ (lo+((0:Nat):Int)*1) ((((hi-lo).toNat:Nat):Int)-((0:Nat):Int)) 1;rw[e1,e2];exact Heap.get?_push_size _ rfl
 ·have e:b=(s.heap.push { cls:=.type "range",data:=.fields #[.int lo t,.int hi u,.int 1 v] }).objs.size:=by simpa using hb
  subst e;exact I1.LJ (aq _) (I1.hok.fresh (aq _))
def T7(ta:TA):TI:=λ σ H R=>ta σ H λ vs H1=>∃j:Int,vs=[.int j]/\-(2^62)<=j/\j<2^62/\R (OP 0 j.toNat) H1
theorem vA{a:Expr}{ta:TA}{p pos:Pos}(hg:Gl X "range")(hm:X.mg "range" = none)(ha:PA X [a] ta)(hs:starEach [a] X.env=[(false,eval a X.env)]:=by rfl):PI X tg (.Call (.Name "range" p) [a] [] pos) (T7 ta):=by
 intro pins s σ H R I h
 refine Call_ (wL I hg hm boot_range (PyProof.Rows.callWith_type1 (lQ (ha pos pins s σ H _ I h) λ us s1 ⟨vs,H1,I1,r1,q1⟩=>?_) hs rfl))
 obtain⟨j,e,q1,q2,q⟩:=q1
 subst e
 cases r1 with
 |cons r rr=>
  cases rr;obtain⟨t,rfl⟩:=r;exact call_range_1 (LK I1 (by omega) (by omega) q1 q2 (by simpa using q))
def Wn(wi:TI)(g:TG)(tb:TS):TS:=λ D σ H=>wi σ H λ J H1=>∃W:Nat->Nat->St->Hp->Prop,(∃m,W 0 m σ H1)/\∀i m σ H,W i m σ H ->
 (J.stop i H/\D.nx σ H)\/(J.go i H/\∃N:St->Hp->Prop,(∀σ' H',N σ' H'->∃m',m'<m/\W (i+1) m' σ' H')/\∀x H',J.LI i H x H'->g x σ H' λ σ2 H2=>tb { D with nx:=N,ct:=N,bk:=D.nx } σ2 H2)
def Am(fp:List Addr)(h:Heap):List (Addr×Obj):=fp.filterMap λ b=>(h.get? b).map λ o=>(b,o)
theorem wO{fp:List Addr}{h:Heap}{b:Addr}{o:Obj}(hb:b∈fp)(e:h.get? b=some o):(b,o)∈Am fp h:=eY.mpr ⟨b,hb,by rw[e];rfl⟩
theorem JE{fp:List Addr}{h:Heap}{p:Addr×Obj}(hp:p∈Am fp h):p.1∈fp/\h.get? p.1=some p.2:=by
 obtain⟨b,hb,e⟩:=eY.mp hp
 cases q:h.get? b with
 |none=>rw[q] at e;cases e
 |some o=>
  rw[q] at e;have e':(b,o)=p:=aS e;subst e';exact⟨hb,q⟩
theorem Inv.pinned{pins:List (Addr×Obj)}{σ:St}{H:Hp}{s:Shared}{fp:List Addr}(I:Inv X pins σ H s)(hf:∀b∈fp,zR X pins H b)(ho:∀b∈fp,∃o,s.heap.get? b=some o/\∀v,o.data≠.cell v):Inv X (pins++Am fp s.heap) σ H s:=
 I.HY λ p hp=>(br.mp hp).elim (λ z=>I.pin p (bG _ z)) λ z=>by
  obtain⟨hb,e⟩:=JE z;obtain⟨f0,f1,f2,_⟩:=hf p.1 hb;obtain⟨o,e',d⟩:=ho p.1 hb;rw[e] at e';cases e';exact⟨e,f0,f1,f2,d⟩
theorem Inv.xB{pins pl:List (Addr×Obj)}{σ:St}{H:Hp}{s:Shared}(I:Inv X (pins++pl) σ H s):Inv X pins σ H s:=I.HY λ p hp=>I.pin p (bG _ (fQ _ hp))
theorem qc{iter:Expr}{body:List Stmt}{wi:TI}{g:TG}{tb:TS}{pos:Pos}(hp:PassesOwn (model X.prog X.w) X.A X.env X.xe)(hc:X.calm=true)(hi:PI X tg iter wi)(hg:PG X tg g)(hb:Lz X body tb)
  (hs:∀x,foldedSetIterable iter X.env x=pure x:=by intro _;rfl):PS X (.For tg iter body [] pos) (Wn wi g tb):=by
 intro pins s σ H D I h
 refine wpAny_For (lQ (hi pins s σ H _ I h) λ v s1 h1=>lQ h1 λ itv s2 h2=>?_) hs
 obtain⟨it,fp,tn,J,H2,e,I2,T,st2,f2,W,⟨m0,w0⟩,turn⟩:=h2
 subst e
 have GP:∀{H':Hp},(∀b∈fp,H' b=none)->∀b∈fp,zR X pins H' b:=λ hn b hb=>⟨hn b hb,(f2 b hb).2⟩
 refine codeAny_forLoop_any (λ n s'=>∃i σ' H',Inv X pins σ' H' s'/\tn i s'.heap/\(∀b∈fp,H' b=none)/\W i n σ' H') ?_ m0 ⟨0,σ,H2,I2,st2,λ b hb=>(f2 b hb).1,w0⟩
 rintro n s3 ⟨i,σ3,H3,I3,st3,XW,w3⟩
 rcases turn i n σ3 H3 w3 with ⟨stop,qn⟩ | ⟨go,N,hN,step⟩
 ·refine wpAny_passesOwn hp (lQ (T.done X rfl rfl rfl hc i pins s3 σ3 H3 X.xe I3 (GP XW) st3 stop) λ r s4 ⟨hr,I4⟩=>?_)
  subst hr;exact wpAny_execs_nil ⟨σ3,H3,I4,qn⟩
 ·refine wpAny_passesOwn hp (lQ (T.item X rfl rfl rfl hc i pins s3 σ3 H3 X.xe I3 (GP XW) st3 go) λ r s4 ⟨u,hr,h4⟩=>?_)
  subst hr;refine wpAny_passesOwn hp (lQ h4 λ _ s5 ⟨x,H5,I5,r5,y5,Tn,Zc⟩=>?_);have Zd:=I5.pinned (GP Zc) (T.obj _ _ Tn);refine wpAny_passesOwn hp (lQ (hg _ s5 σ3 H5 x u _ Zd r5 (step x H5 y5)) λ _ s6 ⟨σ6,H6,I6,q6⟩=>?_);refine wpAny_passesOwn hp (lQ (hb _ s6 σ6 H6 _ I6 q6) λ f s7 q7=>?_);have again:∀{σ7:St} {H7:Hp},Inv X (pins++Am fp s5.heap) σ7 H7 s7->N σ7 H7->∃m,m<n/\∃i σ' H',Inv X pins σ' H' s7/\tn i s7.heap/\(∀b∈fp,H' b=none)/\W i m σ' H':=λ {σ7 H7} I7 n7=>by
   obtain⟨m',hm,w7⟩:=hN σ7 H7 n7;refine⟨m',hm,i+1,σ7,H7,I7.xB,T.keep _ _ _ Tn λ b hb o e=>(I7.pin (b,o) (bG _ (bG _ (wO hb e)))).1,λ b hb=>?_,w7⟩;obtain⟨o,e,d⟩:=T.obj _ _ Tn b hb;exact (I7.pin (b,o) (bG _ (bG _ (wO hb e)))).2.1
  cases f with
  |next=>obtain⟨σ7,H7,I7,n7⟩:=q7;exact again I7 n7
  |cont=>obtain⟨σ7,H7,I7,n7⟩:=q7;exact again I7 n7
  |brk=>obtain⟨σ7,H7,I7,q7⟩:=q7;exact⟨σ7,H7,I7.xB,q7⟩
  |ret v=>obtain⟨x7,σ7,H7,I7,r7,q7⟩:=q7;exact⟨x7,σ7,H7,I7.xB,r7,q7⟩
end
theorem xD{K:ai}{a:Addr}{xs:List V}{g:TG}{tb:TS}{D:Ends}{σ:St}{H:Hp}(Pv:Nat->St->Hp->Prop)(h0:Pv 0 σ H)(hl:∀i σ H,i<=xs.length->Pv i σ H->jE K H a xs)
  (hs:∀i x σ H,xs[i]? = some x->Pv i σ H->g x σ H λ σ2 H2=>tb { D with nx:=Pv (i+1),ct:=Pv (i+1),bk:=D.nx } σ2 H2) (hd:∀σ H,Pv xs.length σ H->D.nx σ H) :
  ∃W:Nat->Nat->St->Hp->Prop,(∃m,W 0 m σ H)/\∀i m σ H,W i m σ H ->
   ((QJ K a).stop i H/\D.nx σ H)\/((QJ K a).go i H/\∃N:St->Hp->Prop,(∀σ' H',N σ' H'->∃m',m'<m/\W (i+1) m' σ' H')/\∀x H',(QJ K a).LI i H x H'->g x σ H' λ σ2 H2=>tb { D with nx:=N,ct:=N,bk:=D.nx } σ2 H2):=by
 refine⟨λ i m σ H=>m=xs.length-i/\i<=xs.length/\Pv i σ H,⟨xs.length,by simp,aZ _,h0⟩,?_⟩
 rintro i m σ H ⟨rfl,hi,p⟩
 have q:=hl i σ H hi p
 by_cases hlt:i<xs.length
 ·refine .inr ⟨⟨xs,xs[i],q,by simp[hlt]⟩,Pv (i+1),λ σ' H' p'=>⟨xs.length-(i+1),by omega,rfl,hlt,p'⟩,λ x H' y=>?_⟩
  obtain⟨e,y⟩:=y;subst e;exact hs i x σ _ (y xs q) p
 ·have e:i=xs.length:=by omega
  subst e;exact .inl ⟨⟨xs,q,aq _⟩,hd σ H p⟩
theorem CW{lo:Int}{n:Nat}{g:TG}{tb:TS}{D:Ends}{σ:St}{H:Hp}(Pv:Nat->St->Hp->Prop)(h0:Pv 0 σ H)
  (hs:∀i σ H,i<n->Pv i σ H->g (.int (lo+i)) σ H λ σ2 H2=>tb { D with nx:=Pv (i+1),ct:=Pv (i+1),bk:=D.nx } σ2 H2) (hd:∀σ H,Pv n σ H->D.nx σ H) :
  ∃W:Nat->Nat->St->Hp->Prop,(∃m,W 0 m σ H)/\∀i m σ H,W i m σ H ->
   ((OP lo n).stop i H/\D.nx σ H)\/((OP lo n).go i H/\∃N:St->Hp->Prop,(∀σ' H',N σ' H'->∃m',m'<m/\W (i+1) m' σ' H')/\∀x H',(OP lo n).LI i H x H'->g x σ H' λ σ2 H2=>tb { D with nx:=N,ct:=N,bk:=D.nx } σ2 H2):=by
 refine⟨λ i m σ H=>m=n-i/\i<=n/\Pv i σ H,⟨n,by simp,aZ _,h0⟩,?_⟩
 rintro i m σ H ⟨rfl,hi,p⟩
 by_cases hlt:i<n
 ·refine .inr ⟨hlt,Pv (i+1),λ σ' H' p'=>⟨n-(i+1),by omega,rfl,hlt,p'⟩,λ x H' y=>?_⟩
  obtain⟨e,y⟩:=y;subst e y;exact hs i σ _ hlt p
 ·have e:i=n:=by omega
  subst e;exact .inl ⟨aq _,hd σ H p⟩
end L2
namespace L2
open PySem PySem.Spec PyProof.Rows
abbrev R2:=V->V->Hp->VK->Prop
def vB(X:Cx)(f:Value->Value->Sem Value)(r:R2):Prop:=
 ∀(pins:List (Addr×Obj)) (s:Shared) (σ:St) (H:Hp) (x y:V) (v u:Value) (Q:VK),Inv X pins σ H s->RelV x v->RelV y u->r x y H Q ->
  wpAny (model X.prog X.w) X.A (f v u) (EP X pins σ Q) X.xe s
def Wo(X:Cx)(f:Value->Sem Value)(r:V->Hp->VK->Prop):Prop:=
 ∀(pins:List (Addr×Obj)) (s:Shared) (σ:St) (H:Hp) (x:V) (v:Value) (Q:VK),Inv X pins σ H s->RelV x v->r x H Q ->
  wpAny (model X.prog X.w) X.A (f v) (EP X pins σ Q) X.xe s
def uv(X:Cx)(f:Value)(r:List V->Hp->VK->Prop):Prop:=
 ∀(pins:List (Addr×Obj)) (s:Shared) (σ:St) (H:Hp) (xs:List V) (us:List Value) (Q:VK),Inv X pins σ H s->Vals xs us->r xs H Q ->
  wpAny (model X.prog X.w) X.A (call f us) (EP X pins σ Q) X.xe s
def Wq(X:Cx)(r:V->Hp->(Bool->Hp->Prop)->Prop):Prop:=
 ∀(pins:List (Addr×Obj)) (s:Shared) (σ:St) (H:Hp) (x:V) (v:Value) (Q:Bool->Hp->Prop),Inv X pins σ H s->RelV x v->r x H Q ->
  wpAny (model X.prog X.w) X.A (truthy v) (TP X pins σ Q) X.xe s
def QK(r:R2)(ta tb:TE):TE:=λ σ H Q=>ta σ H λ x H1=>tb σ H1 λ y H2=>r x y H2 Q
def Ze(r:V->Hp->VK->Prop)(ta:TE):TE:=λ σ H Q=>ta σ H λ x H1=>r x H1 Q
def rI(C:Int->Int->Prop)(g:Int->Int->V):R2:=λ x y H Q=>∃i j,x=.int i/\y=.int j/\C i j/\Q (g i j) H
def GD(g:Int->Int->V):R2:=λ x y H Q=>∃i j,x=.int i/\y=.int j/\Q (g i j) H
def rU(g:Int->V):V->Hp->VK->Prop:=λ x H Q=>∃i,x=.int i/\Q (g i) H
section
variable{X:Cx}{a b c:Expr}{ta tb tc:TE}{pos:Pos}
theorem RC(ha:PE X a ta)(hb:PE X b tb){pins:List (Addr×Obj)}{s:Shared}{σ:St}{H:Hp}{R:V->V->Hp->Prop}(I:Inv X pins σ H s)
  (h:ta σ H λ x H1=>tb σ H1 λ y H2=>R x y H2) {Q:Value->Shared->Prop} {f:Value->Value->Sem Value}
  (hf:∀v u s2 x y H2,Inv X pins σ H2 s2->RelV x v->RelV y u->R x y H2->wpAny (model X.prog X.w) X.A (f v u) Q X.xe s2) :
  wpAny (model X.prog X.w) X.A (eval a X.env) (λ v s₁=>wpAny (model X.prog X.w) X.A (eval b X.env) (λ u s₂=>wpAny (model X.prog X.w) X.A (f v u) Q X.xe s₂) X.xe s₁) X.xe s:=by
 refine lQ (ha pins s σ H _ I h) λ v s1 ⟨x,H1,I1,r1,q1⟩=>?_
 refine lQ (hb pins s1 σ H1 _ I1 q1) λ u s2 ⟨y,H2,I2,r2,q2⟩=>?_
 exact hf v u s2 x y H2 I2 r1 r2 q2
theorem kB{op:Operator}{r:R2}(ho:vB X (binaryOp op) r)(ha:PE X a ta)(hb:PE X b tb):PE X (.BinOp a op b pos) (QK r ta tb):=by
 intro pins s σ H Q I h
 exact wpAny_BinOp (RC ha hb I h λ v u s2 x y H2 I2 rx ry q=>ho pins s2 σ H2 x y v u Q I2 rx ry q)
theorem E2{op:UnaryOp}{r:V->Hp->VK->Prop}(ho:Wo X (unaryOp op) r)(ha:PE X a ta):PE X (.UnaryOp op a pos) (Ze r ta):=by
 intro pins s σ H Q I h
 exact UnaryOp_ (lQ (ha pins s σ H _ I h) λ v s1 ⟨x,H1,I1,r1,q1⟩=>ho pins s1 σ H1 x v Q I1 r1 q1)
theorem RD{f:Value->Value->Sem Value}{C:Int->Int->Prop}{g:Int->Int->Int}
  (rule:∀(i j:Int) (t u:Tok) (s:Shared) (Q:Value->Shared->Prop) (E:Value->Shared->Prop),C i j->Q (.int (g i j) s.toks) { s with toks:=s.toks+1 }->wpAny (model X.prog X.w) X.A (f (.int i t) (.int j u)) Q E s) :
  vB X f (rI C λ i j=>.int (g i j)):=by
 intro pins s σ H x y v u Q I rx ry h
 obtain⟨i,j,rfl,rfl,hc,q⟩:=h
 obtain⟨t,rfl⟩:=rx
 obtain⟨t',rfl⟩:=ry
 exact rule i j t t' s _ _ hc ⟨.int (g i j),H,I.tok _,⟨_,rfl⟩,q⟩
theorem RE{f:Value->Value->Sem Value}{g:Int->Int->Int}
  (rule:∀(i j:Int) (t u:Tok) (s:Shared) (Q:Value->Shared->Prop) (E:Value->Shared->Prop),Q (.int (g i j) s.toks) { s with toks:=s.toks+1 }->wpAny (model X.prog X.w) X.A (f (.int i t) (.int j u)) Q E s) :
  vB X f (GD λ i j=>.int (g i j)):=by
 intro pins s σ H x y v u Q I rx ry h
 obtain⟨i,j,rfl,rfl,q⟩:=h
 obtain⟨t,rfl⟩:=rx
 obtain⟨t',rfl⟩:=ry
 exact rule i j t t' s _ _ ⟨.int (g i j),H,I.tok _,⟨_,rfl⟩,q⟩
theorem OQ{f:Value->Value->Sem Value}{g:Int->Int->Bool}
  (rule:∀(i j:Int) (t u:Tok) (s:Shared) (Q:Value->Shared->Prop) (E:Value->Shared->Prop),Q (.bool (g i j)) s->wpAny (model X.prog X.w) X.A (f (.int i t) (.int j u)) Q E s) :
  vB X f (GD λ i j=>.bl (g i j)):=by
 intro pins s σ H x y v u Q I rx ry h
 obtain⟨i,j,rfl,rfl,q⟩:=h
 obtain⟨t,rfl⟩:=rx
 obtain⟨t',rfl⟩:=ry
 exact rule i j t t' s _ _ ⟨.bl (g i j),H,I,rfl,q⟩
def Ua(i j:Int):Prop:=0<j/\j<1073741824
def RG(i j:Int):Prop:=(-(2^64)<i/\i<2^64)\/(-(2^64)<j/\j<2^64)
theorem RG.ok{i j:Int}(h:RG i j):IntMulOk i j:=by
 rcases h with ⟨h1,h2⟩ | ⟨h1,h2⟩
 ·exact .of_left (intBits_le_64 h1 h2)
 ·exact .of_right (intBits_le_64 h1 h2)
theorem GQ(k:Nat):(0:Int)<=2^k:=by
 rw[two_pow_cast]
 exact Int.natCast_nonneg _
theorem An:vB X (binaryOp .Add) (GD λ i j=>.int (i+j)):=RE λ _ _ _ _ _ _ _ q=>add_int q
theorem D6:vB X (binaryOp .Sub) (GD λ i j=>.int (i-j)):=RE λ _ _ _ _ _ _ _ q=>sub_int q
theorem uw:vB X (binaryOp .Mult) (rI RG λ i j=>.int (i*j)):=RD λ _ _ _ _ _ _ _ hc q=>mul_int q hc.ok
theorem VL:vB X (binaryOp .FloorDiv) (rI Ua λ i j=>.int (i/j)):=RD λ i j _ _ _ _ _ hc q=>by
 have h1:(0:Int)<j:=hc.1
 have h2:j<1073741824:=hc.2
 exact floordiv_int (by omega) (by rw[cO i (by omega)];exact q) (.inl (PyProof.noPylong_small (by omega)))
theorem GR:vB X (binaryOp .Mod) (rI (λ _ j=>0<j) λ i j=>.int (i%j)):=RD λ i j _ _ _ _ _ hc q=>by
 have h1:(0:Int)<j:=hc
 exact mod_int' (by omega) (by rw[Int.fmod_eq_emod_of_nonneg i (by omega)];exact q)
theorem LL:vB X (binaryOp .RShift) (rI (λ _ j=>0<=j) λ i j=>.int (i/2^j.toNat)):=RD λ i j _ _ _ _ _ hc q=>
 rshift_int hc (by rw[cO i (GQ _)];exact q)
theorem RH:vB X (binaryOp .BitAnd) (GD λ i j=>.int (Builtin.bitAnd i j)):=RE λ _ _ _ _ _ _ _ q=>and_int q
theorem LM:vB X (inplaceOp .FloorDiv) (rI Ua λ i j=>.int (i/j)):=RD λ i j _ _ _ _ _ hc q=>by
 have h1:(0:Int)<j:=hc.1
 have h2:j<1073741824:=hc.2
 exact ifloordiv_int (by omega) (by rw[cO i (by omega)];exact q) (.inl (PyProof.noPylong_small (by omega)))
theorem Zf{f:Value->Sem Value}{g:Int->Int}
  (rule:∀(i:Int) (t:Tok) (s:Shared) (Q:Value->Shared->Prop) (E:Value->Shared->Prop),Q (.int (g i) s.toks) { s with toks:=s.toks+1 }->wpAny (model X.prog X.w) X.A (f (.int i t)) Q E s) :
  Wo X f (rU λ i=>.int (g i)):=by
 intro pins s σ H x v Q I rx h
 obtain⟨i,rfl,q⟩:=h
 obtain⟨t,rfl⟩:=rx
 exact rule i t s _ _ ⟨.int (g i),H,I.tok _,⟨_,rfl⟩,q⟩
theorem Ao:Wo X (unaryOp .USub) (rU λ i=>.int (-i)):=Zf λ _ _ _ _ _ q=>neg_int q
end
def Ub:V->V->Bool
 |.pZ,.pZ=>true | .pZ,.int _=>true | .int _,.pZ=>true | .pZ,.bl _=>true | .bl _,.pZ=>true | .pZ,.str _=>true | .str _,.pZ=>true
 |.int _,.int _=>true | .bl _,.bl _=>true | .str _,.str _=>true | .HX _,.HX _=>true
 |.int _,.str _=>true | .str _,.int _=>true | .bl _,.str _=>true | .str _,.bl _=>true
 |_,_=>false
def Zg:R2:=λ x y H Q=>Ub x y=true/\Q (.bl (decide (x=y))) H
def Zh:R2:=λ x y H Q=>Ub x y=true/\Q (.bl (!decide (x=y))) H
theorem mq{i j:Int}:decide (V.int i=V.int j)=(i==j):=by
 rw[aT]
 simp
theorem LN{i j:Bool}:decide (V.bl i=V.bl j)=(i==j):=by
 rw[aT]
 simp
theorem Ia{i j:Str}:decide (V.str i=V.str j)=(i==j):=by
 rw[aT]
 simp
theorem Ib{i j:Array UInt8}:decide (V.HX i=V.HX j)=(i.toList==j.toList):=by
 rw[aT]
 cases i
 cases j
 simp
section
variable{X:Cx}{a b c:Expr}{ta tb tc:TE}{pos:Pos}
theorem jZ{pins:List (Addr×Obj)}{σ:St}{H:Hp}{s:Shared}{Q:VK}{k k':Bool}(I:Inv X pins σ H s)(q:Q (.bl k) H)(e:k=k'):EP X pins σ Q (.bool k') s:=by
 subst e
 exact⟨.bl k,H,I,rfl,q⟩
theorem Aq:vB X (compareOp .Eq) Zg:=by
 intro pins s σ H x y v u Q I rx ry h
 obtain⟨hs,q⟩:=h
 cases x with
 |pZ=>
  cases rx
  cases y with
  |pZ=>cases ry;exact PySem.EqNone.eq_none_none (jZ I q (by simp))
  |bl j=>cases ry;exact PySem.EqNone.eq_none_bool (jZ I q (by simp))
  |int j=>obtain⟨t',rfl⟩:=ry;exact PySem.EqNone.eq_none_int (jZ I q (by simp))
  |str j=>obtain⟨t',rfl⟩:=ry;exact PySem.EqNone.eq_none_str (jZ I q (by simp))
  |_=>exact absurd (show false=true from hs) aN
 |bl i=>
  cases rx
  cases y with
  |pZ=>cases ry;exact PySem.EqNone.eq_bool_none (jZ I q (by simp))
  |bl j=>cases ry;exact eq_bool (jZ I q LN)
  |str j=>obtain⟨t',rfl⟩:=ry;exact PySem.EqMixed.eq_bool_str (jZ I q (by simp))
  |_=>exact absurd (show false=true from hs) aN
 |int i=>
  obtain⟨t,rfl⟩:=rx
  cases y with
  |pZ=>cases ry;exact PySem.EqNone.eq_int_none (jZ I q (by simp))
  |int j=>obtain⟨t',rfl⟩:=ry;exact eq_int (jZ I q mq)
  |str j=>obtain⟨t',rfl⟩:=ry;exact PySem.EqMixed.eq_int_str (jZ I q (by simp))
  |_=>exact absurd (show false=true from hs) aN
 |str i=>
  obtain⟨t,rfl⟩:=rx
  cases y with
  |pZ=>cases ry;exact PySem.EqNone.eq_str_none (jZ I q (by simp))
  |bl j=>cases ry;exact PySem.EqMixed.eq_str_bool (jZ I q (by simp))
  |int j=>obtain⟨t',rfl⟩:=ry;exact PySem.EqMixed.eq_str_int (jZ I q (by simp))
  |str j=>obtain⟨t',rfl⟩:=ry;exact eq_str (jZ I q Ia)
  |_=>exact absurd (show false=true from hs) aN
 |HX i=>
  obtain⟨t,rfl⟩:=rx
  cases y with
  |HX j=>obtain⟨t',rfl⟩:=ry;exact PySem.W.eq_bytes (jZ I q Ib)
  |_=>exact absurd (show false=true from hs) aN
 |_=>cases y<;>exact absurd (show false=true from hs) aN
theorem CY:vB X (compareOp .NotEq) Zh:=by
 intro pins s σ H x y v u Q I rx ry h
 obtain⟨hs,q⟩:=h
 cases x with
 |pZ=>
  cases rx
  cases y with
  |pZ=>cases ry;exact PySem.EqNone.ne_none_none (jZ I q (by simp))
  |bl j=>cases ry;exact PySem.EqNone.ne_none_bool (jZ I q (by simp))
  |int j=>obtain⟨t',rfl⟩:=ry;exact PySem.EqNone.ne_none_int (jZ I q (by simp))
  |str j=>obtain⟨t',rfl⟩:=ry;exact PySem.EqNone.ne_none_str (jZ I q (by simp))
  |_=>exact absurd (show false=true from hs) aN
 |bl i=>
  cases rx
  cases y with
  |pZ=>cases ry;exact PySem.EqNone.ne_bool_none (jZ I q (by simp))
  |bl j=>cases ry;exact ne_bool (jZ I q (congrArg not LN))
  |str j=>obtain⟨t',rfl⟩:=ry;exact PySem.EqMixed.ne_bool_str (jZ I q (by simp))
  |_=>exact absurd (show false=true from hs) aN
 |int i=>
  obtain⟨t,rfl⟩:=rx
  cases y with
  |pZ=>cases ry;exact PySem.EqNone.ne_int_none (jZ I q (by simp))
  |int j=>obtain⟨t',rfl⟩:=ry;exact ne_int (jZ I q (congrArg not mq))
  |str j=>obtain⟨t',rfl⟩:=ry;exact PySem.EqMixed.ne_int_str (jZ I q (by simp))
  |_=>exact absurd (show false=true from hs) aN
 |str i=>
  obtain⟨t,rfl⟩:=rx
  cases y with
  |pZ=>cases ry;exact PySem.EqNone.ne_str_none (jZ I q (by simp))
  |bl j=>cases ry;exact PySem.EqMixed.ne_str_bool (jZ I q (by simp))
  |int j=>obtain⟨t',rfl⟩:=ry;exact PySem.EqMixed.ne_str_int (jZ I q (by simp))
  |str j=>obtain⟨t',rfl⟩:=ry;exact ne_str (jZ I q (congrArg not Ia))
  |_=>exact absurd (show false=true from hs) aN
 |HX i=>
  obtain⟨t,rfl⟩:=rx
  cases y with
  |HX j=>obtain⟨t',rfl⟩:=ry;exact PySem.W.ne_bytes (jZ I q (congrArg not Ib))
  |_=>exact absurd (show false=true from hs) aN
 |_=>cases y<;>exact absurd (show false=true from hs) aN
theorem LO:vB X (compareOp .Lt) (GD λ i j=>.bl (decide (i<j))):=OQ λ _ _ _ _ _ _ _ q=>lt_int q
theorem nN:vB X (compareOp .LtE) (GD λ i j=>.bl (decide (i<=j))):=OQ λ _ _ _ _ _ _ _ q=>le_int q
theorem Uc:vB X (compareOp .Gt) (GD λ i j=>.bl (decide (j<i))):=OQ λ _ _ _ _ _ _ _ q=>gt_int q
theorem QL:vB X (compareOp .GtE) (GD λ i j=>.bl (decide (j<=i))):=OQ λ _ _ _ _ _ _ _ q=>ge_int q
theorem kC(b:Expr){op:CmpOp}(h:op≠.In:=by decide)(h2:op≠.NotIn:=by decide):behindInMarks op b=false:=by
 have e1:(op==CmpOp.In)=false:=by cases op<;>first | rfl | exact absurd rfl h
 have e2:(op==CmpOp.NotIn)=false:=by cases op<;>first | rfl | exact absurd rfl h2
 cases b<;>simp[behindInMarks,e1,e2]
theorem nO{op:CmpOp}{r:R2}(ho:vB X (compareOp op) r)(ha:PE X a ta)(hb:PE X b tb)(hm:behindInMarks op b=false):PE X (.Compare a [op] [b] pos) (QK r ta tb):=by
 intro pins s σ H Q I h
 exact wpAny_Compare1 (RC ha hb I h λ v u s2 x y H2 I2 rx ry q=>ho pins s2 σ H2 x y v u Q I2 rx ry q) hm
def LP(t:TE):TT:=λ σ H Q=>t σ H λ x H'=>∃k,x=.bl k/\Q k H'
theorem lU{op:CmpOp}{r:R2}(ho:vB X (compareOp op) r)(ha:PE X a ta)(hb:PE X b tb)(hm:behindInMarks op b=false):PT X (.Compare a [op] [b] pos) (LP (QK r ta tb)):=by
 intro pins s σ H Q I h
 refine wpAny_isTrue_Compare1 (lQ (ha pins s σ H _ I h) λ v s1 ⟨x,H1,I1,r1,q1⟩=>lQ (hb pins s1 σ H1 _ I1 q1) λ u s2 ⟨y,H2,I2,r2,q2⟩=>
  lQ (ho pins s2 σ H2 x y v u _ I2 r1 r2 q2) λ c s3 ⟨z,H3,I3,r3,k,e,q3⟩=>?_) hm
 subst e
 cases r3
 exact wpAny_truthy_bool ⟨H3,I3,q3⟩
def D7(r r':R2)(ta tb tc:TE):TE:=λ σ H Q=>ta σ H λ x H1=>tb σ H1 λ y H2=>r x y H2 λ z H3=>∃k,z=.bl k /\
 (if k=true then tc σ H3 λ w' H4=>r' y w' H4 Q else Q (.bl false) H3)
theorem rK{op op':CmpOp}{r r':R2}(ho:vB X (compareOp op) r)(ho':vB X (compareOp op') r')(ha:PE X a ta)(hb:PE X b tb)(hc:PE X c tc)
  (hm:lastMarks [op,op'] [b,c]=false:=by with_unfolding_all rfl):PE X (.Compare a [op,op'] [b,c] pos) (D7 r r' ta tb tc):=by
 intro pins s σ H Q I h
 refine Compare_chain (lQ (ha pins s σ H _ I h) λ v s1 ⟨x,H1,I1,r1,q1⟩=>chain_link (lQ (hb pins s1 σ H1 _ I1 q1) λ u s2 ⟨y,H2,I2,r2,q2⟩=>
  lQ (ho pins s2 σ H2 x y v u _ I2 r1 r2 q2) λ d s3 ⟨z,H3,I3,r3,k,e,q3⟩=>?_)) hm
 subst e
 cases r3
 refine wpAny_truthy_bool ?_
 cases k with
 |false=>exact ite_ff ⟨.bl false,H3,I3,rfl,q3⟩
 |true=>exact ite_tt (chain_last (lQ (hc pins s3 σ H3 _ I3 q3) λ w' s4 ⟨z',H4,I4,r4,q4⟩=>ho' pins s4 σ H4 y z' u w' Q I4 r2 r4 q4))
theorem LQ{op op':CmpOp}{r r':R2}(ho:vB X (compareOp op) r)(ho':vB X (compareOp op') r')(ha:PE X a ta)(hb:PE X b tb)(hc:PE X c tc)
  (hm:lastMarks [op,op'] [b,c]=false:=by with_unfolding_all rfl):PT X (.Compare a [op,op'] [b,c] pos) (LP (D7 r r' ta tb tc)):=by
 intro pins s σ H Q I h
 refine isTrue_chain (lQ (ha pins s σ H _ I h) λ v s1 ⟨x,H1,I1,r1,q1⟩=>test_link (lQ (hb pins s1 σ H1 _ I1 q1) λ u s2 ⟨y,H2,I2,r2,q2⟩=>
  lQ (ho pins s2 σ H2 x y v u _ I2 r1 r2 q2) λ d s3 ⟨z,H3,I3,r3,k,e,q3⟩=>?_)) hm
 subst e
 cases r3
 refine wpAny_truthy_bool ?_
 cases k with
 |false=>
  obtain⟨k',e',q'⟩:=q3
  cases e';exact ite_ff ⟨H3,I3,q'⟩
 |true=>
  refine ite_tt (test_last (lQ (hc pins s3 σ H3 _ I3 q3) λ w' s4 ⟨z',H4,I4,r4,q4⟩=>lQ (ho' pins s4 σ H4 y z' u w' _ I4 r2 r4 q4) λ d' s5 ⟨z2,H5,I5,r5,k2,e2,q5⟩=>?_));subst e2
  cases r5;exact wpAny_truthy_bool ⟨H5,I5,q5⟩
def OR(K:ai)(x:V)(H:Hp)(k:Bool):Prop:=
 match x with
 |.pZ=>k=false
 |.bl b=>k=b
 |.int i=>k=(i != 0)
 |.str y=>y.length<=sizeLine/\k=((y.length:Int) != 0)
 |.HX y=>y.size<=sizeLine/\k=((y.size:Int) != 0)
 |.ref p=>(∃xs,jE K H p xs/\k = !xs.isEmpty)\/(∃xs,rH K H p xs/\k = !xs.isEmpty)\/∃kvs,H p=some (.dK kvs)/\k = !kvs.isEmpty
 |_=>False
theorem GS{κ:Type}{kvs:List (κ×V)}{vs:List (κ×Value)}(r:KV kvs vs):(!vs.isEmpty) = !kvs.isEmpty:=by
 cases r<;>rfl
theorem Ar{xs:List V}{its:List Value}(r:Vals xs its):(!its.toArray.isEmpty) = !xs.isEmpty:=by
 cases r<;>simp
theorem As:(sizeLine:Nat)<2^63:=by rw[sizeLine_eq];decide
theorem RI:Wq X (λ x H Q=>∃k,OR X.K x H k/\Q k H):=by
 intro pins s σ H x v Q I rx h
 obtain⟨k,e,q⟩:=h
 have hl:=As
 have hs:sizeLine=16777216:=sizeLine_eq
 cases x with
 |pZ=>
  cases rx;have e':k=false:=e;subst e';exact truthy_none ⟨H,I,q⟩
 |bl b=>
  cases rx;have e':k=b:=e;subst e';exact wpAny_truthy_bool ⟨H,I,q⟩
 |int i=>
  obtain⟨t,rfl⟩:=rx;have e':k=(i != 0):=e;subst e';exact iN ⟨H,I,q⟩
 |str y=>
  obtain⟨t,rfl⟩:=rx;obtain⟨hy,e'⟩:y.length<=sizeLine/\k=((y.length:Int) != 0):=e;subst e';exact PySem.P.truthy_str (by omega) ⟨H,I.tok _,q⟩
 |HX y=>
  obtain⟨t,rfl⟩:=rx;obtain⟨hy,e'⟩:y.size<=sizeLine/\k=((y.size:Int) != 0):=e;subst e';exact PySem.W.truthy_bytes (by omega) ⟨H,I.tok _,q⟩
 |ref p=>
  cases rx;have e':(∃xs,jE X.K H p xs/\k = !xs.isEmpty)\/(∃xs,rH X.K H p xs/\k = !xs.isEmpty)\/∃kvs,H p=some (.dK kvs)/\k = !kvs.isEmpty:=e
  rcases e' with ⟨xs,hx,e'⟩ | ⟨xs,hx,e'⟩ | ⟨kvs,hx,e'⟩
  ·subst e';obtain⟨its,r,pl,hz⟩:=I.list hx;have hlen:=r.length;exact wpAny_truthy_list pl.isList (by simp only[aC];omega) ⟨H,I.tok _,by rw[Ar r];exact q⟩
  ·subst e';obtain⟨its,r,pl,hz⟩:=I.tuple hx;have hlen:=r.length;exact truthy_tuple pl (by simp only[aC];omega) ⟨H,I.tok _,by rw[Ar r];exact q⟩
  ·subst e';obtain⟨hz,hS,vs,r,m⟩:kvs.length<=sizeLine/\(p==sysModules)=false/\∃vs,KV kvs vs/\s.heap.DictOf (kX X.prog X.w) p vs:=I.hok p _ hx;have hlen:kvs.length=vs.length:=Paired.length r;exact wpAny_truthy_dict hS m (by omega) ⟨H,I.tok _,by rw[GS r];exact q⟩
 |_=>exact (show False from e).elim
theorem LR(ha:PE X a ta)(he:∀whole,isTrue a X.env whole=(do let v <-whole;standAt a.pos;holding [v] (truthy v))) :
  PT X a (λ σ H Q=>ta σ H λ x H'=>∃k,OR X.K x H' k/\Q k H'):=by
 intro pins s σ H Q I h
 exact isTrue_plain (lQ (ha pins s σ H _ I h) λ v s1 ⟨x,H1,I1,r1,q1⟩=>RI pins s1 σ H1 x v Q I1 r1 q1) (he _)
theorem vals1{x:V}{us:List Value}(r:Vals [x] us):∃u,us=[u]/\RelV x u:=by
 cases r with
 |cons r1 r2=>cases r2;exact⟨_,rfl,r1⟩
theorem LS:uv X (.builtin "abs") (λ xs H Q=>∃i,xs=[.int i]/\Q (.int (if i<0 then -i else i)) H):=by
 intro pins s σ H xs us Q I r h
 obtain⟨i,rfl,q⟩:=h
 obtain⟨u,rfl,t,rfl⟩:=vals1 r
 exact call_abs_int λ u tk=>⟨.int (if i<0 then -i else i),H,I.tok _,⟨_,rfl⟩,q⟩
end
end L2
namespace L2
open PySem PySem.Spec PyProof.Rows
structure GU(h:Heap)(x dx C:Addr)(mA:Str->Option Value):Prop where
 obj:h.get? x=some (cI C dx)
 ns:h.Ns1 dx mA
 ne:dx≠x
theorem JF{h:Heap}{dx:Addr}{mA:Str->Option Value}(n:h.Ns1 dx mA):∃od,h.get? dx=some od/\∀name,gh name od=some (mA name):=by
 obtain⟨o,es,ep,ho,hd,hk,_,hm⟩:=n
 refine⟨o,ho,λ name=>?_⟩
 have e:=hm name
 unfold nsFind findBy at e
 rw[<-Array.find?_toList] at e
 unfold gh
 rw[hd]
 dsimp only
 split
 ·rename_i y q
  rw[q] at e;exact congrArg some e
 ·rename_i q
  rw[q] at e;have a:es.toList.any (·.refKey)=false:=by
   rw[List.any_eq_false];intro y hy;obtain⟨z,t,hkey⟩:=hk y (Array.mem_toList_iff.mp hy);simp[DictEntry.refKey,hkey]
  have a':¬es.toList.any (·.refKey)=true:=by rw[a];exact aN
  rw[if_neg a'];exact congrArg some e
theorem GU.look{h:Heap}{x dx C:Addr}{mA:Str->Option Value}(I:GU h x dx C mA):∃od,PySem.W.InstAt h x (cI C dx) C (some od)/\∀name,gh name od=some (mA name):=
 let ⟨od,ho,hl⟩:=JF I.ns
 ⟨od,⟨I.obj,rfl,rfl,ho⟩,hl⟩
section
variable{prog:Program}{w:World}{A:Around}{E:Value->Shared->Prop}{s:Shared}{K:ai}{x dx C f:Addr}{mA:Str->Option Value}{name:Str}{v:Value}
theorem get_map{expr:Bool}{Q:Value->Shared->Prop}(X:K.In s.heap)(I:GU s.heap x dx C mA)(hg:fH K C name=true)(hh:gB K C=true)
  (ha:cE K (.ref C) name=some none) (hv:mA name=some v) (hv':iY v=true) (h:Q v { s with toks:=s.toks+1 }) :
  wpAny (model prog w) A (getAttr (.ref x) name expr) Q E s:=by
 obtain⟨od,J,hl⟩:=I.look
 exact PySem.W.get_value X J (f6 hg).1 (PySem.W.findObj_own hh ha rfl (by rw[hl,hv])) hv' h
theorem LU{pl:Sem Bool}{Q:Value×List Value->Shared->Prop}(X:K.In s.heap)(I:GU s.heap x dx C mA)(hg:fH K C name=true)
  (hf:cE K (.ref C) name=some (some (.ref f))) (ht:iQ K (.ref f)=true) (hv:mA name=none) (h:Q (.ref f,[.ref x]) s) :
  wpAny (model prog w) A (getMethod (.ref x) name pl) Q E s:=by
 obtain⟨od,J,hl⟩:=I.look
 exact PySem.W.method_fn X J (f6 hg).1 (f6 hg).2 hf (beq_iff_eq.mp ht) (by show (gh name od).map (·.isSome)=some false;rw[hl,hv];rfl) h
theorem OS{ns:List Str}{Q:Unit->Shared->Prop}(X:K.In s.heap)(I:GU s.heap x dx C mA)
  (hs:cE K (.ref C) "__setattr__" = some (some (.builtin "object.__setattr__"))) (hp:iR K C=true) (ht:g6 K C name=some none) (hh:gB K C=true)
  (hw:PySem.Within mA ns) (hsz:ns.length<=sizeLine)
  (h:∀h',GU h' x dx C (λ y=>if y=name then some v else mA y)->Heap.SameBut dx s.heap h'->Q () { s with heap:=h',toks:=s.toks+2 }) :
  wpAny (model prog w) A (setAttr (.ref x) name v) Q E s:=by
 obtain⟨od,J,hl⟩:=I.look
 refine PySem.W.set_plain X J hs (PySem.W.osa_open (s:={ s with toks:=s.toks+1 }) (r:=none) X J hp ht λ b=>?_)
 obtain⟨cd,hc,hd'⟩:=PySem.W.any_some hh
 have hx:s.heap.get? x=some ⟨.ref C,some dx,.plain,#[]⟩:=I.obj
 refine wpAny_bind (wpAny_pure (wpAny_bind (wpAny_bind (wpAny_loadPart hx (wpAny_bind (PySem.W.Looks.here (s:={ s with toks:=s.toks+1 }) (PySem.W.looks_clsIn X hc) ?_))))))
 rw[hd']
 refine wpAny_pure (a:=some dx) (wpAny_bind (wpAny_pure (wpAny_bind ?_)))
 refine wpAny_nsSet1 (s:={ s with toks:=s.toks+1 }) I.ns λ h' hn2 hs2=>?_
 obtain⟨oD,esD,epD,Zi,Zj,Zk⟩:=hn2.count (PySem.Within.cons name v hw)
 refine wpAny_bind (wpAny_lookBehind Zi (by rw[Zj];exact pastItsLine_dict (bf Zk (by rw[aK];omega))) ?_)
 exact wpAny_pure (h _ ⟨(hs2.2 _ (Ne.symm I.ne)).trans I.obj,hn2,I.ne⟩ hs2)
theorem LV{R:Result->Shared->Prop}{vs:List Value}{kw:List (Str×Value)}(X:K.In s.heap)(hm:g7 K C=true)
  (hi:cE K (.ref C) "__init__" = some (some (.ref f))) (hf:PySem.W.typeIn K (.ref f)=some (.type "function"))
  (h:codeAny (model prog w) (A.under (.builtin "type.__call__" ⟨.ref C::vs,kw⟩)) (.call (.ref f) ⟨.ref (s.heap.objs.size+1)::vs,kw⟩) (PySem.W.InitBack (s.heap.objs.size+1) R)
   { s with heap:=(s.heap.push bV).push (cI C s.heap.objs.size) }) :
  codeAny (model prog w) A (.call (.ref C) ⟨vs,kw⟩) R s:=by
 obtain⟨hh,g,d,t,os⟩:=s
 exact PySem.W.make_core (PySem.W.makes_of X hm) (PySem.W.looks_findIn X hi) (λ self=>PySem.W.bind_fn X self hf) (.inl rfl) h
end
def mV(f:Str)(v:V):List (Str×V)->List (Str×V)
 |[]=>[(f,v)]
 | (g,x)::r=>if g=f then (g,v)::r else (g,x)::mV f v r
theorem jq(f g:Str)(v:V):∀fs:List (Str×V),(mV f v fs).lookup g=if g=f then some v else fs.lookup g
 |[]=>by
  show dR g [(f,v)]=_
  by_cases h:g=f
  ·have hb:(g==f)=true:=beq_iff_eq.mpr h;simp only[dR,hb,if_pos h]
  ·have hb:(g==f)=false:=beq_eq_false_iff_ne.mpr h;simp only[dR,hb,if_neg h]
 | (k,x)::r=>by
  have ih:=jq f g v r;rw[show mV f v ((k,x)::r)=(if k=f then (k,v)::r else (k,x)::mV f v r) from rfl]
  by_cases hk:k=f
  ·rw[if_pos hk]
   by_cases h:g=k
   ·have hb:(g==k)=true:=beq_iff_eq.mpr h;simp only[dR,hb,if_pos (h.trans hk)]
   ·have hb:(g==k)=false:=beq_eq_false_iff_ne.mpr h;simp only[dR,hb,if_neg (λ e:g=f=>h (e.trans hk.symm))]
  ·rw[if_neg hk]
   by_cases h:g=k
   ·have hb:(g==k)=true:=beq_iff_eq.mpr h;simp only[dR,hb,if_neg (λ e:g=f=>hk (h.symm.trans e))]
   ·have hb:(g==k)=false:=beq_eq_false_iff_ne.mpr h;simp only[dR,hb]
    exact ih
theorem yL(f:Str)(v:V):∀fs:List (Str×V),f∈(mV f v fs).map (·.1)/\∀g,g∈fs.map (·.1)->g∈(mV f v fs).map (·.1)
 |[]=>⟨by simp[mV],λ g h=>by simp at h⟩
 | (k,x)::r=>by
  obtain⟨i1,i2⟩:=yL f v r;rw[show mV f v ((k,x)::r)=(if k=f then (k,v)::r else (k,x)::mV f v r) from rfl]
  by_cases hk:k=f
  ·rw[if_pos hk];subst hk;exact⟨by simp,λ g h=>by simpa using h⟩
  ·rw[if_neg hk];refine⟨?_,λ g h=>?_⟩
   ·rw[aU];exact aM _ i1
   ·rw[aU] at h ⊢
    rcases aB.mp h with e | e
    ·exact aB.mpr (.inl e)
    ·exact aM _ (i2 g e)
theorem zp(f:Str)(v:V):∀fs:List (Str×V),(mV f v fs).length<=fs.length+1
 |[]=>by simp[mV]
 | (k,x)::r=>by
  have ih:=zp f v r;rw[show mV f v ((k,x)::r)=(if k=f then (k,v)::r else (k,x)::mV f v r) from rfl]
  by_cases hk:k=f
  ·rw[if_pos hk,aK,aK];omega
  ·rw[if_neg hk,aK,aK];omega
theorem Cn.some_of{v:V}{o:Option Value}(r:Cn (some v) o):∃u,o=some u/\RelV v u:=by
 cases o with
 |none=>exact (show False from r).elim
 |some u=>exact⟨u,rfl,r⟩
theorem Cn.none_of{o:Option Value}(r:Cn none o):o=none:=by
 cases o with
 |none=>rfl
 |some u=>exact (show False from r).elim
theorem JG{v:V}{u:Value}(r:RelV v u):iY u=true:=by
 cases v with
 |pZ=>cases (show u=Value.none from r);rfl
 |bl b=>cases (show u=Value.bool b from r);rfl
 |int i=>obtain⟨t,e⟩:=(show ∃t,u=Value.int i t from r);cases e;rfl
 |str x=>obtain⟨t,e⟩:=(show ∃t,u=Value.str x t from r);cases e;rfl
 |HX b=>obtain⟨t,e⟩:=(show ∃t,u=Value.bytes b t from r);cases e;rfl
 |VB b=>obtain⟨t,e⟩:=(show ∃t,u=Value.float b t from r);cases e;rfl
 |ref a=>cases (show u=Value.ref a from r);rfl
 |ty n=>cases (show u=Value.type n from r);rfl
section
variable{P:Program}{w:World}{H H':Hp}{h h':Heap}{a C dx:Addr}{fs fs':List (Str×V)}
theorem D8(hok:yK P w H h)(e:H a=some (.ins C dx fs)):∃mA,GU h a dx C mA/\(∀f,Cn (fs.lookup f) (mA f))/\PySem.Within mA (fs.map (·.1))/\fs.length<=1000/\H dx=some (.own a):=by
 obtain⟨d,z,ne,ob,mA,n,r,q⟩:=(show n6 P w H h a (.ins C dx fs) from hok a _ e)
 exact⟨mA,⟨ob,n,ne⟩,r,q,z,d⟩
end
structure Lq(K:ai)(C:Addr):Prop where
 pg:fH K C Str.empty=true
 hd:gB K C=true
 po:iR K C=true
 sa:cE K (.ref C) "__setattr__" = some (some (.builtin "object.__setattr__"))
theorem Lq.get{K:ai}{C:Addr}(c:Lq K C)(f:Str):fH K C f=true:=c.pg
def lV(K:ai)(C:Addr)(f:Str):Prop:=cE K (.ref C) f=some none
theorem lV.Ud{K:ai}{C:Addr}{f:Str}(n:lV K C f):g6 K C f=some none:=by
 unfold g6
 rw[show cE K (.ref C) f=some none from n]
 rfl
structure Meth(K:ai)(C:Addr)(m:Str)(f:Addr):Prop where
 at_:cE K (.ref C) m=some (some (.ref f))
 fn:iQ K (.ref f)=true
 kp:dS K (.ref f)=true
section
variable{X:Cx}{pins:List (Addr×Obj)}{σ:St}{H:Hp}{s:Shared}{a C dx:Addr}{fs:List (Str×V)}{f:Str}{v:V}{A:Around}{E:Value->Shared->Prop}
theorem Au{b:Bool}{Q:Value->Shared->Prop}(I:Inv X pins σ H s)(e:H a=some (.ins C dx fs))(c:Lq X.K C)(n:lV X.K C f)(l:fs.lookup f=some v)
  (h:∀u s',Inv X pins σ H s'->RelV v u->Q u s'):wpAny (model X.prog X.w) A (getAttr (.ref a) f b) Q E s:=by
 obtain⟨mA,O,r,_,_,_⟩:=D8 I.hok e
 obtain⟨u,hu,ru⟩:=Cn.some_of (v:=v) (o:=mA f) (by rw[<-l];exact r f)
 exact get_map I.GC O (c.get f) c.hd n hu (JG ru) (h u _ (I.tok _) ru)
theorem wQ{m:Str}{g:Addr}{pl:Sem Bool}{Q:Value×List Value->Shared->Prop}(I:Inv X pins σ H s)(e:H a=some (.ins C dx fs))(c:Lq X.K C)(k:Meth X.K C m g)(l:fs.lookup m=none)
  (h:Q (.ref g,[.ref a]) s):wpAny (model X.prog X.w) A (getMethod (.ref a) m pl) Q E s:=by
 obtain⟨mA,O,r,_,_,_⟩:=D8 I.hok e
 have hn:mA m=none:=Cn.none_of (by rw[<-l];exact r m)
 exact LU I.GC O (c.get m) k.at_ k.fn hn h
theorem Av{y:V}{u:Value}{Q:Unit->Shared->Prop}(I:Inv X pins σ H s)(e:H a=some (.ins C dx fs))(c:Lq X.K C)(n:lV X.K C f)(hl:fs.length<1000)(ry:RelV y u)
  (h:∀s',Inv X pins σ (upd H a (.ins C dx (mV f y fs))) s'->Q () s'):wpAny (model X.prog X.w) A (setAttr (.ref a) f u) Q E s:=by
 obtain⟨mA,O,r,wi,_,ho⟩:=D8 I.hok e
 have hz:(fs.map (·.1)).length<=sizeLine:=by rw[ah,sizeLine_eq];omega
 refine OS I.GC O c.sa c.po n.Ud c.hd wi hz λ h' O' sb=>h _ ?_
 have hd:∃o,h'.get? dx=some o:=let ⟨o,_,_,e',_⟩:=O'.ns;⟨o,e'⟩
 refine I.write (x:=a) (e:=dx) (by rw[e];exact True.intro) (.inr ho) (λ b q hb z=>(sb.2 b hb).trans z) hd ?_
 refine⟨by rw[je O.ne];exact ho,?_,O.ne,O'.obj,_,O'.ns,λ g=>?_,λ g hg=>?_⟩
 ·have:=zp f y fs;omega
 ·show Cn ((mV f y fs).lookup g) (if g=f then some u else mA g)
  rw[jq]
  by_cases q:g=f
  ·rw[if_pos q,if_pos q];exact ry
  ·rw[if_neg q,if_neg q];exact r g
 ·by_cases q:g=f
  ·rw[q];exact (yL f y fs).1
  ·refine (yL f y fs).2 g (wi g λ z=>hg ?_);show (if g=f then some u else mA g)=none;rw[if_neg q];exact z
theorem Inv.made(I:Inv X pins σ H s):Inv X pins σ (upd (upd H s.heap.objs.size (.own (s.heap.objs.size+1))) (s.heap.objs.size+1) (.ins C s.heap.objs.size []))
  { s with heap:=(s.heap.push bV).push (cI C s.heap.objs.size) }:=by
 have e1:(s.heap.push bV).get? s.heap.objs.size=some bV:=Heap.get?_push_size s.heap rfl
 have e2:((s.heap.push bV).push (cI C s.heap.objs.size)).get? (s.heap.objs.size+1)=some (cI C s.heap.objs.size):=by
  have:=Heap.get?_push_size (s.heap.push bV) (o:=cI C s.heap.objs.size) rfl
  rwa [Heap.size_push] at this
 have e3:(s.heap.push bV).Ns s.heap.objs.size (λ _=>none):=⟨bV,#[],_,e1,rfl,(λ e he=>absurd he (by simp)),λ _=>rfl⟩
 have I1:=I.laid (a:=s.heap.objs.size) (o:=.own (s.heap.objs.size+1)) (h':=s.heap.push bV) (t':=s.toks) (λ b u q=>Heap.get?_push_of_some _ q) (aq _) ⟨_,e1⟩
 refine I1.laid (a:=s.heap.objs.size+1) (o:=.ins C s.heap.objs.size []) (t':=s.toks) (λ b u q=>Heap.get?_push_of_some _ q) (gS (Heap.size_push _ _)) ?_
 have ne:s.heap.objs.size≠s.heap.objs.size+1:=aV (aD _)
 refine⟨by rw[je ne,jb],aZ _,ne,e2,λ _=>none,(Heap.Ns1.of_empty e3).at λ o q=>Heap.get?_push_of_some _ q,λ _=>True.intro,λ y hy=>absurd rfl hy⟩
theorem OT{prog:Program}{w:World}{env:Env}{e:Expr}{f:Str}{pos:Pos}{s:Shared}{Q:Value->Shared->Prop}(hb:attributeBase e f env (eval e env)=eval e env)
  (h:wpAny (model prog w) A (eval e env) (λ o s₁=>wpAny (model prog w) A (getAttr o f true) Q E s₁) E s):wpAny (model prog w) A (eval (.Attribute e f pos) env) Q E s:=
 Attribute_any_ h (by rw[arm_eval_Attribute,hb])
end
def LW(K:ai)(ta:TE)(f:Str):TE:=λ σ H Q=>ta σ H λ x H1=>∃a C dx fs v,x=.ref a/\H1 a=some (.ins C dx fs)/\Lq K C/\lV K C f/\fs.lookup f=some v/\Q v H1
def Wr(K:ai)(ta tv:TE)(f:Str):TS:=λ D σ H=>tv σ H λ y H1=>ta σ H1 λ x H2=>∃a C dx fs,x=.ref a/\H2 a=some (.ins C dx fs)/\Lq K C/\lV K C f/\fs.length<1000 /\
 D.nx σ (upd H2 a (.ins C dx (mV f y fs)))
def Ue(X:Cx)(op:Operator)(rd:V->V->Hp->VK->Prop):Prop:=
 ∀(pins:List (Addr×Obj)) (s:Shared) (σ:St) (H:Hp) (x y:V) (u v:Value) (Q:VK),Inv X pins σ H s->RelV x u->RelV y v->rd x y H Q->wpAny (model X.prog X.w) X.A (inplaceOp op u v) (EP X pins σ Q) X.xe s
def OU(K:ai)(ta tv:TE)(rd:V->V->Hp->VK->Prop)(f:Str):TS:=λ D σ H=>ta σ H λ x H1=>∃a C dx fs v,x=.ref a/\H1 a=some (.ins C dx fs)/\Lq K C/\lV K C f/\fs.lookup f=some v /\
 tv σ H1 λ y H2=>rd v y H2 λ z H3=>∃Ug fs',H3 a=some (.ins C Ug fs')/\fs'.length<1000/\D.nx σ (upd H3 a (.ins C Ug (mV f z fs')))
section
variable{X:Cx}{o e value:Expr}{f:Str}{pos pos' tpos:Pos}{ta tv:TE}
theorem nA(he:PE X e ta)(hb:attributeBase e f X.env (eval e X.env)=eval e X.env):PE X (.Attribute e f pos) (LW X.K ta f):=by
 intro pins s σ H Q I h
 refine OT hb (lQ (he pins s σ H _ I h) λ u s1 ⟨x,H1,I1,rx,a,C,dx,fs,v,ex,ea,c,n,l,q⟩=>?_)
 subst ex
 obtain rfl:u=Value.ref a:=rx
 exact Au I1 ea c n l λ u' s2 I2 ru=>⟨v,H1,I2,ru,q⟩
theorem om(ha:PE X o ta)(hv:PE X value tv)(hs:swapsWith value (some (.Attribute o f pos')) pos.line X.env=pure false):PS X (.Assign [.Attribute o f pos'] value pos) (Wr X.K ta tv f):=by
 intro pins s σ H D I h
 refine plainObj_wpAny_Assign_Attribute (lQ (hv pins s σ H _ I h) λ u s1 ⟨y,H1,I1,ry,q⟩=>lQ (ha pins s1 σ H1 _ I1 q) λ ov s2 ⟨x,H2,I2,rx,a,C,dx,fs,ex,ea,c,n,l,q2⟩=>?_) hs
 subst ex
 obtain rfl:ov=Value.ref a:=rx
 exact Av I2 ea c n l ry λ s3 I3=>⟨σ,_,I3,q2⟩
theorem rL{op:Operator}{rd:V->V->Hp->VK->Prop}(ha:PE X o ta)(hv:PE X value tv)(hop:Ue X op rd):PS X (.AugAssign (.Attribute o f tpos) op value pos) (OU X.K ta tv rd f):=by
 intro pins s σ H D I h
 refine wpAny_AugAssign_AttributeAny (lQ (ha pins s σ H _ I h) λ ov s1 ⟨x,H1,I1,rx,a,C,dx,fs,v,ex,ea,c,n,l,q⟩=>?_)
 subst ex
 obtain rfl:ov=Value.ref a:=rx
 refine Au I1 ea c n l λ u s2 I2 ru=>lQ (hv pins s2 σ H1 _ I2 q) λ w3 s3 ⟨y,H2,I3,ry,q3⟩=>lQ (hop pins s3 σ H2 v y u w3 _ I3 ru ry q3) λ w4 s4 ⟨z,H3,I4,rz,Ug,fs',Zl,l',q4⟩=>?_
 exact Av I4 Zl c n l' rz λ s5 I5=>⟨σ,_,I5,q4⟩
def Ws:V->V->Hp->VK->Prop:=λ x y H Q=>∃i j,x=.int i/\y=.int j/\Q (.int (i+j)) H
theorem Aw:Ue X .Add Ws:=by
 rintro pins s σ H x y u v Q I rx ry ⟨i,j,rfl,rfl,q⟩
 obtain⟨t,rfl⟩:=(show ∃t,u=Value.int i t from rx)
 obtain⟨t',rfl⟩:=(show ∃t',v=Value.int j t' from ry)
 exact PyProof.Rows.iadd_int ⟨.int (i+j),H,I.tok _,⟨_,rfl⟩,q⟩
theorem QM{pl:Sem Bool}{m:Str}{apos:Pos}{args:List Expr}{pins:List (Addr×Obj)}{s:Shared}{σ:St}{H:Hp}{Q:Value->Shared->Prop}{te:TE}(he:PE X e te)(I:Inv X pins σ H s)
  (h:te σ H λ x H1=>∃a C dx fs g,x=.ref a/\H1 a=some (.ins C dx fs)/\Lq X.K C/\Meth X.K C m g/\fs.lookup m=none /\
   ∀s1,Inv X pins σ H1 s1->wpAny (model X.prog X.w) X.A (callWith pos (.ref g) [.ref a] (backTo pos (starEach args X.env)) (backToKw pos (keywordEach [] X.env))) Q X.xe s1)
  (ht:eval (.Call (.Attribute e m apos) args [] pos) X.env=(do
   let ov <-eval e X.env
   standAt apos.atName
   let (f,first) <-holding [ov] (getMethod ov m pl)
   callWith pos f first (backTo pos (starEach args X.env)) (backToKw pos (keywordEach [] X.env)))) :
  wpAny (model X.prog X.w) X.A (eval (.Call (.Attribute e m apos) args [] pos) X.env) Q X.xe s:=by
 refine fE (pl:=pl) (lQ (he pins s σ H _ I h) λ u s1 ⟨x,H1,I1,rx,a,C,dx,fs,g,ex,ea,c,k,l,q⟩=>?_) ht
 subst ex
 obtain rfl:u=Value.ref a:=rx
 exact wQ I1 ea c k l (q s1 I1)
end
section
variable{X:Cx}{pins:List (Addr×Obj)}{σ:St}{H:Hp}{s:Shared}{A:Around}{E:Value->Shared->Prop}{Q:Value->Shared->Prop}{c:Value}{b:Bool}
end
end L2
namespace L2
open PySem PySem.Spec PyProof.Rows
structure mQ(k:Nat)(A:Around):Prop where
 hd:A.handled=none
 dp:A.depth+3*k+5<recursionLimit
 un:A.units+16*k+200<cLine
theorem mQ.mono{j k:Nat}{A:Around}(r:mQ k A)(h:j<=k):mQ j A:=⟨r.hd,by have:=r.dp;omega,by have:=r.un;omega⟩
theorem mQ.deeper{k:Nat}{A:Around}(r:mQ (k+1) A)(env:Env):mQ k (A.deeper env):=
 ⟨r.hd,by have:=r.dp;show A.depth+1+3*k+5<_;omega,by have:=r.un;show A.units+3+16*k+200<_;omega⟩
theorem GV{A:Around}{C:Addr}{us:List Value}{kw:List (Str×Value)}:(A.under (.builtin "type.__call__" ⟨.ref C::us,kw⟩)).depth=A.depth+1:=by
 first | rfl | simp[Around.under,Code.weight,Code.isCreation,Code.isGuard,Code.isCaller,Code.frames,Code.isFrame,guardIds]
theorem GW{A:Around}{C:Addr}{us:List Value}{kw:List (Str×Value)}:(A.under (.builtin "type.__call__" ⟨.ref C::us,kw⟩)).units=A.units+1:=by
 first | rfl | simp[Around.under,Code.cUnits,Code.frames,Code.isFrame]
theorem mQ.make{k:Nat}{A:Around}(r:mQ (k+1) A)(C:Addr)(us:List Value)(kw:List (Str×Value)):mQ k (A.under (.builtin "type.__call__" ⟨.ref C::us,kw⟩)):=
 ⟨r.hd,by have:=r.dp;rw[GV];omega,by have:=r.un;rw[GW];omega⟩
theorem mQ.depth{k:Nat}{A:Around}(r:mQ k A):A.depth<recursionLimit:=by have:=r.dp;omega
theorem mQ.units{k:Nat}{A:Around}(r:mQ k A):A.units+64<cLine:=by have:=r.un;omega
def E5:TA:=λ _ H Q=>Q [] H
def Ax(ta:TE)(tr:TA):TA:=λ σ H Q=>ta σ H λ x H1=>tr σ H1 λ xs H2=>Q (x::xs) H2
section
variable{X:Cx}{e:Expr}{es:List Expr}{te:TE}{t:TA}{pos:Pos}
theorem jd:PA X [] E5:=λ _ _ _ _ H Q I h=>Calls.spliced_nil ⟨[],H,I,.nil,h⟩
theorem ja(ha:PE X e te)(hr:PA X es t)(hs:starEach (e::es) X.env=(false,eval e X.env)::starEach es X.env:=by rfl):PA X (e::es) (Ax te t):=by
 intro pos pins s σ H Q I h
 rw[hs]
 show wpAny _ _ (spliced ((false,eval e X.env)::backTo pos (starEach es X.env))) _ _ s
 refine Calls.spliced_cons (lQ (ha pins s σ H _ I h) λ u s1 ⟨x,H1,I1,r1,q1⟩=>?_)
 exact lQ (hr pos pins s1 σ H1 _ I1 q1) λ us s2 ⟨xs,H2,I2,r2,q2⟩=>⟨x::xs,H2,I2,.cons r1 r2,q2⟩
def Uh(t:TA):TE:=λ σ H Q=>t σ H λ xs H1=>xs.length<=sizeLine/\∀p,H1 p=none->Q (.ref p) (upd H1 p (.tup xs))
def Ui(t:TA):TE:=λ σ H Q=>t σ H λ xs H1=>xs.length<=sizeLine/\∀p,H1 p=none->Q (.ref p) (upd H1 p (.lst xs))
theorem LX{x1}(h:PA X es t):PE X (.Tuple es x1 pos) (Uh t):=by
 intro pins s σ H Q I hq
 refine wpAny_Tuple_spliced (lQ (h pos pins s σ H _ I hq) λ us s1 ⟨xs,H1,I1,r,z,q⟩=>⟨by rw[<-r.length];exact z,?_⟩)
 have hf:H1 s1.heap.objs.size=none:=I1.hok.fresh (aq _)
 refine⟨.ref s1.heap.objs.size,upd H1 s1.heap.objs.size (.tup xs),I1.laid (t':=s1.toks) (λ b u e=>Heap.get?_push_of_some _ e) (aq _) ?_,rfl,q _ hf⟩
 exact⟨z,us,r,⟨_,Heap.get?_push_size _ rfl,rfl,_,rfl⟩⟩
theorem mh(h:PA X es t):PE X (.List es pos) (Ui t):=by
 intro pins s σ H Q I hq
 refine wpAny_List_spliced (lQ (h pos pins s σ H _ I hq) λ us s1 ⟨xs,H1,I1,r,z,q⟩=>⟨by rw[<-r.length];exact z,?_⟩)
 have hf:H1 s1.heap.objs.size=none:=I1.hok.fresh (aq _)
 refine⟨.ref s1.heap.objs.size,upd H1 s1.heap.objs.size (.lst xs),I1.laid (t':=s1.toks) (λ b u e=>Heap.get?_push_of_some _ e) (aq _) ?_,rfl,q _ hf⟩
 exact⟨z,us,0,r,Heap.get?_push_size _ rfl⟩
end
abbrev Sp:=List V->Hp->VK->XK->Prop
abbrev OV:=List Env->Hp->Shared->XK->Value->Shared->Prop
structure yM(P:Program)(w:World)(K:ai)(mg:Str->Option Value)(base:Heap)(A:Around)(outer:List Env)(s:Shared)(H:Hp):Prop where
 frames:A.frames=some outer
 mod:Mod K mg base
 bs:∀b o,base.get? b=some o->s.heap.get? b=some o/\H b=none
 Ou:base.objs.size<=s.heap.objs.size
 zQ:s.heap.FunFrames base outer
 Rn:∀b∈frs outer,H b=none
 hok:yK P w H s.heap
 bare:AllBare s.gens
def CE(outer:List Env)(P:Program)(w:World)(H:Hp)(s:Shared)(Q:VK)(u:Value)(s':Shared):Prop:=
 ∃v H',s'.os=s.os/\AllBare s'.gens/\Un (frs outer) [] H H' s.heap s'.heap/\yK P w H' s'.heap/\RelV v u/\Q v H'
def CR(CX:OV)(outer:List Env)(P:Program)(w:World)(H:Hp)(s:Shared)(Q:VK)(E:XK)(r:Result)(s':Shared):Prop:=
 match r with
 |.ok (.ret u)=>CE outer P w H s Q u s'
 |.ok _=>False
 |.error e=>CX outer H s E e s'
structure yN(P:Program)(w:World)(K:ai)(mg:Str->Option Value)(base:Heap)(CX:OV)(k:Nat)(f:Addr)(fd:FuncData)(ps:List Str)(sp:Sp):Prop where
 len:∀vs H Q E,sp vs H Q E->vs.length=ps.length
 run:∀(A:Around) (outer:List Env) (s:Shared) (H:Hp) (args:Args) (us:List Value) (vs:List V) (Q:VK) (E:XK),mQ k A->yM P w K mg base A outer s H->BindsTo s fd args (ps.zip us)->Vals vs us->sp vs H Q E ->
  codeAny (model P w) A (.call (.ref f) args) (CR CX outer P w H s Q E) s
theorem yM.make{P:Program}{w:World}{K:ai}{mg:Str->Option Value}{base:Heap}{A:Around}{outer:List Env}{s:Shared}{H:Hp}(e:yM P w K mg base A outer s H)(C:Addr)(us:List Value)(kw:List (Str×Value)) :
  yM P w K mg base (A.under (.builtin "type.__call__" ⟨.ref C::us,kw⟩)) outer s H:=⟨by first | exact e.frames | (simpa [Around.under,Code.envs,Code.isFrame,pushEnvs] using e.frames),e.mod,e.bs,e.Ou,e.zQ,e.Rn,e.hok,e.bare⟩
section
variable{X:Cx}{pins:List (Addr×Obj)}{σ:St}{H:Hp}{s s':Shared}
theorem Inv.OW(I:Inv X pins σ H s):yM X.prog X.w X.K X.mg X.base X.A X.stack s H:=
 ⟨I.ok.frames,I.ok.mod,I.bs,bf I.ok.Ou I.sz,I.stack,I.z6,I.hok,I.bare⟩
theorem Inv.after{Q:VK}{u:Value}(I:Inv X pins σ H s)(h:CE X.stack X.prog X.w H s Q u s'):EP X pins σ Q u s':=by
 obtain⟨v,H',os,bare,un,hok,r,q⟩:=h
 obtain⟨hh,g,d,t,os'⟩:=s'
 obtain rfl:os'=s.os:=os
 exact⟨v,H',I.call (h':=hh) (g':=g) (d':=d) (t':=t) (ch:=[]) un hok bare (λ b z=>absurd z (by simp)),r,q⟩
end
def Ic(sp:Sp)(Cr:List V)(E:XK)(t:TA):TE:=λ σ H Q=>t σ H λ vs H1=>sp (vs++Cr) H1 Q E
def Ie(C:Addr)(m:Str)(sp:Sp)(Cr:List V)(E:XK)(ta:TE)(t:TA):TE:=λ σ H Q=>ta σ H λ x H1=>∃a dx fs,x=.ref a/\H1 a=some (.ins C dx fs)/\fs.lookup m=none /\
 t σ H1 λ vs H2=>sp (x::(vs++Cr)) H2 Q E
def QN(C:Addr)(sp:Sp)(Cr:List V)(E:XK)(t:TA):TE:=λ σ H Q=>t σ H λ vs H1=>∀x dx,H1 x=none->H1 dx=none->dx≠x ->
 sp (.ref x::(vs++Cr)) (upd (upd H1 dx (.own x)) x (.ins C dx [])) (λ v H2=>v=.pZ/\Q (.ref x) H2) E
def Binds(K:ai)(fd:FuncData)(ps:List Str)(ds:List Value):Prop:=
 ∀(s:Shared) (us:List Value),K.In s.heap->(us++ds).length=ps.length->BindsTo s fd ⟨us,[]⟩ (ps.zip (us++ds))
theorem Binds.all{K:ai}{fd:FuncData}{ps:List Str}(h:∀us:List Value,us.length=ps.length->bindArgs fd ⟨us,[]⟩=pure (ps.zip us)):Binds K fd ps []:=λ s us _ hl=>by
 rw[cQ] at hl ⊢
 exact .of_eq (h us hl)
def pD(CX:OV)(X:Cx)(E:XK):Prop:=∀(pins:List (Addr×Obj)) (σ:St) (H:Hp) (s:Shared) (e:Value) (s':Shared),Inv X pins σ H s->CX X.stack H s E e s'->X.xe e s'
section
variable{X:Cx}{CX:OV}{k:Nat}{f C:Addr}{fd:FuncData}{ps:List Str}{sp:Sp}{Cr:List V}{ds:List Value}{E:XK}{x m:Str}{p pos apos:Pos}{e o:Expr}{es:List Expr}{ta:TE}{t:TA}
theorem GX{pins:List (Addr×Obj)}{σ:St}{H:Hp}{s:Shared}{Q:VK}{us:List Value}{vs:List V}(F:yN X.prog X.w X.K X.mg X.base CX k f fd ps sp)(hr:mQ k X.A)(hb:Binds X.K fd ps ds)(hd:Vals Cr ds)(hx:pD CX X E)
  (I:Inv X pins σ H s) (r:Vals vs us) (h:sp (vs++Cr) H Q E):wpAny (model X.prog X.w) X.A (call (.ref f) us) (EP X pins σ Q) X.xe s:=by
 have r2:Vals (vs++Cr) (us++ds):=r.append hd
 have hl:(us++ds).length=ps.length:=by rw[<-r2.length];exact F.len _ _ _ _ h
 refine wpAny_call (codeAny_mono (F.run X.A X.stack s H ⟨us,[]⟩ (us++ds) (vs++Cr) Q E hr I.OW (hb s us I.GC hl) r2 h) λ r s' hq=>?_)
 cases r with
 |error e=>exact hx pins σ H s e s' I hq
 |ok fl=>
  cases fl with
  |ret u=>exact I.after hq
  |next=>exact False.elim hq
  |brk=>exact False.elim hq
  |cont=>exact False.elim hq
theorem OX(F:yN X.prog X.w X.K X.mg X.base CX k f fd ps sp)(hr:mQ k X.A)(hg:Gl X x)(hm:X.mg x=some (.ref f))(hk:dS X.K (.ref f)=true)(hb:Binds X.K fd ps ds)(hd:Vals Cr ds)(hx:pD CX X E)
  (ha:PA X (e::es) t) (hdb:(x==("__debug__":Str))=false:=by decide) (he:starEach (e::es) X.env=(false,eval e X.env)::starEach es X.env:=by rfl) (hpl:(backTo pos (starEach es X.env)).any (·.1)=false:=by rfl) :
  PE X (.Call (.Name x p) (e::es) [] pos) (Ic sp Cr E t):=by
 intro pins s σ H Q I h
 refine wpAny_Call_Name_kw (sY I hg hm ?_ hdb)
 refine eZ (h₀:=X.base) I.ok.mod.QD hk (lQ (ha pos pins s σ H _ I h) λ us s1 ⟨vs,H1,I1,r,q⟩=>⟨I1.GC,?_⟩) he hpl
 exact GX F hr hb hd hx I1 r q
theorem OY{pl:Sem Bool}(he:PE X o ta)(c:Lq X.K C)(hm:Meth X.K C m f)(F:yN X.prog X.w X.K X.mg X.base CX k f fd ps sp)(hr:mQ k X.A)(hb:Binds X.K fd ps ds)(hd:Vals Cr ds)(hx:pD CX X E)(ha:PA X (e::es) t)
  (hst:starEach (e::es) X.env=(false,eval e X.env)::starEach es X.env:=by rfl) (hpl:(backTo pos (starEach es X.env)).any (·.1)=false:=by rfl)
  (ht:eval (.Call (.Attribute o m apos) (e::es) [] pos) X.env=(do
   let ov <-eval o X.env
   standAt apos.atName
   let (f,first) <-holding [ov] (getMethod ov m pl)
   callWith pos f first (backTo pos (starEach (e::es) X.env)) (backToKw pos (keywordEach [] X.env))):=by rfl) :
  PE X (.Call (.Attribute o m apos) (e::es) [] pos) (Ie C m sp Cr E ta t):=by
 intro pins s σ H Q I h
 refine fE (pl:=pl) (lQ (he pins s σ H _ I h) λ u s1 ⟨x,H1,I1,rx,a,dx,fs,ex,ea,l,q⟩=>?_) ht
 subst ex
 obtain rfl:u=Value.ref a:=rx
 refine wQ I1 ea c hm l ?_
 refine eZ (first:=[.ref a]) (h₀:=X.base) I.ok.mod.QD hm.kp (lQ (ha pos pins s1 σ H1 _ I1 q) λ us s2 ⟨vs,H2,I2,r,q2⟩=>⟨I2.GC,?_⟩) hst hpl
 exact GX (us:=.ref a::us) (vs:=.ref a::vs) F hr hb hd hx I2 (.cons rfl r) q2
theorem LY{pl:Sem Bool}(he:PE X o ta)(c:Lq X.K C)(hm:Meth X.K C m f)(F:yN X.prog X.w X.K X.mg X.base CX k f fd ps sp)(hr:mQ k X.A)(hb:Binds X.K fd ps ds)(hd:Vals Cr ds)(hx:pD CX X E)
  (ht:eval (.Call (.Attribute o m apos) [] [] pos) X.env=(do
   let ov <-eval o X.env
   standAt apos.atName
   let (f,first) <-holding [ov] (getMethod ov m pl)
   callWith pos f first (backTo pos (starEach [] X.env)) (backToKw pos (keywordEach [] X.env))):=by rfl) :
  PE X (.Call (.Attribute o m apos) [] [] pos) (Ie C m sp Cr E ta E5):=by
 intro pins s σ H Q I h
 refine fE (pl:=pl) (lQ (he pins s σ H _ I h) λ u s1 ⟨x,H1,I1,rx,a,dx,fs,ex,ea,l,q⟩=>?_) ht
 subst ex
 obtain rfl:u=Value.ref a:=rx
 refine wQ I1 ea c hm l ?_
 exact PySem.W.callWith_K0 (first:=[.ref a]) I1.GC hm.kp (GX (us:=[.ref a]) (vs:=[.ref a]) F hr hb hd hx I1 (.cons rfl .nil) q)
structure Mk(K:ai)(C f:Addr):Prop where
 makes:g7 K C=true
 init:cE K (.ref C) "__init__" = some (some (.ref f))
 fn:iQ K (.ref f)=true
 kp:dS K (.ref C)=true
theorem LZ{pins:List (Addr×Obj)}{σ:St}{H:Hp}{s:Shared}{Q:VK}{us:List Value}{vs:List V}(M:Mk X.K C f)(F:yN X.prog X.w X.K X.mg X.base CX k f fd ps sp)(hr:mQ (k+1) X.A)(hb:Binds X.K fd ps ds)(hd:Vals Cr ds)
  (hx:pD CX X E) (I:Inv X pins σ H s) (r:Vals vs us)
  (h:∀x dx,H x=none->H dx=none->dx≠x->sp (.ref x::(vs++Cr)) (upd (upd H dx (.own x)) x (.ins C dx [])) (λ v H2=>v=.pZ/\Q (.ref x) H2) E) :
  wpAny (model X.prog X.w) X.A (call (.ref C) us) (EP X pins σ Q) X.xe s:=by
 have hq:=h (s.heap.objs.size+1) s.heap.objs.size (I.hok.fresh (Nat.le_succ _)) (I.hok.fresh (aq _)) (aV (aD _))
 have I2:=Inv.made (C:=C) I
 have r2:Vals (V.ref (s.heap.objs.size+1)::(vs++Cr)) (Value.ref (s.heap.objs.size+1)::(us++ds)):=.cons rfl (r.append hd)
 have hl:(Value.ref (s.heap.objs.size+1)::us++ds).length=ps.length:=by
  have e:=r2.length;rw[F.len _ _ _ _ hq] at e;exact e.symm
 refine wpAny_call (LV (f:=f) I.GC M.makes M.init (beq_iff_eq.mp M.fn) (codeAny_mono (F.run _ X.stack _ _ ⟨Value.ref (s.heap.objs.size+1)::us,[]⟩ (Value.ref (s.heap.objs.size+1)::(us++ds)) _ _ E (hr.make C us [])
  (I2.OW.make C us []) (hb _ (Value.ref (s.heap.objs.size+1)::us) I2.GC hl) r2 hq) λ r s' hq'=>?_))
 cases r with
 |error e=>exact hx pins σ _ _ e s' I2 hq'
 |ok fl=>
  cases fl with
  |ret u=>
   obtain⟨v,H',I3,rv,ev,q3⟩:=I2.after hq';subst ev;exact⟨rv,⟨V.ref (s.heap.objs.size+1),H',I3,rfl,q3⟩⟩
  |next=>exact False.elim hq'
  |brk=>exact False.elim hq'
  |cont=>exact False.elim hq'
theorem OZ(M:Mk X.K C f)(F:yN X.prog X.w X.K X.mg X.base CX k f fd ps sp)(hr:mQ (k+1) X.A)(hg:Gl X x)(hm:X.mg x=some (.ref C))(hb:Binds X.K fd ps ds)(hd:Vals Cr ds)(hx:pD CX X E)
  (ha:PA X (e::es) t) (hdb:(x==("__debug__":Str))=false:=by decide) (he:starEach (e::es) X.env=(false,eval e X.env)::starEach es X.env:=by rfl) (hpl:(backTo pos (starEach es X.env)).any (·.1)=false:=by rfl) :
  PE X (.Call (.Name x p) (e::es) [] pos) (QN C sp Cr E t):=by
 intro pins s σ H Q I h
 refine wpAny_Call_Name_kw (sY I hg hm ?_ hdb)
 refine eZ (h₀:=X.base) I.ok.mod.QD M.kp (lQ (ha pos pins s σ H _ I h) λ us s1 ⟨vs,H1,I1,r,q⟩=>⟨I1.GC,?_⟩) he hpl
 exact LZ M F hr hb hd hx I1 r q
end
section
variable{X:Cx}{CX:OV}{k:Nat}{f C:Addr}{fd:FuncData}{ps ks:List Str}{sp:Sp}{E:XK}{x m:Str}{p pos apos kpos:Pos}{e o:Expr}{es:List Expr}{kws:List Keyword}{te ta:TE}{t tk:TA}{nm:Option Str}
variable{g:List Value->List Value->List Value}{gV:List V->List V->List V}
end
structure jr(N P:List Str)(sc:Scope):Prop where
 kind:sc.kind=.function
 co:sc.isCoroutine=false
 gen:sc.isGenerator=false
 nd:N.Nodup
 pre:N.take P.length=P
 Wt:∀x∈P,sc.names.lookup x=some .local\/sc.names.lookup x=some .cell
 RJ:∀y∈sc.names,y.2≠.free
theorem CZ{kindOf:Str->Option NameKind}{x:Str}:∀{binds:List (Str×Value)}{m:Str->Option Value},(∀v,(x,v) ∉ binds)->bindL kindOf binds m x=m x
 |[],_,_=>rfl
 | (n,v)::r,m,h=>by
  unfold bindL;rw[CZ λ w hw=>h w (aM _ hw)]
  split
  ·have:x≠n:=by rintro rfl;exact h v aP
   simp[this]
  ·rfl
theorem C0{kindOf:Str->Option NameKind}{x:Str}:∀{binds:List (Str×Value)}{m:Str->Option Value},(∀v,(x,v) ∉ binds)->bindC kindOf binds m x=m x
 |[],_,_=>rfl
 | (n,v)::r,m,h=>by
  unfold bindC;rw[C0 λ w hw=>h w (aM _ hw)]
  split
  ·rfl
  ·have:x≠n:=by rintro rfl;exact h v aP
   simp[this]
theorem C1{kindOf:Str->Option NameKind}{x:Str}{v:Value}:∀{P:List Str}{vs:List Value}{i:Nat}{m:Str->Option Value},P.Nodup->P[i]? = some x->vs[i]? = some v->kindOf x=some .local ->
  bindL kindOf (P.zip vs) m x=some v
 |[],_,_,_,_,h,_,_=>by simp at h
 |_::_,[],_,_,_,_,h,_=>by simp at h
 |p::P,w::vs,0,m,nd,h1,h2,hk=>by
  simp at h1 h2;subst h1;subst h2
  show bindL kindOf ((p,w)::P.zip vs) m p=_;unfold bindL;rw[CZ λ v hv=>(cR.mp nd).1 (fU hv).1,if_pos hk];simp
 |p::P,w::vs,i+1,m,nd,h1,h2,hk=>by
  show bindL kindOf ((p,w)::P.zip vs) m x=_;unfold bindL;exact C1 (i:=i) (cR.mp nd).2 (by simpa using h1) (by simpa using h2) hk
theorem C2{kindOf:Str->Option NameKind}{x:Str}{v:Value}:∀{P:List Str}{vs:List Value}{i:Nat}{m:Str->Option Value},P.Nodup->P[i]? = some x->vs[i]? = some v->kindOf x≠some .local ->
  bindC kindOf (P.zip vs) m x=some v
 |[],_,_,_,_,h,_,_=>by simp at h
 |_::_,[],_,_,_,_,h,_=>by simp at h
 |p::P,w::vs,0,m,nd,h1,h2,hk=>by
  simp at h1 h2;subst h1;subst h2
  show bindC kindOf ((p,w)::P.zip vs) m p=_;unfold bindC;rw[C0 λ v hv=>(cR.mp nd).1 (fU hv).1,if_neg hk];simp
 |p::P,w::vs,i+1,m,nd,h1,h2,hk=>by
  show bindC kindOf ((p,w)::P.zip vs) m x=_;unfold bindC;exact C2 (i:=i) (cR.mp nd).2 (by simpa using h1) (by simpa using h2) hk
def start(N:List Str)(vs:List V):St:=vs.map some++aF (N.length-vs.length) none
def Ay(CX:OV)(P:Program)(w:World)(K:ai)(mg:Str->Option Value)(base:Heap)(N:List Str)(qual:Str)(scope:Scope)(f:Addr)(cd:Value)(A:Around)(outer:List Env)(s:Shared)(H:Hp)(E:XK):Cx where
 prog:=P
 w:=w
 K:=K
 mg:=mg
 base:=base
 A:=A.deeper (envOfC qual scope s.heap.objs.size f cd)
 N:=N
 Cq:=s
 QF:=H
 env:=envOfC qual scope s.heap.objs.size f cd
 outer:=outer
 stack:=envOfC qual scope s.heap.objs.size f cd::outer
 ex:=[]
 calm:=true
 fn:=λ _=>true
 pn:=[]
 xe:=λ e s'=>wpAny (model P w) (A.deeper (envOfC qual scope s.heap.objs.size f cd)) (leaving (envOfC qual scope s.heap.objs.size f cd) e) (λ _ s''=>CX outer H s E e s'') (λ e' s''=>CX outer H s E e' s'') s'
theorem Fb{sc:Scope}{n:Nat}{x:Str}(h:sc.names.lookup x=some .cell):∃c,(cellsFrom n sc.names []).lookup x=some c:=by
 have q:=fk sc.names n [] (.inl h)
 exact gF.mp q
theorem C3{CX:OV}{P:Program}{w:World}{K:ai}{mg:Str->Option Value}{base:Heap}{N ps:List Str}{qual:Str}{scope:Scope}{f:Addr}{cd:Value}{A:Around}{outer:List Env}{s s1:Shared}{H:Hp}{E:XK}{us:List Value}{vs:List V}
  (S:jr N ps scope) (hd:A.handled=none) (e0:yM P w K mg base A outer s H) (hl:vs.length=ps.length) (r:Vals vs us)
  (x:InCallC s s.heap.objs.size (bindL (envOfC qual scope s.heap.objs.size f cd).kindOf (ps.zip us) λ _=>none) (cellsFrom (s.heap.objs.size+1) scope.names []) (bindC (envOfC qual scope s.heap.objs.size f cd).kindOf (ps.zip us) λ _=>none) s1) :
  Inv (Ay CX P w K mg base N qual scope f cd A outer s H E) [] (start N vs) H s1:=by
 have hpl:ps.length<=N.length:=by have:=congrArg dU S.pre;rw[aX] at this;omega
 obtain⟨h1,tk,rfl,hk⟩:=x.done
 have O0:∀b:Addr,b ∉ (Ay CX P w K mg base N qual scope f cd A outer s H E).ex:=λ b z=>absurd (show b∈([]:List Addr) from z) (by simp)
 refine⟨⟨e0.mod,S.kind,rfl,rfl,aq _,λ y z c h1 h2=>?_,λ y hy=>?_,λ y c _ h=>?_,λ _=>hd,Around.frames_deeper e0.frames,.inr ⟨rfl,rfl⟩,λ b z=>absurd z (O0 b),e0.bs,e0.Ou,λ b _ _=>O0 b,λ b z=>absurd z (O0 b),e0.zQ,e0.Rn⟩,
  rfl,e0.bare,Un.kept hk,⟨_,x.toInCall.ns,λ i y v h1 h2 h3=>?_⟩,λ y c h=>⟨_,x.cell y c h⟩,e0.hok.fresh (aq _),λ y c h=>?_,λ p hp=>absurd (show p∈([]:List (Addr×Obj)) from hp) (by simp),e0.hok.kept hk,?_⟩
 ·exact name_of_addr x.apart (aQ h1) (aQ h2)
 ·have hy:scope.names.lookup y=some .cell\/scope.names.lookup y=some .free:=hy
  rcases hy with hy | hy
  ·exact Fb hy
  ·exact absurd rfl (S.RJ _ (aQ hy))
 ·exact aY (x.above y c (aQ h))
 ·have hi:i<vs.length:=by
   unfold start at h2
   by_cases hi:i<vs.length
   ·exact hi
   ·rw[cP (by simpa using hi)] at h2;rw[e7] at h2
    split at h2<;>cases h2
  have ha:vs[i]? = some v:=by
   unfold start at h2;rw[bL (by simpa using hi),aj] at h2
   cases e:vs[i]? with
   |none=>rw[e] at h2;cases h2
   |some a=>rw[e] at h2;cases h2;rfl
  obtain⟨u,hu,rv⟩:=r.get ha;have hp:ps[i]? = some y:=by
   rw[<-S.pre,List.getElem?_take_of_lt (by omega)];exact h1
  have XX:ps.Nodup:=by rw[<-S.pre];exact S.nd.sublist (List.take_sublist _ _)
  refine⟨u,rv,?_⟩
  rcases S.Wt y (au hp) with k | k
  ·exact .inl ⟨k,C1 XX hp hu k⟩
  ·obtain⟨c,e⟩:=Fb (n:=s.heap.objs.size+1) k;refine .inr ⟨.inl k,c,e,?_⟩;have q:=x.cell y c e;rw[C2 XX hp hu (by show scope.names.lookup y≠_;rw[k];decide)] at q;exact q
 ·exact e0.hok.fresh (aY (x.above y c (aQ h)))
 ·unfold start
  show _=N.length;rw[aE,ah,cB];omega
theorem Uj{CX:OV}{P:Program}{w:World}{K:ai}{mg:Str->Option Value}{base:Heap}{k:Nat}{f:Addr}{name qual:Str}{params:Arguments}{body:List Stmt}{scope:Scope}{dV kV doc pm cdv ct oc:Value}{an od:Option Addr}
  {osl:Array (Option Value)} {N ps:List Str} {sp:Sp} (lk:K.lookup f=some ⟨oc,od,.func (dj name qual params body scope dV kV doc pm an cdv ct),osl⟩) (hcd:gi K cdv qual=true) (S:jr N ps scope)
  (len:∀vs H Q E,sp vs H Q E->vs.length=ps.length)
  (hbody:∀(A:Around) (outer:List Env) (s:Shared) (H:Hp) (vs:List V) (Q:VK) (E:XK),mQ k (A.deeper (envOfC qual scope s.heap.objs.size f cdv))->sp vs H Q E ->
   ∃t,Lz (Ay CX P w K mg base N qual scope f cdv A outer s H E) body t/\t { nx:=λ _ H'=>Q .pZ H',rt:=Q } (start N vs) H) :
  yN P w K mg base CX (k+1) f (dj name qual params body scope dV kV doc pm an cdv ct) ps sp:=by
 refine⟨len,λ A outer s H args us vs Q E hr e0 hb r VM=>?_⟩
 have hl:=len _ _ _ _ VM
 have KX:K.In s.heap:=e0.mod.QD.keeps λ b o e=>(e0.bs b o e).1
 have lim:s.heap.NoLimit:=e0.mod.nolimit.keeps λ b o e=>(e0.bs b o e).1
 have hkind:∀y∈ps.zip us,scope.names.lookup y.1=some .local\/(scope.names.lookup y.1=some .cell/\((cellsFrom (s.heap.objs.size+1) scope.names []).lookup y.1).isSome=true):=λ⟨n,v⟩ hy=>by
  rcases S.Wt n (fU hy).1 with q | q
  ·exact .inl q
  ·exact .inr ⟨q,fk _ _ _ (.inl q)⟩
 refine codeAny_call_function hr.depth (KX _ _ lk) rfl S.co S.gen rfl (iO KX hcd) (hb _ _ _ _ ?_)
 refine wpAny_newFunctionEnv_cells S.kind hkind λ env he s1 x=>?_
 subst he
 refine⟨lim.keeps x.toInCall.keep,codeAny_func ?_⟩
 obtain⟨t,ht,hq⟩:=hbody A outer s H vs Q E (hr.deeper _) VM
 have I:Inv (Ay CX P w K mg base N qual scope f cdv A outer s H E) [] (start N vs) H s1:=C3 S hr.hd e0 hl r x
 refine wpAny_mono (ht [] s1 (start N vs) H _ I hq) (λ fl s' hs=>?_) λ e s' hs=>hs
 have fin:∀{σ':St} {H':Hp} {v:V} {u:Value},Inv (Ay CX P w K mg base N qual scope f cdv A outer s H E) [] σ' H' s'->RelV v u->Q v H'->CE outer P w H s Q u s':=
  λ {σ' H' v u} J rv q=>⟨v,H',J.os,J.bare,J.base,J.hok,rv,q⟩
 cases fl with
 |ret u=>
  obtain⟨v,σ',H',J,rv,q⟩:=hs;exact fin J rv q
 |next=>
  obtain⟨σ',H',J,q⟩:=hs;exact fin (v:=V.pZ) (u:=Value.none) J rfl q
 |brk=>
  obtain⟨_,_,_,q⟩:=hs;exact False.elim q
 |cont=>
  obtain⟨_,_,_,q⟩:=hs;exact False.elim q
end L2
namespace L2
open PySem PySem.Spec PyProof.Rows
section
variable{X:Cx}{x:Str}{p pos:Pos}{e:Expr}{es:List Expr}{t:TA}{id T:String}{r:List V->Hp->VK->Prop}
def Wu(r:List V->Hp->VK->Prop)(t:TA):TE:=λ σ H Q=>t σ H λ vs H1=>r vs H1 Q
theorem jX(hc:uv X (.builtin id) r)(hg:Gl X x)(hm:X.mg x=none)(hv:bootBuiltins x=some (.builtin id))(ha:PA X (e::es) t)(hn:x≠"__name__":=by decide)(hdb:(x==("__debug__":Str))=false:=by decide)
  (he:starEach (e::es) X.env=(false,eval e X.env)::starEach es X.env:=by rfl) (hpl:(backTo pos (starEach es X.env)).any (·.1)=false:=by rfl):PE X (.Call (.Name x p) (e::es) [] pos) (Wu r t):=by
 intro pins s σ H Q I h
 refine wpAny_Call_Name_kw (wL I hg hm hv ?_ hn hdb)
 exact PyProof.Rows.callWith_builtin1 (lQ (ha pos pins s σ H _ I h) λ us s1 ⟨vs,H1,I1,r1,q1⟩=>hc pins s1 σ H1 vs us Q I1 r1 q1) he hpl
theorem rM(hc:uv X (.type T) r)(hg:Gl X x)(hm:X.mg x=none)(hv:bootBuiltins x=some (.type T))(ha:PA X (e::es) t)(hn:x≠"__name__":=by decide)(hdb:(x==("__debug__":Str))=false:=by decide)
  (he:starEach (e::es) X.env=(false,eval e X.env)::starEach es X.env:=by rfl) (hpl:(backTo pos (starEach es X.env)).any (·.1)=false:=by rfl):PE X (.Call (.Name x p) (e::es) [] pos) (Wu r t):=by
 intro pins s σ H Q I h
 refine wpAny_Call_Name_kw (wL I hg hm hv ?_ hn hdb)
 exact PyProof.Rows.callWith_type1 (lQ (ha pos pins s σ H _ I h) λ us s1 ⟨vs,H1,I1,r1,q1⟩=>hc pins s1 σ H1 vs us Q I1 r1 q1) he hpl
end
end L2
namespace HT
open PySem PyProof.Rows
section
open PySem.SeqAt
open PySem.AutoSeq1 (wpAny_loadPart')
open PySem.MeetsSeq PySem.MeetsSeq2 PySem.MeetsSeq3
end
section
variable{prog:Program}{w:World}{A:Around}{E:Value->Shared->Prop}{s:Shared}
def GF(n d:Nat):Option Int->Nat
 |none=>d
 |some v=>if v<0 then (v+(n:Int)).toNat else min v.toNat n
theorem Ig(n d k:Nat):GF n d (some (k:Int))=min k n:=by
 show (if (k:Int)<0 then ((k:Int)+(n:Int)).toNat else min (k:Int).toNat n)=min k n
 rw[if_neg (by omega),bP]
end
end HT
namespace L2
open PySem PySem.Spec PyProof.Rows
abbrev TO:=St->Hp->(Option Int->Hp->Prop)->Prop
def PO(X:Cx)(e:Option Expr)(t:TO):Prop:=
 ∀(pins:List (Addr×Obj)) (s:Shared) (σ:St) (H:Hp) (Q:Option Int->Hp->Prop),Inv X pins σ H s->t σ H Q ->
  wpAny (model X.prog X.w) X.A (evalPart e X.env) (λ u s'=>∃o H',Inv X pins σ H' s'/\IsPart u o/\Q o H') X.xe s
def L7(t:TE):TO:=λ σ H Q=>t σ H λ x H1=>∃i,x=.int i/\Q (some i) H1
section
variable{X:Cx}{e:Expr}{te:TE}{lo hi:Option Expr}{tl th:TO}{pos p2:Pos}
theorem z7(h:PE X e te):PO X (some e) (L7 te):=by
 intro pins s σ H Q I hw
 rw[evalPart_some]
 refine lQ (h pins s σ H _ I hw) λ u s1 ⟨x,H1,I1,r1,q1⟩=>?_
 obtain⟨i,rfl,q⟩:=q1
 obtain⟨t,rfl⟩:=r1
 exact⟨some i,H1,I1,.int i t,q⟩
def XY(X:Cx)(r:V->Option Int->Option Int->Hp->VK->Prop):Prop:=
 ∀(pins:List (Addr×Obj)) (s:Shared) (σ:St) (H:Hp) (x:V) (v vl vu:Value) (lo hi:Option Int) (sl:Addr) (Q:VK),Inv X pins σ H s->RelV x v->s.heap.IsSliceOf sl vl vu .none->IsPart vl lo->IsPart vu hi->r x lo hi H Q ->
  ∃T id,typeLookup (.type T) "__getitem__" = pure (some (.builtin id))/\s.TypeIs v T/\wpAny (model X.prog X.w) X.A (getItem v (.ref sl)) (EP X pins σ Q) X.xe s
def XZ(r:V->Option Int->Option Int->Hp->VK->Prop)(te:TE)(tl th:TO):TE:=λ σ H Q=>te σ H λ x H1=>tl σ H1 λ l H2=>th σ H2 λ u H3=>r x l u H3 Q
theorem Fc{r:V->Option Int->Option Int->Hp->VK->Prop}(hr:XY X r)(he:PE X e te)(hl:PO X lo tl)(hu:PO X hi th):PE X (.Subscript e (.Slice lo hi none p2) pos) (XZ r te tl th):=by
 intro pins s σ H Q I h
 refine Subscript_ (lQ (he pins s σ H _ I h) λ v s1 ⟨x,H1,I1,r1,q1⟩=>?_)
 refine wpAny_Slice (lQ (hl pins s1 σ H1 _ I1 q1) λ vl s2 ⟨l,H2,I2,pl,q2⟩=>lQ (hu pins s2 σ H2 _ I2 q2) λ vu s3 ⟨u,H3,I3,pu,q3⟩=>?_)
 rw[evalPart_none]
 refine wpAny_pure ?_
 have I4:Inv X pins σ H3 { s3 with heap:=s3.heap.push { cls:=.type "slice",data:=.fields #[vl,vu,.none] } }:=I3.kept (t':=s3.toks) λ b ob q=>Heap.get?_push_of_some _ q
 obtain⟨T,id,hT,ht,hg⟩:=hr pins { s3 with heap:=s3.heap.push { cls:=.type "slice",data:=.fields #[vl,vu,.none] } } σ H3 x v vl vu l u s3.heap.objs.size Q I4 r1 (Heap.IsSliceOf.new ..) pl pu q3
 show wpAny (model X.prog X.w) X.A (subscriptTail e (.Slice lo hi none p2) v (.ref s3.heap.objs.size)) (EP X pins σ Q) X.xe { s3 with heap:=s3.heap.push { cls:=.type "slice",data:=.fields #[vl,vu,.none] } }
 exact tail_any (ops:=[.ref s3.heap.objs.size,v]) ht hT hg (by with_unfolding_all rfl)
def JH(xs:List V)(lo hi:Option Int):List V:=(xs.drop (HT.GF xs.length 0 lo)).take (HT.GF xs.length xs.length hi-HT.GF xs.length 0 lo)
theorem Fd(xs:List V)(lo hi:Option Int):(JH xs lo hi).length<=xs.length:=by
 unfold JH
 rw[aX,fJ]
 omega
end
end L2
namespace L2
open PySem PySem.Spec PyProof.Rows
def Ih(n:Nat)(i:Int):Option Nat:=if 0<=i then (if i<n then some i.toNat else none) else if -(n:Int)<=i then some (i+n).toNat else none
def Fe{α:Type}(xs:List α)(i:Int):Option α:=(Ih xs.length i).bind λ j=>xs[j]?
theorem Ii{n:Nat}{i:Int}{j:Nat}(h:Ih n i=some j):seqIndex? i n=some j/\j<n/\-(n:Int)<=i/\i<n:=by
 unfold Ih at h
 by_cases h0:0<=i
 ·rw[if_pos h0] at h
  by_cases h1:i<n
  ·rw[if_pos h1] at h;have e:i.toNat=j:=aS h;exact⟨by rw[seqIndex_of h0 h1,e],by omega,by omega,h1⟩
  ·rw[if_neg h1] at h;cases h
 ·rw[if_neg h0] at h
  by_cases h1:-(n:Int)<=i
  ·rw[if_pos h1] at h;have e:(i+n).toNat=j:=aS h;exact⟨by rw[seqIndex_neg (by omega) h1,e],by omega,h1,by omega⟩
  ·rw[if_neg h1] at h;cases h
theorem Il{α:Type}{xs:List α}{i:Int}{v:α}(h:Fe xs i=some v):∃j,seqIndex? i xs.length=some j/\xs[j]? = some v/\j<xs.length/\-(xs.length:Int)<=i/\i<xs.length:=by
 unfold Fe at h
 cases e:Ih xs.length i with
 |none=>rw[e] at h;cases h
 |some j=>
  rw[e] at h;obtain⟨h1,h2,h3,h4⟩:=Ii e;exact⟨j,h1,h,h2,h3,h4⟩
theorem sZ{α:Type}{xs:List α}{j:Nat}{v:α}(h:xs[j]? = some v):Fe xs (j:Int)=some v:=by
 have hj:j<xs.length:=(ao.mp h).1
 have e:Ih xs.length (j:Int)=some j:=by
  unfold Ih;rw[if_pos (by omega),if_pos (by omega)];simp
 unfold Fe;rw[e];exact h
def O1(b:Expr):Prop:=∀o i,subscripted b false o i=operate [o,i] (getItem o i)
def Uk(X:Cx)(r:R2):Prop:=
 ∀(value slice:Expr) (pins:List (Addr×Obj)) (s:Shared) (σ:St) (H:Hp) (x y:V) (v u:Value) (Q:VK),Inv X pins σ H s->RelV x v->RelV y u->r x y H Q ->
  subscripted slice false v u=operate [v,u] (getItem v u)->wpAny (model X.prog X.w) X.A (subscriptTail value slice v u) (EP X pins σ Q) X.xe s
def VN(X:Cx)(id:String)(r:V->List V->Hp->VK->Prop):Prop:=
 ∀(pins:List (Addr×Obj)) (s:Shared) (σ:St) (H:Hp) (x:V) (xs:List V) (v:Value) (us:List Value) (Q:VK),Inv X pins σ H s->RelV x v->Vals xs us->r x xs H Q ->
  wpAny (model X.prog X.w) X.A (call (.builtin id) (v::us)) (EP X pins σ Q) X.xe s
section
variable{X:Cx}{a b:Expr}{ta tb:TE}{pos:Pos}
theorem lZ{r:R2}(hr:Uk X r)(ha:PE X a ta)(hb:PE X b tb)(hs:O1 b):PE X (.Subscript a b pos) (QK r ta tb):=by
 intro pins s σ H Q I h
 exact Subscript_ (RC ha hb I h λ v u s2 x y H2 I2 rx ry q=>hr a b pins s2 σ H2 x y v u Q I2 rx ry q (hs _ _))
def Ul(K:ai):R2:=λ x y H Q=>∃p xs i v,x=.ref p/\y=.int i/\jE K H p xs/\Fe xs i=some v/\Q v H
def Um(K:ai):R2:=λ x y H Q=>∃p xs i v,x=.ref p/\y=.int i/\rH K H p xs/\Fe xs i=some v/\Q v H
theorem Im:Uk X (Ul X.K):=by
 intro value slice pins s σ H x y v u Q I rx ry h hs
 obtain⟨p,xs,i,z,rfl,rfl,hq,he,q⟩:=h
 cases rx
 obtain⟨t,rfl⟩:=ry
 obtain⟨its,r,pl,hz⟩:=I.list hq
 obtain⟨j,h1,h2,h3,h4,h5⟩:=Il he
 obtain⟨w,ew,rw'⟩:=r.get h2
 have hl:=r.length
 have hn:=As
 have fin:EP X pins σ Q w s:=⟨z,H,I,rw',q⟩
 by_cases h0:0<=i
 ·have hj:i.toNat=j:=by
   rw[seqIndex_of h0 h5] at h1;exact aS h1
  exact item_listR pl.isList h0 (by omega) (by rw[hj];simpa using ew) fin hs
 ·have hj:(i+(its.toArray.size:Int)).toNat=j:=by
   rw[seqIndex_neg (by omega) h4] at h1;rw[aC,<-hl];exact aS h1
  exact subscriptTail_builtinR (x:=w) pl.isList.typeIs slot_list_getitem.lookup
   (wpAny_getItem_list_neg (Q:=λ r s'=>r=w/\EP X pins σ Q r s') pl.isList (by omega) (by rw[aC]<;>omega) (by omega) (by rw[hj];simpa using ew) ⟨rfl,fin⟩) hs
theorem RK:Uk X (Um X.K):=by
 intro value slice pins s σ H x y v u Q I rx ry h hs
 obtain⟨p,xs,i,z,rfl,rfl,hq,he,q⟩:=h
 cases rx
 obtain⟨t,rfl⟩:=ry
 obtain⟨its,r,pl,hz⟩:=I.tuple hq
 obtain⟨j,h1,h2,h3,h4,h5⟩:=Il he
 obtain⟨w,ew,rw'⟩:=r.get h2
 have hl:=r.length
 have hn:=As
 have fin:EP X pins σ Q w s:=⟨z,H,I,rw',q⟩
 exact subscriptTail_builtinR (x:=w) pl.typeIs slot_tuple_getitem.lookup
  (getItem_tuple (j:=j) (Q:=λ r s'=>r=w/\EP X pins σ Q r s') pl (by omega) (by omega) (by rw[aC,<-hl];exact h1) (by simpa using ew) ⟨rfl,fin⟩) hs
theorem GY(its:List Value)(n j:Nat)(u:Value):Obj.mapSeq (·.setIfInBounds j u) { cls:=.type "list",data:=.seq its.toArray n } = { cls:=.type "list",data:=.seq (its.set j u).toArray n }:=by
 simp[Obj.mapSeq]
theorem Inv.lst{pins:List (Addr×Obj)}{σ:St}{H:Hp}{s:Shared}{p:Addr}{xs:List V}(I:Inv X pins σ H s)(h:H p=some (.lst xs)) :
  ∃(its:List Value) (n:Nat),Vals xs its/\s.heap.get? p=some { cls:=.type "list",data:=.seq its.toArray n }/\xs.length<=sizeLine:=by
 obtain⟨z,its,n,r,e⟩:=I.hok p _ h
 exact⟨its,n,r,e,z⟩
theorem Inv.RL{pins:List (Addr×Obj)}{σ:St}{H:Hp}{s:Shared}{p:Addr}{xs ys:List V}{its its':List Value}{n n':Nat}{f:Obj->Obj}(I:Inv X pins σ H s)(h:H p=some (.lst xs))
  (ho:s.heap.get? p=some { cls:=.type "list",data:=.seq its.toArray n }) (hf:f { cls:=.type "list",data:=.seq its.toArray n } = { cls:=.type "list",data:=.seq its'.toArray n' }) (r:Vals ys its') (hz:ys.length<=sizeLine) (t:Nat) :
  Inv X pins σ (upd H p (.lst ys)) { s with heap:=s.heap.update p f,toks:=t }:=by
 have e:(s.heap.update p f).get? p=some { cls:=.type "list",data:=.seq its'.toArray n' }:=by
  rw[Heap.get?_update_self f ho (by rw[hf]<;>rfl),hf]
 refine I.write (x:=p) (e:=p) (by rw[h];trivial) (.inl rfl) (λ b u hb q=>(Heap.get?_update_other _ _ (Ne.symm hb)).trans q) ⟨_,e⟩ ?_
 exact⟨hz,its',n',r,e⟩
def Uo:V->V->V->Hp->(Hp->Prop)->Prop:=λ o i v H Q=>∃p xs k j,o=.ref p/\i=.int k/\H p=some (.lst xs)/\Ih xs.length k=some j/\Q (upd H p (.lst (xs.set j v)))
theorem set_list:Rv X Uo:=by
 intro pins s σ H o i v ov iv u Q I ro ri rv h
 obtain⟨p,xs,k,j,rfl,rfl,hp,hj,q⟩:=h
 cases ro
 obtain⟨t,rfl⟩:=ri
 obtain⟨its,n,r,ho,hz⟩:=I.lst hp
 obtain⟨h1,h2,h3,h4⟩:=Ii hj
 have hl:=r.length
 have hn:=As
 have I':Inv X pins σ (upd H p (.lst (xs.set j v))) { s with heap:=s.heap.update p (Obj.mapSeq (·.setIfInBounds j u)) }:=
  I.RL hp ho (GY its n j u) (r.set rv j) (by rw[cy];exact hz) s.toks
 by_cases h0:0<=k
 ·have hk:k.toNat=j:=by
   rw[seqIndex_of h0 h4] at h1;exact aS h1
  exact PySem.W.ki_setAt ho h0 (by omega) (by rw[aC,<-hl];exact h4) (by rw[hk];exact⟨_,I',q⟩)
 ·have hk:(k+(its.toArray.size:Int)).toNat=j:=by
   rw[seqIndex_neg (by omega) h3] at h1;rw[aC,<-hl];exact aS h1
  exact PySem.W.ki_setBack ho (by omega) (by rw[aC,<-hl];exact h3) (by omega) (by rw[hk];exact⟨_,I',q⟩)
theorem D9(lo hi:Option Int)(n:Nat):(sliceBounds lo hi none n).1=((HT.GF n 0 lo:Nat):Int)/\(sliceBounds lo hi none n).2.1=((HT.GF n n hi:Nat):Int)/\(sliceBounds lo hi none n).2.2=1:=by
 refine⟨?_,?_,rfl⟩
 ·cases lo with
  |none=>simp[sliceBounds,HT.GF]
  |some i=>
   simp only[sliceBounds,HT.GF,Option.getD_none,show (1:Int)>0 by decide,if_true]
   by_cases h:i<0
   ·simp only[h,if_true]<;>omega
   ·simp only[h,if_false]<;>omega
 ·cases hi with
  |none=>simp[sliceBounds,HT.GF]
  |some i=>
   simp only[sliceBounds,HT.GF,Option.getD_none,show (1:Int)>0 by decide,if_true]
   by_cases h:i<0
   ·simp only[h,if_true]<;>omega
   ·simp only[h,if_false]<;>omega
theorem Cs(its:List Value)(lo hi:Option Int):slicePick its.toArray lo hi none=((its.drop (HT.GF its.length 0 lo)).take (HT.GF its.length its.length hi-HT.GF its.length 0 lo)).toArray:=by
 obtain⟨h1,h2,h3⟩:=D9 lo hi its.toArray.size
 unfold slicePick
 rw[h1,h2,h3]
 simp only[sliceRange_one,pick_run,aC]<;>rfl
def Uq(K:ai):V->Option Int->Option Int->Hp->VK->Prop:=λ x lo hi H Q=>∃a xs,x=.ref a/\jE K H a xs/\∀p,H p=none->Q (.ref p) (upd H p (.lst (JH xs lo hi)))
theorem Io:XY X (Uq X.K):=by
 intro pins s σ H x v vl vu lo hi sl Q I rx hs pl pu h
 obtain⟨a,xs,rfl,hx,q⟩:=h
 cases rx
 obtain⟨its,r,ht,hz⟩:=I.list hx
 have hlen:=r.length
 refine⟨"list",_,slot_list_getitem.lookup,ht.isList.typeIs,?_⟩
 refine wpAny_getItem_list_slice ht.isList hs pl pu .none (by simp) ?_ (by rw[aC]<;>omega)
 rw[Cs,<-hlen]
 refine⟨.ref s.heap.objs.size,_,I.laid (t':=s.toks) (o:=.lst (JH xs lo hi)) (λ b ob q=>Heap.get?_push_of_some _ q) (aq _) ?_,rfl,q _ (I.hok.fresh (aq _))⟩
 exact⟨bf (Fd xs lo hi) hz,_,0,(r.drop (HT.GF xs.length 0 lo)).take (HT.GF xs.length xs.length hi-HT.GF xs.length 0 lo),Heap.get?_push_size _ rfl⟩
theorem jK:uv X (.builtin "len") (λ xs H Q=>∃p ys,xs=[.ref p]/\(jE X.K H p ys\/rH X.K H p ys)/\Q (.int ys.length) H):=by
 intro pins s σ H xs us Q I r h
 obtain⟨p,ys,rfl,hq,q⟩:=h
 obtain⟨u,rfl,rx⟩:=vals1 r
 cases rx
 have hn:=As
 rcases hq with hq | hq
 ·obtain⟨its,r',pl,hz⟩:=I.list hq
  have hlen:=r'.length;exact Calls.call_len_list pl.isList (by simp only[aC]<;>omega) ⟨.int ys.length,H,I.tok _,⟨s.toks+1,by rw[aC,hlen]⟩,q⟩
 ·obtain⟨its,r',pl,hz⟩:=I.tuple hq
  have hlen:=r'.length;exact len_tuple pl (by simp only[aC]<;>omega) ⟨.int ys.length,H,I.tok _,⟨s.toks+1,by rw[aC,hlen]⟩,q⟩
theorem tu:uv X (.type "list") (λ xs H Q=>∃p ys,xs=[.ref p]/\(jE X.K H p ys\/rH X.K H p ys)/\∀l,H l=none->Q (.ref l) (upd H l (.lst ys))):=by
 intro pins s σ H xs us Q I r h
 obtain⟨p,ys,rfl,hq,q⟩:=h
 obtain⟨u,rfl,rx⟩:=vals1 r
 cases rx
 have fin:∀(its:List Value),Vals ys its->ys.length<=sizeLine->∀(h':Heap) (c':Nat),(∀b o',s.heap.get? b=some o'->h'.get? b=some o') ->
   h'.get? s.heap.objs.size=some { cls:=.type "list",dict:=none,data:=.seq its.toArray c',slots:=#[] }->EP X pins σ Q (.ref s.heap.objs.size) { s with heap:=h' }:=λ its r' hz h' c' kp e=>
  ⟨.ref s.heap.objs.size,_,I.laid (t':=s.toks) kp (aq _) (show n6 X.prog X.w _ h' _ (.lst ys) from ⟨hz,its,c',r',e⟩),rfl,q _ (I.hok.fresh (aq _))⟩
 rcases hq with hq | hq
 ·obtain⟨its,r',pl,hz⟩:=I.list hq
  have hlen:=r'.length;obtain⟨o,ho,hc,n,hd⟩:=pl.isList;exact call_list_seq p (.inl rfl) ho hc hd (λ h' c' kp e=>fin its r' hz h' c' kp e) (by simp only[aC]<;>omega)
 ·obtain⟨its,r',pl,hz⟩:=I.tuple hq
  have hlen:=r'.length;obtain⟨o,ho,hc,n,hd⟩:=pl;exact call_list_seq p (.inr rfl) ho hc hd (λ h' c' kp e=>fin its r' hz h' c' kp e) (by simp only[aC]<;>omega)
theorem Ct:uv X (.type "tuple") (λ xs H Q=>∃p ys,xs=[.ref p]/\((jE X.K H p ys/\∀l,H l=none->Q (.ref l) (upd H l (.tup ys)))\/(rH X.K H p ys/\Q (.ref p) H))):=by
 intro pins s σ H xs us Q I r h
 obtain⟨p,ys,rfl,h⟩:=h
 obtain⟨u,rfl,rx⟩:=vals1 r
 cases rx
 rcases h with ⟨hq,q⟩ | ⟨hq,q⟩
 ·obtain⟨its,r',pl,hz⟩:=I.list hq
  have hlen:=r'.length;refine call_tuple_list pl.isList (λ h' kp=>?_) (by simp only[aC]<;>omega);have I1:Inv X pins σ H { s with heap:=h' }:=I.kept (t':=s.toks) kp;have I2:Inv X pins σ (upd H h'.objs.size (.tup ys)) { s with heap:=h'.push { cls:=.type "tuple",data:=.seq its.toArray } }:=
   I1.laid (t':=s.toks) (λ b o e=>Heap.get?_push_of_some _ e) (aq _) (show n6 X.prog X.w _ _ _ (.tup ys) from ⟨hz,its,r',IsTup.new _ _⟩)
  exact⟨.ref h'.objs.size,_,I2,rfl,q _ (I1.hok.fresh (aq _))⟩
 ·obtain⟨its,r',pl,hz⟩:=I.tuple hq
  exact call_tuple_same pl ⟨.ref p,H,I,rfl,q⟩
def X3(K:ai)(T:String)(x:V)(H:Hp):Prop:=match x with
 |.str _=>T = "str"
 |.int _=>T = "int"
 |.ref p=>(T = "list"/\∃xs,jE K H p xs)\/(T = "tuple"/\∃o,K.lookup p=some o/\o.cls=.type "tuple"/\o.dict=none) \/
   (T = "dict"/\((∃kvs,H p=some (.dK kvs))\/∃kvs,H p=some (.dT kvs)))\/(T = "set"/\∃S n,H p=some (.set S n))
 |_=>False
theorem RM{pins:List (Addr×Obj)}{σ:St}{H:Hp}{s:Shared}{T:String}{x:V}{v:Value}(I:Inv X pins σ H s)(r:RelV x v)(ty:X3 X.K T x H) :
  s.TypeIs v T/\∀a,v=.ref a->∃ob,s.heap.get? a=some ob/\ob.dict=none:=by
 cases x with
 |str z=>
  obtain⟨t,rfl⟩:=r
  cases (show T = "str" from ty);exact⟨typeIs_str s z t,λ _ e=>nomatch e⟩
 |int i=>
  obtain⟨t,rfl⟩:=r
  cases (show T = "int" from ty);exact⟨typeIs_int s i t,λ _ e=>nomatch e⟩
 |ref p=>
  cases r
  rcases ty with ⟨rfl,xs,hq⟩ | ⟨rfl,o,hk,hc,hd⟩ | ⟨rfl,hk⟩ | ⟨rfl,S,n,hk⟩
  ·obtain⟨its,_,pl,_⟩:=I.list hq;refine⟨pl.isList.typeIs,λ a e=>?_⟩
   cases e;obtain⟨o,n,e,c,hd,_⟩:=pl;exact⟨o,e,hd⟩
  ·refine⟨⟨o,I.GC p o hk,hc⟩,λ a e=>?_⟩
   cases e;exact⟨o,I.GC _ o hk,hd⟩
  ·have z:∃o,s.heap.get? p=some o/\o.ExactDict:=by
    rcases hk with ⟨kvs,hk⟩ | ⟨kvs,hk⟩
    ·obtain⟨_,_,_,_,o,_,_,e,ex,_⟩:=I.hok p _ hk;exact⟨o,e,ex⟩
    ·obtain⟨_,_,_,_,o,_,_,e,ex,_⟩:=I.hok p _ hk;exact⟨o,e,ex⟩
   obtain⟨o,e,ex⟩:=z;refine⟨⟨o,e,ex.1⟩,λ a e2=>?_⟩
   cases e2;exact⟨o,e,ex.2.1⟩
  ·obtain⟨o,_,_,_,e,ex,_⟩:=I.hok p _ hk;refine⟨⟨o,e,ex.1⟩,λ a e2=>?_⟩
   cases e2;exact⟨o,e,ex.2.1⟩
 |_=>exact False.elim ty
def X4(K:ai)(T:String)(r:V->List V->Hp->VK->Prop)(to:TE)(t:TA):TE:=λ σ H Q=>to σ H λ x H1=>X3 K T x H1/\t σ H1 λ xs H2=>r x xs H2 Q
variable{o e:Expr}{es:List Expr}{to:TE}{t:TA}{name:Str}{apos cpos:Pos}{T id:String}{r:V->List V->Hp->VK->Prop}
theorem C4(pa:PlainAttrs T)(slot:Slot T name id)(hty:typeOf (.builtin id)=pure (.type "method_descriptor"))(hm:VN X id r)(ho:PE X o to)(ha:PA X (e::es) t)
  (hbase:attributeBase o name X.env (eval o X.env)=eval o X.env:=by rfl)
  (hfew:((backTo cpos (starEach (e::es) X.env)).all (λ x=>!x.1)&&(backToKw cpos (keywordEach [] X.env)).all (λ x=>x.1.isSome)
   && decide ((e::es).length+([]:List Keyword).length+(if ([]:List Keyword).isEmpty then 0 else 1)<30))=true:=by rfl)
  (hline:(apos.endLine==cpos.line)=true:=by rfl) (hs:starEach (e::es) X.env=(false,eval e X.env)::starEach es X.env:=by rfl) (hplain:(backTo cpos (starEach es X.env)).any (·.1)=false:=by rfl) :
  PE X (.Call (.Attribute o name apos) (e::es) [] cpos) (X4 X.K T r to t):=by
 intro pins s σ H Q I h
 refine wpAny_Call_method_late hbase hfew hline rfl (lQ (ho pins s σ H _ I h) λ v s1 ⟨x,H1,I1,r1,ty,q1⟩=>?_)
 obtain⟨h1,h2⟩:=RM I1 r1 ty
 refine⟨T,id,pa,slot,hty,h1,h2,?_⟩
 have hA:=ha cpos pins s1 σ H1 _ I1 q1
 rw[hs] at hA ⊢
 refine Calls.callWith_builtin (by show (false||(backTo cpos (starEach es X.env)).any (·.1))=false;rw[hplain]<;>rfl) (Calls.evalArgs_plain ?_)
 exact lQ hA λ us s2 ⟨vs,H2,I2,r2,q2⟩=>hm pins s2 σ H2 x vs v us Q I2 r1 r2 q2
end
end L2
namespace L2
open PySem PySem.Spec PyProof.Rows
def X5(X:Cx)(id:String)(r:V->List V->Hp->VK->Prop):Prop:=
 ∀(pins:List (Addr×Obj)) (s:Shared) (σ:St) (H:Hp) (x:V) (xs:List V) (v:Value) (us:List Value) (Q:VK),Inv X pins σ H s->RelV x v->Vals xs us->r x xs H Q ->
  wpAny (model X.prog X.w) X.A (call (.builtin id) (v::us)) (EP X pins σ Q) X.xe s
theorem Vals.one:∀{x:V}{us:List Value},Vals [x] us->∃u,us=[u]/\RelV x u
 |_,_,.cons r .nil=>⟨_,rfl,r⟩
theorem Vals.reverse{xs:List V}{us:List Value}(h:Vals xs us):Vals xs.reverse us.reverse:=by
 induction h with
 |nil=>exact .nil
 |cons r t ih=>rw[List.reverse_cons,List.reverse_cons];exact Vals.append ih (.cons r .nil)
theorem Vals.rep{xs:List V}{us:List Value}(h:Vals xs us):∀k:Nat,Vals (aF k xs).flatten (aF k us).flatten
 |0=>.nil
 |k+1=>by
  rw[cJ,cJ,dN,dN];exact Vals.append h (Vals.rep h k)
theorem foldl_rep(its:List Value):∀(k:Nat) (acc:List Value),
  List.foldl (λ x1 x2=>x1++x2) acc.toArray (aF k its.toArray)=(acc++(aF k its).flatten).toArray
 |0,acc=>by simp
 |k+1,acc=>by
  have e:acc.toArray++its.toArray=(acc++its).toArray:=by simp
  have e2:(acc++its)++(aF k its).flatten=acc++(aF (k+1) its).flatten:=by
   rw[cJ,dN,cG]
  rw[<-e2,<-foldl_rep its k (acc++its),<-e,cJ,dD]
section
variable{X:Cx}{pins:List (Addr×Obj)}{σ:St}{H:Hp}{s:Shared}{l b:Addr}{xs ys zs:List V}
theorem Inv.Ur{its its':List Value}{n:Nat}{f:Array Value->Array Value}{t':Nat}(I:Inv X pins σ H s)(hH:H l=some (.lst xs))
  (e:s.heap.get? l=some { cls:=.type "list",data:=.seq its.toArray n }) (hf:f its.toArray=its'.toArray) (hv:Vals ys its') (hz:ys.length<=sizeLine) :
  Inv X pins σ (upd H l (.lst ys)) { s with heap:=s.heap.update l (Obj.mapSeq f),toks:=t' }:=by
 have q:=PySem.IsL.update e f
 rw[hf] at q
 refine I.write (x:=l) (e:=l) (by rw[hH];exact trivial) (.inl rfl) (λ b' u hb hu=>(Heap.get?_update_other s.heap (Obj.mapSeq f) (Ne.symm hb)).trans hu) ⟨_,q⟩ ?_
 exact⟨hz,its',_,hv,q⟩
theorem Inv.Us{its:List Value}{t':Nat}(I:Inv X pins σ H s)(hv:Vals ys its)(hz:ys.length<=sizeLine) :
  Inv X pins σ (upd H s.heap.objs.size (.lst ys)) { s with heap:=s.heap.push { cls:=.type "list",data:=.seq its.toArray },toks:=t' }:=
 I.laid (λ _ _ q=>Heap.get?_push_of_some _ q) (aq _) ⟨hz,its,0,hv,Heap.get?_push_size _ rfl⟩
theorem Inv.fresh(I:Inv X pins σ H s):H s.heap.objs.size=none:=I.hok.fresh (aq _)
theorem Inv.JI(I:Inv X pins σ H s)(hH:H l=some (.lst xs)):xs.length<=sizeLine/\∃(its:List Value) (n:Nat),Vals xs its/\xs.length=its.length/\s.heap.get? l=some { cls:=.type "list",data:=.seq its.toArray n }:=by
 obtain⟨z,its,n,r,e⟩:=I.hok l _ hH
 exact⟨z,its,n,r,r.length,e⟩
theorem Ff{n:Nat}(h:n<=sizeLine):Builtin.List.listTooLong n=false:=by
 unfold Builtin.List.listTooLong
 exact decide_eq_false (by omega)
end
section
variable{X:Cx}
def O2:V->List V->Hp->VK->Prop:=λ x vs H Q=>∃l xs y,x=.ref l/\vs=[y]/\H l=some (.lst xs)/\xs.length<sizeLine/\Q .pZ (upd H l (.lst (xs++[y])))
theorem vC:X5 X "list.append" O2:=by
 intro pins s σ H x vs v us Q I rx rv h
 obtain⟨l,xs,y,rfl,rfl,hH,hz,q⟩:=h
 cases rx
 obtain⟨u,rfl,ru⟩:=rv.one
 obtain⟨z,its,n,r,hl,e⟩:=I.JI hH
 refine call_meets F.slot_list_append ⟨_,e,rfl⟩ F.entry_list_append (F.args_list_append_2 _ _) (PySem.list_append l its.toArray n u (by rw[aC];omega)) ⟨e,?_⟩
 refine⟨.pZ,_,I.Ur (its':=its++[u]) hH e (by simp) (r.append (.cons ru .nil)) ?_,rfl,q⟩
 rw[aE,List.length_singleton]
 omega
def O3:V->List V->Hp->VK->Prop:=λ x vs H Q=>∃l b xs zs,x=.ref l/\vs=[.ref b]/\H l=some (.lst xs)/\H b=some (.lst zs)/\xs.length+zs.length<=sizeLine/\Q .pZ (upd H l (.lst (xs++zs)))
theorem JJ:X5 X "list.extend" O3:=by
 intro pins s σ H x vs v us Q I rx rv h
 obtain⟨l,b,xs,zs,rfl,rfl,hH,hB,hz,q⟩:=h
 cases rx
 obtain⟨u,rfl,ru⟩:=rv.one
 cases ru
 obtain⟨z,its,n,r,hl,e⟩:=I.JI hH
 obtain⟨z2,its2,n2,r2,hl2,e2⟩:=I.JI hB
 have hsz:its.toArray.size+its2.toArray.size<=sizeLine:=by rw[aC,aC];omega
 have L8:¬(!its.toArray.isEmpty&&Builtin.List.listTooLong (its.toArray.size+its2.toArray.size))=true:=by
  rw[Ff hsz,iw];exact aN
 refine call_meets F.slot_list_extend ⟨_,e,rfl⟩ F.entry_list_extend (F.args_list_extend_2 _ _)
  (AutoSeq1.list_extend_list_list_0 l its.toArray n b its2.toArray n2 L8 (by rw[aC];omega) (by omega)) ⟨e,e2,?_⟩
 refine⟨.pZ,_,I.Ur (its':=its++its2) hH e (by simp) (r.append r2) ?_,rfl,q⟩
 rw[aE]
 omega
def Ut:R2:=λ x y H Q=>∃l b xs zs,x=.ref l/\y=.ref b/\H l=some (.lst xs)/\H b=some (.lst zs)/\xs.length+zs.length<=sizeLine/\∀p,H p=none->Q (.ref p) (upd H p (.lst (xs++zs)))
theorem wR:vB X (binaryOp .Add) Ut:=by
 intro pins s σ H x y v u Q I rx ry h
 obtain⟨l,b,xs,zs,rfl,rfl,hH,hB,hz,q⟩:=h
 cases rx
 cases ry
 obtain⟨z,its,n,r,hl,e⟩:=I.JI hH
 obtain⟨z2,its2,n2,r2,hl2,e2⟩:=I.JI hB
 refine PySem.P.add_list e e2 ?_ (by rw[aC,aC];omega)
 have ea:its.toArray++its2.toArray=(its++its2).toArray:=by simp
 rw[ea]
 exact⟨.ref _,_,I.Us (t':=s.toks) (r.append r2) (by rw[aE];omega),rfl,q _ I.fresh⟩
def Wv:R2:=λ x y H Q=>∃l k xs,x=.ref l/\y=.int k/\H l=some (.lst xs)/\-(2^63)<=k/\k<2^63/\xs.length*k.toNat<=sizeLine /\
 ∀p,H p=none->Q (.ref p) (upd H p (.lst (aF k.toNat xs).flatten))
theorem len_rep{α:Type}(xs:List α)(k:Nat):(aF k xs).flatten.length=k*xs.length:=by
 induction k with
 |zero=>simp
 |succ k ih=>rw[cJ,dN,aE,ih,Nat.succ_mul,Nat.add_comm]
theorem RN:vB X (binaryOp .Mult) Wv:=by
 intro pins s σ H x y v u Q I rx ry h
 obtain⟨l,k,xs,rfl,rfl,hH,h1,h2,hz,q⟩:=h
 cases rx
 obtain⟨t,rfl⟩:=ry
 obtain⟨z,its,n,r,hl,e⟩:=I.JI hH
 have hlen:its.toArray.size*k.toNat<=sizeLine:=by rw[aC,<-hl];exact hz
 have hcap:¬its.toArray.size*k.toNat>(2^63-1)/8:=by
  have:(sizeLine:Nat)<=(2^63-1)/8:=by decide
  omega
 have hfit:¬(!Builtin.List.listFitsIndex k)=true:=by
  rw[fitsIndex_both h1 h2];exact aN
 have L8:¬Builtin.List.listTooLong (its.toArray.size*k.toNat)=true:=by
  rw[Ff hlen];exact aN
 have hnew:List.foldl (λ x1 x2=>x1++x2) #[] (aF (if its.toArray.isEmpty=true then 0 else k.toNat) its.toArray)=(aF k.toNat its).flatten.toArray:=by
  have f0:∀m:Nat,List.foldl (λ x1 x2=>x1++x2) #[] (aF m its.toArray)=(aF m its).flatten.toArray:=λ m=>by
   have:=foldl_rep its m [];rw[dF] at this;exact this
  rw[f0]
  cases its with
  |nil=>simp
  |cons a r'=>rw[if_neg (by simp)]
 refine wpAny_binaryOp_repeat_ref (T:="list") (U:="int") (by decide) ⟨_,e,rfl⟩ (λ s'=>typeIs_int s' k t) noFill_list_mul F.fills_int_mul F.slot_int_rmul repeat_list F.slot_int_index.lookup
  (call_meets F.slot_int_rmul (typeIs_int s k t) F.entry_int_rmul (F.args_int_rmul_2 _ _) (int___rmul___int_list k t l its.toArray n)
   ⟨e,rfl,⟨_,e,rfl⟩,call_meets F.slot_list_mul ⟨_,e,rfl⟩ F.entry_list_mul (F.args_list_mul_2 _ _) (AutoListH.list___mul___list_int_3 l its.toArray n k t hfit hcap L8) ⟨e,?_⟩⟩)
 rw[hnew]
 exact⟨.ref _,_,I.Us (t':=s.toks) (r.rep k.toNat) (by rw[len_rep,gT];exact hz),rfl,q _ I.fresh⟩
end
section
variable{prog:Program}{w:World}{A:Around}{E:Value->Shared->Prop}{s:Shared}
set_option maxRecDepth 100000 in
end
section
variable{X:Cx}
end
end L2
namespace L2
open PySem PySem.Spec PyProof.Rows
theorem Vals.ints:∀{ns:List Int}{us:List Value},Vals (ns.map V.int) us->IntsAre us ns
 |[],us,h=>by
  rw[bQ] at h
  cases h;exact IntsAre.nil
 |n::ns,us,h=>by
  rw[aU] at h
  cases h with
  |cons r t=>
   obtain⟨k,rfl⟩:=r;exact IntsAre.cons n k (Vals.ints t)
theorem Eb:∀{us:List Value}{ns:List Int},IntsAre us ns->Vals (ns.map V.int) us
 |_,_,.nil=>by rw[bQ];exact Paired.nil
 |_,_,.cons n t h=>by rw[aU];exact Paired.cons (show RelV (V.int n) (Value.int n t) from ⟨t,rfl⟩) (Eb h)
theorem Vals.X6:∀{bs:List Bool}{us:List Value},Vals (bs.map V.bl) us->us=bs.map Value.bool
 |[],us,h=>by
  rw[bQ] at h
  cases h;rfl
 |b::bs,us,h=>by
  rw[aU] at h
  cases h with
  |cons r t=>
   cases r;rw[Vals.X6 t,aU]
theorem Vals.JK{a:Addr}{us:List Value}(r:Vals [V.ref a] us):us=[Value.ref a]:=by
 cases r with
 |cons r t=>
  cases t
  cases r;rfl
section
variable{prog:Program}{w:World}{A:Around}{E:Value->Shared->Prop}{s:Shared}{l:Addr}{its:List Value}{ns:List Int}{Q:Value->Shared->Prop}
theorem O4(hh:A.handled=none)(hl:s.heap.IsList l its.toArray)(hi:IntsAre its ns)
  (h:∀h' tk t',(∀b o,s.heap.get? b=some o->h'.get? b=some o)->Q (.int ns.sum t') { s with heap:=h',toks:=tk }):wpAny (model prog w) A (call (.builtin "sum") [.ref l]) Q E s:=by
 obtain⟨xs,e⟩:=hi.allInts.items
 have hn:numsOf (intItems xs).toList=ns:=by rw[<-e];exact hi.numsOf
 rw[nums_intItems] at hn
 rw[e] at hl
 refine PySem.sum_intListG hh hl λ h' tk t' hk=>?_
 have:=h h' tk t' hk
 rw[preSum_eq,aA (by simp),hn];exact this
end
section
variable{X:Cx}
def Ww(K:ai):List V->Hp->VK->Prop:=λ vs H Q=>∃(a:Addr) (ns:List Int),vs=[V.ref a]/\jE K H a (ns.map V.int)/\Q (.int ns.sum) H
theorem Ma(hc:X.calm=true):uv X (.builtin "sum") (Ww X.K):=by
 intro pins s σ H vs us Q I r h
 obtain⟨a,ns,rfl,hs,q⟩:=h
 obtain⟨its,rv,hl,_⟩:=I.list hs
 rw[Vals.JK r]
 exact O4 (I.ok.hd hc) hl.isList rv.ints λ h' tk t' hk=>⟨.int _,H,I.kept hk,⟨_,rfl⟩,q⟩
end
section
variable{X:Cx}
end
section
variable{X:Cx}
end
theorem Fg{prog:Program}{w:World}{A:Around}{E:Value->Shared->Prop}{s:Shared}{l:Addr}{items:Array Value}{Q:Value->Shared->Prop}(hl:s.heap.IsList l items)
  (h:∀s₂:Shared,s₂ = { s with heap:=s.heap.push { cls:=.type "list_iterator",data:=.fields #[.ref l,.int 0 0] } } ->
   (s₂.heap.IsListIter s.heap.objs.size l 0/\s₂.heap.IsList l items)->l≠s.heap.objs.size->Q (.ref s.heap.objs.size) s₂):wpAny (model prog w) A (pyIter (.ref l)) Q E s:=by
 have hlt:l<s.heap.objs.size:=by obtain⟨_,e,_⟩:=hl;exact Heap.lt_size e
 exact wpAny_pyIter_list hl (h _ rfl ⟨⟨_,Heap.get?_push_size _ rfl,rfl,rfl⟩,hl.push _⟩ (aV hlt))
theorem Fi{prog:Program}{w:World}{A:Around}{bs:List Bool}{its:List Value}(e:its=bs.map Value.bool) :
  TruthOf prog w A (λ i v=>its.toArray[i]? = some v) (λ i=>bs.getD i false):=λ i v s Q E hv hq=>by
 have hv':its[i]? = some v:=by simpa using hv
 rw[e,aj] at hv'
 obtain⟨b,hb,rfl⟩:=dm.mp hv'
 have hg:bs.getD i false=b:=by rw[aa,hb]<;>rfl
 have hq':Q (bs.getD i false) s:=hq
 rw[hg] at hq'
 exact wpAny_truthy_bool hq'
theorem any_range:∀bs:List Bool,(ay bs.length).any (λ i=>bs.getD i false)=bs.any id
 |[]=>rfl
 |b::bs=>by
  rw[aK,fm,List.any_cons,List.any_map,List.any_cons,<-any_range bs]
  all_goals rfl
theorem all_range:∀bs:List Bool,(ay bs.length).all (λ i=>bs.getD i false)=bs.all id
 |[]=>rfl
 |b::bs=>by
  rw[aK,fm,dJ,List.all_map,dJ,<-all_range bs]
  all_goals rfl
section
variable{X:Cx}
def Wx(K:ai):List V->Hp->VK->Prop:=λ vs H Q=>∃(a:Addr) (bs:List Bool),vs=[V.ref a]/\jE K H a (bs.map V.bl)/\Q (.bl (bs.all id)) H
theorem RO(hc:X.calm=true):uv X (.builtin "all") (Wx X.K):=by
 intro pins s σ H vs us Q I r h
 obtain⟨a,bs,rfl,hs,q⟩:=h
 obtain⟨its,rv,hl,_⟩:=I.list hs
 rw[Vals.JK r]
 have hb:=rv.X6
 refine call_all_walk (Fg hl.isList λ s₂ e2 st hne=>?_)
 subst e2
 refine⟨_,_,_,_,_,_,_,rfl,Walks.list (A:=X.A.in1) (I.ok.hd hc) _ a hne its.toArray,st,Fi hb,λ h' tk hk=>?_⟩
 refine⟨.bl _,H,I.kept λ b o eo=>hk b o (λ hmem=>?_) (Heap.get?_push_of_some _ eo),?_,q⟩
 ·rcases aB.mp hmem with e1 | hmem
  ·exact absurd (e1 ▸ Heap.lt_size eo) (bJ _)
  ·cases hmem
 ·show Value.bool _=Value.bool _
  rw[<-all_range,hb,aC,ah]
end
mutual
inductive Dp(K:ai)(H:Hp):V->PyData->Prop
 |pZ:Dp K H .pZ .none
 |bl (b:Bool):Dp K H (.bl b) (.bool b)
 |int (i:Int):Dp K H (.int i) (.int i)
 |str (x:Str):Dp K H (.str x) (.str x)
 |lst {a:Addr} {xs:List V} {ds:List PyData}:jE K H a xs->Az K H xs ds->Dp K H (.ref a) (.list ds)
 |tup {a:Addr} {xs:List V} {ds:List PyData}:rH K H a xs->Az K H xs ds->Dp K H (.ref a) (.tuple ds)
inductive Az(K:ai)(H:Hp):List V->List PyData->Prop
 |nil:Az K H [] []
 |cons {v:V} {vs:List V} {d:PyData} {ds:List PyData}:Dp K H v d->Az K H vs ds->Az K H (v::vs) (d::ds)
end
section
variable{X:Cx}{pins:List (Addr×Obj)}{σ:St}{H:Hp}{s:Shared}
mutual
theorem Dp.reads(I:Inv X pins σ H s):∀(d:PyData) (v:V) (u:Value),Dp X.K H v d->RelV v u->∃as,Reads s.heap u d as
 |.none,_,_,h,r=>by
  cases h
  cases r;exact⟨_,Reads.none⟩
 |.bool b,_,_,h,r=>by
  cases h
  cases r;exact⟨_,Reads.bool b⟩
 |.int i,_,_,h,r=>by
  cases h;obtain⟨t,rfl⟩:=r;exact⟨_,Reads.int i t⟩
 |.str x,_,_,h,r=>by
  cases h;obtain⟨t,rfl⟩:=r;exact⟨_,Reads.str x t⟩
 |.list ds,_,_,h,r=>by
  cases h with
  |lst hs ha=>
   cases r;obtain⟨its,rv,⟨o,n,ho,hc,_,hd⟩,_⟩:=I.list hs;obtain⟨as,hr⟩:=Dp.readsAll I ds _ its ha rv;exact⟨_,Reads.list ho hc hd hr⟩
 |.tuple ds,_,_,h,r=>by
  cases h with
  |tup hs ha=>
   cases r;obtain⟨its,rv,⟨o,ho,hc,n,hd⟩,_⟩:=I.tuple hs;obtain⟨as,hr⟩:=Dp.readsAll I ds _ its ha rv;exact⟨_,Reads.tuple ho hc hd hr⟩
 |.dict _,_,_,h,_=>by cases h
theorem Dp.readsAll(I:Inv X pins σ H s):∀(ds:List PyData) (vs:List V) (us:List Value),Az X.K H vs ds->Vals vs us->∃as,ReadsAll s.heap us ds as
 |[],_,_,h,r=>by
  cases h
  cases r;exact⟨_,ReadsAll.nil⟩
 |d::ds,_,_,h,r=>by
  cases h with
  |cons h1 h2=>
   cases r with
   |cons r1 r2=>
    obtain⟨as,q1⟩:=Dp.reads I d _ _ h1 r1;obtain⟨bs,q2⟩:=Dp.readsAll I ds _ _ h2 r2;exact⟨_,ReadsAll.cons q1 q2⟩
end
end
section
variable{X:Cx}
def Wy(K:ai):R2:=λ x y H Q=>∃d e,Dp K H x d/\Dp K H y e/\SeqAt.shaped d=true/\SeqAt.shaped e=true/\Q (.bl (PyData.eqv d e)) H
theorem Mb(hu:X.A.units+64<cLine):vB X (compareOp .Eq) (Wy X.K):=by
 intro pins s σ H x y v u Q I rx ry h
 obtain⟨d,e,hd,he,sd,se,q⟩:=h
 obtain⟨as,r1⟩:=Dp.reads I d x v hd rx
 obtain⟨bs,r2⟩:=Dp.reads I e y u he ry
 exact SeqAt.compareEq_shaped r1 r2 sd se hu ⟨.bl _,H,I,rfl,q⟩
end
end L2
namespace L2
open PySem PySem.Spec PyProof.Rows
abbrev Mc(h:Heap)(c:Addr)(v:Option Value):Prop:=h.IsCell c v
def Wz(scope sc:Scope):Scope:=
 { scope with names:=scope.names.map λ(n,k)=>if (k == .free&&sc.kind == .function&&sc.names.lookup n==some .cell) then (n,.cell) else (n,k) }
def jY(cells:List (Str×Addr)):List (Str×NameKind)->List (Str×Addr)->List (Str×Addr)
 |[],acc=>acc
 | (n,k)::r,acc=>if k == .free then jY cells r ((n,(cells.lookup n).getD 0)::acc) else jY cells r acc
theorem xE(env:Env)(f:Str×NameKind->List (Str×Addr)->Sem (ForInStep (List (Str×Addr))))
  (hf:∀n k c,f (n,k) c=if k == .free then (do let a <-cellOf env n;pure (.yield ((n,a)::c))) else pure (.yield c)) :
  ∀(names:List (Str×NameKind)) (acc:List (Str×Addr)),(∀y∈names,y.2=.free->∃c,env.cells.lookup y.1=some c)->forIn names acc f=pure (jY env.cells names acc)
 |[],acc,_=>by rw[List.forIn_nil];rfl
 | (n,k)::r,acc,h=>by
  rw[List.forIn_cons,hf];have ih:=λ acc=>xE env f hf r acc λ y hy=>h y (aM _ hy)
  unfold jY
  by_cases hk:(k==NameKind.free)=true
  ·rw[if_pos hk,if_pos hk];obtain⟨c,hc⟩:=h (n,k) aP (by simpa using hk);have e:cellOf env n=pure c:=by unfold cellOf;rw[hc]
   rw[e];have e2:(env.cells.lookup n).getD 0=c:=by rw[hc];rfl
   rw[e2];exact ih _
  ·rw[if_neg hk,if_neg hk];exact ih _
theorem AA{scope:Scope}{env:Env}(h:∀y∈scope.names,y.2=.free->∃c,env.cells.lookup y.1=some c):closureFor scope env=pure (jY env.cells scope.names []):=by
 simp only[closureFor]
 rw[xE env _ (λ n k c=>rfl) scope.names [] h]
 rfl
theorem mem_lookup{α:Type}:∀{l:List (Str×α)}{n:Str}{c:α},(n,c)∈l->∃c',l.lookup n=some c'
 | (k,v)::r,n,c,h=>by
  rw[cC]
  cases hb:n==k with
  |true=>exact⟨_,rfl⟩
  |false=>
   rcases aB.mp h with e | h
   ·cases e;simp at hb
   ·exact mem_lookup h
theorem oU{cells:List (Str×Addr)}:∀{names:List (Str×NameKind)}{acc:List (Str×Addr)}{n:Str}{c:Addr},(n,c)∈jY cells names acc->(n,c)∈acc\/((n,.free)∈names/\c=(cells.lookup n).getD 0)
 |[],_,_,_,h=>.inl h
 | (m,k)::r,acc,n,c,h=>by
  unfold jY at h
  split at h
  ·rename_i hk
   have hk:k=.free:=by simpa using hk
   rcases oU h with h | ⟨h1,h2⟩
   ·rcases aB.mp h with e | h
    ·cases e;exact .inr ⟨hk ▸ aP,rfl⟩
    ·exact .inl h
   ·exact .inr ⟨aM _ h1,h2⟩
  ·rcases oU h with h | ⟨h1,h2⟩
   ·exact .inl h
   ·exact .inr ⟨aM _ h1,h2⟩
theorem ux{cells:List (Str×Addr)}:∀{names:List (Str×NameKind)}{acc:List (Str×Addr)}{p:Str×Addr},p∈acc->p∈jY cells names acc
 |[],_,_,h=>h
 | (m,k)::r,acc,p,h=>by
  unfold jY
  split
  ·exact ux (aM _ h)
  ·exact ux h
theorem oV{cells:List (Str×Addr)}:∀{names:List (Str×NameKind)}{acc:List (Str×Addr)}{n:Str},(n,.free)∈names->(n,(cells.lookup n).getD 0)∈jY cells names acc
 | (m,k)::r,acc,n,h=>by
  unfold jY
  rcases aB.mp h with e | h
  ·cases e;exact ux aP
  ·split
   ·exact oV h
   ·exact oV h
theorem rN:∀{names:List (Str×NameKind)}{h:Heap}{acc:List (Str×Addr)}{x:Str}{c:Addr},(x,c)∈cellsFrom h.objs.size names acc ->
  (x,c)∈acc\/((x,.cell)∈names/\h.objs.size<=c/\Mc (pushCells h names) c none)
 |[],_,_,_,_,h=>.inl h
 | (n,k)::r,h,acc,x,c,hm=>by
  unfold cellsFrom at hm;unfold pushCells
  split at hm
  ·rename_i hk
   rw[if_pos hk];have hk:k=.cell:=by simpa using hk
   rw[<-Heap.size_push h { cls:=.type "cell",data:=.cell none }] at hm
   rcases rN hm with hm | ⟨h1,h2,h3⟩
   ·rcases aB.mp hm with e | hm
    ·cases e;exact .inr ⟨hk ▸ aP,aq _,_,pushCells_keeps r _ _ _ (Heap.get?_push_size _ rfl),rfl⟩
    ·exact .inl hm
   ·rw[Heap.size_push] at h2;exact .inr ⟨aM _ h1,fq h2,h3⟩
  ·rename_i hk
   rw[if_neg hk]
   rcases rN hm with hm | ⟨h1,h2,h3⟩
   ·exact .inl hm
   ·exact .inr ⟨aM _ h1,h2,h3⟩
theorem vD:∀{names:List (Str×NameKind)}{n:Nat}{acc:List (Str×Addr)}{p:Str×Addr},p∈acc->p∈cellsFrom n names acc
 |[],_,_,_,h=>h
 | (m,k)::r,n,acc,p,h=>by
  unfold cellsFrom
  split
  ·exact vD (aM _ h)
  ·exact vD h
theorem yO:∀{names:List (Str×NameKind)}{n:Nat}{acc:List (Str×Addr)}{x:Str},(x,.cell)∈names->∃c,(x,c)∈cellsFrom n names acc
 | (m,k)::r,n,acc,x,h=>by
  unfold cellsFrom
  rcases aB.mp h with e | h
  ·cases e;exact⟨n,vD aP⟩
  ·split
   ·exact yO h
   ·exact yO h
theorem yP:∀{names:List (Str×NameKind)}{h:Heap}{acc:List (Str×Addr)}{x y:Str}{c:Addr},(∀p∈acc,p.2<h.objs.size)->(∀x y c,(x,c)∈acc->(y,c)∈acc->x=y) ->
  (x,c)∈cellsFrom h.objs.size names acc->(y,c)∈cellsFrom h.objs.size names acc->x=y
 |[],_,_,_,_,_,_,hi,h1,h2=>hi _ _ _ h1 h2
 | (n,k)::r,h,acc,x,y,c,hl,hi,h1,h2=>by
  unfold cellsFrom at h1 h2
  split at h1
  ·rename_i hk
   rw[if_pos hk] at h2;rw[<-Heap.size_push h { cls:=.type "cell",data:=.cell none }] at h1 h2;refine yP (h:=h.push _) (λ p hp=>?_) (λ x y c a b=>?_) h1 h2
   ·rw[Heap.size_push]
    rcases aB.mp hp with rfl | hp
    ·exact aD _
    ·exact b9 (hl p hp)
   ·rcases aB.mp a with e | a<;>rcases aB.mp b with e' | b
    ·cases e;cases e';rfl
    ·cases e;exact absurd (hl _ b) (bJ _)
    ·cases e';exact absurd (hl _ a) (bJ _)
    ·exact hi _ _ _ a b
  ·rename_i hk
   rw[if_neg hk] at h2;exact yP hl hi h1 h2
theorem Fj{M:Model}{A:Around}{E:Value->Shared->Prop}{s:Shared}{scope:Scope}{globals:Addr}{closure:List (Str×Addr)}{qual:Str}{func:Option Addr}{code:Value}{around:Env}{builtins:Addr}{Q:Env->Shared->Prop}
  (h:Q (newEnv scope s.heap.objs.size globals (cellsFrom (s.heap.objs.size+1) scope.names closure) qual func code (some around) builtins)
   { s with heap:=pushCells (s.heap.push { cls:=.type "dict",data:=.dict #[] }) scope.names }) :
  wpAny M A (newFunctionEnv scope globals closure [] qual func code (some around) builtins) Q E s:=by
 simp only[newFunctionEnv,Option.isSome_some,if_true]
 refine wpAny_bind (wpAny_alloc ?_)
 refine wpAny_bind (wpAny_layCells _ (λ n k c=>rfl) scope.names closure _ _ ?_)
 rw[show ({ s with heap:=s.heap.push { cls:=.type "dict",data:=.dict #[] } }:Shared).heap.objs.size=s.heap.objs.size+1 from Heap.size_push ..]
 rw[List.forIn_nil]
 exact wpAny_bind (wpAny_pure (wpAny_pure h))
theorem uy{sc:Scope}:∀{names:List (Str×NameKind)}{x:Str}{k:NameKind},
  (names.map λ(n,k)=>if (k==NameKind.free&&sc.kind == .function&&sc.names.lookup n==some .cell) then (n,NameKind.cell) else (n,k)).lookup x=some k ->
  ∃k',names.lookup x=some k'/\(k=k'\/(k'=.free/\k=.cell))
 |[],_,_,h=>by simp at h
 | (n,k₀)::r,x,k,h=>by
  have ih:=@uy sc r x k;have h':dR x ((if (k₀==NameKind.free&&sc.kind == .function&&sc.names.lookup n==some .cell)=true then (n,NameKind.cell) else (n,k₀))::(r.map _))=some k:=h
  cases hx:x==n with
  |true=>
   simp only[cC,hx]
   by_cases hc:(k₀==NameKind.free&&sc.kind == .function&&sc.names.lookup n==some .cell)=true
   ·rw[if_pos hc] at h';simp only[cC,hx] at h'
    cases h';simp only[aR,beq_iff_eq] at hc
    exact⟨k₀,rfl,.inr ⟨hc.1.1,rfl⟩⟩
   ·rw[if_neg hc] at h';simp only[cC,hx] at h'
    cases h';exact⟨_,rfl,.inl rfl⟩
  |false=>
   simp only[cC,hx]
   by_cases hc:(k₀==NameKind.free&&sc.kind == .function&&sc.names.lookup n==some .cell)=true
   ·rw[if_pos hc] at h';simp only[cC,hx] at h'
    exact ih h'
   ·rw[if_neg hc] at h';simp only[cC,hx] at h'
    exact ih h'
structure Fl(N:List Str)(sc scope:Scope)(own:List (Str×Nat)):Prop where
 kind:scope.kind=.function
 JL:∀y∈scope.names,scope.names.lookup y.1=some y.2
 ix:∀p∈own,N[p.2]? = some p.1
 free:∀y∈scope.names,y.2=.free->sc.names.lookup y.1=some .cell\/sc.names.lookup y.1=some .free
 own:∀y∈scope.names,y.2=.local\/y.2=.cell->y.1∈own.map (·.1)\/y.1 ∉ N
def wipe(σ:St):List Nat->St
 |[]=>σ
 |v::vs=>(wipe σ vs).set v none
theorem uz(σ:St):∀vs:List Nat,(wipe σ vs).length = σ.length
 |[]=>rfl
 |v::vs=>by unfold wipe;rw[cy,uz σ vs]
theorem yQ{σ:St}{i:Nat}{x:V}:∀{vs:List Nat},(wipe σ vs)[i]? = some (some x)->σ[i]? = some (some x)/\i ∉ vs
 |[],h=>⟨h,by simp⟩
 |v::vs,h=>by
  unfold wipe at h
  by_cases hi:v=i
  ·subst hi
   by_cases hv:v<(wipe σ vs).length
   ·rw[fh hv] at h;cases h
   ·rw[bO (by simpa using hv)] at h;cases h
  ·rw[fR hi] at h;obtain⟨h1,h2⟩:=yQ h;exact⟨h1,by simp only[aB,not_or];exact⟨λ e=>hi e.symm,h2⟩⟩
abbrev Cx.Cu(X:Cx)(s:Shared)(H:Hp)(scope:Scope)(cenv:Env)(fp:List Addr):Cx:={ X with Cq:=s,QF:=H,env:=cenv,outer:=X.stack,ex:=fp,fn:=λ x=>scope.names.lookup x==some .cell,pn:=[],xe:=λ _ _=>False }
section
variable{X:Cx}{pins:List (Addr×Obj)}{σ:St}{H:Hp}{s:Shared}
theorem Fo{scope:Scope}{own:List (Str×Nat)}{fp:List Addr}(I:Inv X pins σ H s)(ok:Fl X.N X.env.scope scope own)(hN:X.N.Nodup)(hfp:∀b∈fp,zR X pins H b/\b<s.heap.objs.size) :
  Inv (X.Cu s H scope (compEnvC scope (cellsFrom (s.heap.objs.size+1) scope.names (jY X.env.cells scope.names [])) s.heap.objs.size X.env) fp) [] (wipe σ (own.map (·.2))) H { s with heap:=pushCells (s.heap.push { cls:=.type "dict",data:=.dict #[] }) scope.names }:=by
 have hfree:∀y∈scope.names,y.2=.free->∃c,X.env.cells.lookup y.1=some c:=λ y hy e=>by
  rcases ok.free y hy e with k | k
  ·exact I.ok.has _ (.inl k)
  ·exact I.ok.has _ (.inr k)
 generalize Fp:compEnvC scope (cellsFrom (s.heap.objs.size+1) scope.names (jY X.env.cells scope.names [])) s.heap.objs.size X.env=cenv
 have kp:∀b o,s.heap.get? b=some o->(pushCells (s.heap.push { cls:=.type "dict",data:=.dict #[] }) scope.names).get? b=some o:=λ b o e=>pushCells_keeps _ _ _ _ (Heap.get?_push_of_some _ e)
 have hL:cenv.locals=s.heap.objs.size:=by rw[<-Fp];rfl
 have hcl:cenv.cells=cellsFrom (s.heap.objs.size+1) scope.names (jY X.env.cells scope.names []):=by rw[<-Fp];rfl
 have hsc:cenv.scope=Wz scope X.env.scope:=by rw[<-Fp];rfl
 rw[<-Heap.size_push s.heap { cls:=.type "dict",data:=.dict #[] }] at hcl
 have cm:∀{y c},(y,c)∈jY X.env.cells scope.names []->X.env.cells.lookup y=some c/\c<s.heap.objs.size:=λ {y c} hm=>by
  rcases oU hm with hm | ⟨h1,rfl⟩
  ·cases hm
  ·obtain⟨c,hc⟩:=hfree _ h1 rfl;rw[hc];obtain⟨w,z⟩:=I.cell _ _ hc;exact⟨rfl,z.lt⟩
 have mem:∀{y c},cenv.cells.lookup y=some c->(X.env.cells.lookup y=some c/\c<s.heap.objs.size)\/(s.heap.objs.size+1<=c/\Mc (pushCells (s.heap.push { cls:=.type "dict",data:=.dict #[] }) scope.names) c none):=λ {y c} e=>by
  rw[hcl] at e
  rcases rN (aQ e) with hm | ⟨_,h2,h3⟩
  ·exact .inl (cm hm)
  ·rw[Heap.size_push] at h2;exact .inr ⟨h2,h3⟩
 have look:∀{y},scope.names.lookup y=some .free->∃c,cenv.cells.lookup y=some c/\X.env.cells.lookup y=some c:=λ {y} hl=>by
  have hy:(y,NameKind.free)∈scope.names:=aQ hl;obtain⟨c',e'⟩:=mem_lookup (vD (names:=scope.names) (n:=(s.heap.push { cls:=.type "dict",data:=.dict #[] }).objs.size) (oV (cells:=X.env.cells) (acc:=[]) hy));rw[<-hcl] at e';refine⟨c',e',?_⟩;rw[hcl] at e'
  rcases rN (aQ e') with hm | ⟨h1,_,_⟩
  ·exact (cm hm).1
  ·have:=ok.JL _ h1;rw[hl] at this;cases this
 have Zm:(X.Cu s H scope cenv fp).Ok:=by
  refine⟨I.ok.mod,by show cenv.scope.kind=_;rw[hsc];exact ok.kind,by show cenv.globals=_;rw[<-Fp];exact I.ok.glob,by show cenv.builtins=_;rw[<-Fp];exact I.ok.blt,by show s.heap.objs.size<=cenv.locals;rw[hL];exact aq _,
   λ y z c e1 e2=>?_,λ y hy=>?_,λ y c z e=>?_,I.ok.hd,I.ok.frames,.inl rfl,λ b hb=>⟨?_,λ y c e z=>?_⟩,I.bs,bf I.ok.Ou I.sz,λ b o e hb=>?_,λ b hb z=>?_,I.stack,I.z6⟩
  ·have e1:cenv.cells.lookup y=some c:=e1;have e2:cenv.cells.lookup z=some c:=e2;rw[hcl] at e1 e2;refine yP (λ p hp=>?_) (λ y z c a b=>I.ok.inj y z c (cm a).1 (cm b).1) (aQ e1) (aQ e2);rw[Heap.size_push];exact b9 (cm (y:=p.1) (c:=p.2) hp).2
  ·show ∃c,cenv.cells.lookup y=some c;have key:∀k,cenv.kindOf y=some k->(k=.cell\/k=.free)->∃c,cenv.cells.lookup y=some c:=λ k hk hk'=>by
    unfold Env.kindOf at hk;rw[hsc] at hk;obtain⟨k',e,r⟩:=uy hk;have:k'=.cell\/k'=.free:=by
     rcases r with rfl | ⟨rfl,_⟩
     ·exact hk'
     ·exact .inr rfl
    rcases this with rfl | rfl
    ·obtain⟨c,hm⟩:=yO (n:=(s.heap.push { cls:=.type "dict",data:=.dict #[] }).objs.size) (acc:=jY X.env.cells scope.names []) (aQ e);obtain⟨c',e'⟩:=mem_lookup hm;exact⟨c',by rw[hcl];exact e'⟩
    ·obtain⟨c,h1,_⟩:=look e;exact⟨c,h1⟩
   rcases hy with hy | hy
   ·exact key _ hy (.inl rfl)
   ·exact key _ hy (.inr rfl)
  ·have z:(scope.names.lookup y==some NameKind.cell)=true:=z;have z:scope.names.lookup y=some .cell:=by simpa using z
   have e:cenv.cells.lookup y=some c:=e;rw[hcl] at e
   rcases rN (aQ e) with hm | ⟨_,h2,_⟩
   ·rcases oU hm with hm | ⟨h1,_⟩
    ·cases hm
    ·have q:=ok.JL _ h1;rw[z] at q;cases q
   ·rw[Heap.size_push] at h2;exact fq h2
  ·show b≠cenv.locals;rw[hL];exact aV (hfp b hb).2
  ·have e:cenv.cells.lookup y=some c:=e
   rcases mem e with ⟨h1,_⟩ | ⟨h1,_⟩
   ·exact (hfp b hb).1.2.2.2.2.1 y c h1 z
   ·have h2:s.heap.objs.size+1<=b:=by rw[<-z];exact h1
    exact absurd (aI (hfp b hb).2 (fq h2)) (bJ _)
  ·rcases (hfp b hb).1.2.2.2.1 with z | z
   ·exact I.ok.OG b o e z
   ·exact absurd (aI (Heap.lt_size e) (bf I.ok.Ou z)) (bJ _)
  ·rcases aB.mp (I.Ai b z) with z | z
   ·exact (hfp b hb).1.2.1 z
   ·exact (hfp b hb).1.2.2.1 z
 refine⟨Zm,rfl,I.bare,Un.kept kp,⟨λ _=>none,?_,λ i y av e1 e2 e3=>?_⟩,λ y c e=>?_,?_,λ y c e=>?_,λ p hp=>?_,I.hok.kept kp,by rw[uz];exact I.len⟩
 ·show Heap.Ns _ cenv.locals _
  rw[hL];exact Heap.Ns.keeps (Heap.Ns.new ..) λ b o e=>pushCells_keeps _ _ _ _ e
 ·obtain⟨e2,hne⟩:=yQ e2
  have hfr:scope.names.lookup y=some .free/\(cenv.kindOf y=some .cell\/cenv.kindOf y=some .free):=by
   have key:∀k,cenv.scope.names.lookup y=some k->k=.local\/k=.cell\/k=.free->scope.names.lookup y=some .free/\(cenv.kindOf y=some .cell\/cenv.kindOf y=some .free):=λ k hk hk'=>by
    have hk0:=hk;rw[hsc] at hk;obtain⟨k',e,r⟩:=uy hk;have no:¬(k'=.local\/k'=.cell):=λ hh=>by
     rcases ok.own _ (aQ e) hh with e' | e'
     ·obtain⟨p,hp,Zn⟩:=az.mp e';have e3:=ok.ix p hp;have:p.1=y:=Zn;rw[this] at e3;exact hne (az.mpr ⟨p,hp,Aj hN e3 e1⟩)
     ·exact e' (au e1)
    rcases r with rfl | ⟨rfl,rfl⟩
    ·rcases hk' with rfl | rfl | rfl
     ·exact absurd (.inl rfl) no
     ·exact absurd (.inr rfl) no
     ·exact⟨e,.inr hk0⟩
    ·exact⟨e,.inl hk0⟩
   have e3:OE cenv.scope y:=e3
   rcases e3 with e3 | e3 | e3
   ·exact key _ e3 (.inl rfl)
   ·exact key _ e3 (.inr (.inl rfl))
   ·exact key _ e3 (.inr (.inr rfl))
  obtain⟨m,hn,hl⟩:=I.loc;have WA:OE X.env.scope y:=(ok.free _ (aQ hfr.1) rfl).elim (λ k=>.inr (.inl k)) (λ k=>.inr (.inr k));obtain⟨w,r,q⟩:=hl i y av e1 e2 WA;refine⟨w,r,.inr ⟨hfr.2,?_⟩⟩;obtain⟨c,h1,h2⟩:=look hfr.1
  rcases q with ⟨k,_⟩ | ⟨_,c',e',z⟩
  ·have k:X.env.scope.names.lookup y=some .local:=k
   rcases ok.free _ (aQ hfr.1) rfl with k' | k'<;>rw[show X.env.scope.names.lookup y=_ from k'] at k<;>cases k
  ·rw[h2] at e';cases e';exact⟨c,h1,z.keeps kp⟩
 ·have e:cenv.cells.lookup y=some c:=e
  rcases mem e with ⟨h1,_⟩ | ⟨_,z⟩
  ·obtain⟨w,z⟩:=I.cell y c h1;exact⟨w,z.keeps kp⟩
  ·exact⟨_,z⟩
 ·show H cenv.locals=none
  rw[hL];exact I.hok.fresh (aq _)
 ·have e:cenv.cells.lookup y=some c:=e
  rcases mem e with ⟨h1,_⟩ | ⟨h1,_⟩
  ·exact I.tZ y c h1
  ·exact I.hok.fresh (fq h1)
 ·exact absurd (show p∈([]:List (Addr×Obj))++[] from hp) (by simp)
theorem RP{E:Value->Shared->Prop}{D:Addr}{xs:List V}{y:V}{v:Value}{Q:Value->Shared->Prop}(I:Inv X pins σ H s)(hD:H D=some (.lst xs))(hz:xs.length<sizeLine)(r:RelV y v)
  (h:∀s',Inv X pins σ (upd H D (.lst (xs++[y]))) s'->Q .none s'):wpAny (model X.prog X.w) X.A (call (.builtin "list.append") [.ref D,v]) Q E s:=by
 obtain⟨hz',its,n,ri,e⟩:=I.hok D _ hD
 have hl:=ri.length
 refine append_at (hsz:=by rw[aC];omega) e λ h' sb ho'=>?_
 refine h { s with heap:=h' } (I.write (t':=s.toks) (by rw[hD];trivial) (.inl rfl) (λ b u hb q=>(sb.2 b hb).trans q) ⟨_,ho'⟩ ⟨by rw[aE];exact hz,its++[v],n+1,ri.append (.cons r .nil),?_⟩)
 rw[ho']
 simp
def VO(X:Cx)(ifs:List Expr)(t:TT):Prop:=
 ∀(pins:List (Addr×Obj)) (s:Shared) (σ:St) (H:Hp) (Q:Bool->Hp->Prop),Inv X pins σ H s->t σ H Q ->
  wpAny (model X.prog X.w) X.A (forIn ifs true λ c r=>if r=true then do let ok <-isTrue c X.env (eval c X.env);pure (ForInStep.yield ok) else pure (ForInStep.yield r)) (TP X pins σ Q) X.xe s
def WB:TT:=λ _ H Q=>Q true H
theorem kY:VO X [] WB:=λ _ _ _ H _ I h=>wpAny_tests_nil ⟨H,I,h⟩
end
theorem JM{α:Type}{t:Sem α}{Q Q':α->Shared->Prop}{M:Model}{A:Around}{E:Value->Shared->Prop}{s:Shared}(h:wpAny M A t Q (λ _ _=>False) s)(hQ:∀a s,Q a s->Q' a s):wpAny M A t Q' E s:=wpAny_mono h hQ λ _ _ z=>False.elim z
theorem Ec{prog:Program}{w:World}{A:Around}{R:Result->Shared->Prop}{s:Shared}{elt target iter:Expr}{ifs:List Expr}{scope:Scope}{pos:Pos}{it acc:Value}{env:Env}(I:Nat->Shared->Prop)
  (turn:∀n s,I n s->wpAny (model prog w) A (pyNext it) (λ r s₁=>match r with
   |none=>R (.ok .next) s₁
   |some v=>wpAny (model prog w) A (letOwnedTupleGo target it v) (λ _ s₁'=>wpAny (model prog w) A (assign target env v) (λ _ s₂=>
     wpAny (model prog w) A (forIn ifs true λ c r=>if r=true then do let ok <-isTrue c env (eval c env);pure (ForInStep.yield ok) else pure (ForInStep.yield r)) (λ ok s₃=>
      if ok=true then wpAny (model prog w) A (eval elt env) (λ x s₄=>
       wpAny (model prog w) A (call (.builtin "list.append") [acc,x]) (λ _ s₅=>∃m,m<n/\I m s₅) (notedBy (model prog w) A env λ e s'=>R (.error e) s') s₄) (notedBy (model prog w) A env λ e s'=>R (.error e) s') s₃
      else ∃m,m<n/\I m s₃) (notedBy (model prog w) A env λ e s'=>R (.error e) s') s₂) (notedBy (model prog w) A env λ e s'=>R (.error e) s') s₁') (notedBy (model prog w) A env λ e s'=>R (.error e) s') s₁) (notedBy (model prog w) A env λ e s'=>R (.error e) s') s)
  (n:Nat) (h:I n s) :
  codeAny (model prog w) A (.compLoop (.ListComp elt [⟨target,iter,ifs,0⟩] scope pos) 0 it acc env) R s:=by
 refine codeAny_loop rfl I (λ n s hI=>?_) n h
 show wpAny _ A ((compTurn (.ListComp elt [⟨target,iter,ifs,0⟩] scope pos) 0 it acc env).onRaise (λ x=>do noteFrame x env;theTreesLotGoes x)) _ _ s
 refine wpAny_noted ?_
 rw[compTurn_list]
 refine wpAny_bind (wpAny_standAt (wpAny_bind (wpAny_mono (turn n s hI) (λ r s₁ h₁=>?_) λ _ _ h'=>h')))
 cases r with
 |none=>exact wpAny_pure h₁
 |some v=>
  refine wpAny_bind (wpAny_mono h₁ (λ _ s₁' h₁'=>?_) λ _ _ h'=>h');refine wpAny_bind (wpAny_mono h₁' (λ _ s₂ h₂=>wpAny_bind (wpAny_mono h₂ (λ ok s₃ h₃=>?_) λ _ _ h'=>h')) λ _ _ h'=>h')
  cases ok with
  |false=>exact wpAny_pure ⟨rfl,h₃⟩
  |true=>
   exact wpAny_bind (wpAny_bind (wpAny_mono h₃ (λ x s₄ h₄=>wpAny_bind (wpAny_mono h₄ (λ _ s₅ h₅=>wpAny_pure (wpAny_pure ⟨rfl,h₅⟩)) λ _ _ h'=>h')) λ _ _ h'=>h'))
section
variable{X:Cx}
def VP(wi:TI)(g:TG)(tt:TT)(te:TE)(vs:List Nat):TE:=λ σ H Q=>wi σ H λ J H1=>∀D,H1 D=none->∃W:Nat->Nat->Hp->Prop,(∃m,W 0 m (upd H1 D (.lst [])))/\∀i m H,W i m H ->
 (J.stop i H/\Q (.ref D) H)\/(J.go i H/\∃Nx:Hp->Prop,(∀H',Nx H'->∃m',m'<m/\W (i+1) m' H')/\∀x H',J.LI i H x H'->g x (wipe σ vs) H' λ σ2 H2=>wipe σ2 vs=wipe σ vs/\tt σ2 H2 λ b H3=>
  if b=true then te σ2 H3 λ y H4=>∃acc,H4 D=some (.lst acc)/\acc.length<sizeLine/\Nx (upd H4 D (.lst (acc++[y]))) else Nx H3)
theorem Ip{pins:List (Addr×Obj)}{s:Shared}{σ:St}{H:Hp}{Q:VK}{elt tg iter:Expr}{ifs:List Expr}{scope:Scope}{own:List (Str×Nat)}{pos pos':Pos}{wi:TI}{g:TG}{tt:TT}{te:TE}{use:Option (Value->Sem Unit)}{Qf:Value->Shared->Prop}
  (hc:X.calm=true) (hN:X.N.Nodup) (I:Inv X pins σ H s) (hi:PI X tg iter wi) (ok:Fl X.N X.env.scope scope own)
  (hg:∀(s:Shared) (H:Hp) (C:Addr) (cl:List (Str×Addr)) (fp:List Addr),PG (X.Cu s H scope (compEnvC scope cl C X.env) fp) tg g) (ht:∀(s:Shared) (H:Hp) (C:Addr) (cl:List (Str×Addr)) (fp:List Addr),VO (X.Cu s H scope (compEnvC scope cl C X.env) fp) ifs tt)
  (he:∀(s:Shared) (H:Hp) (C:Addr) (cl:List (Str×Addr)) (fp:List Addr),PE (X.Cu s H scope (compEnvC scope cl C X.env) fp) elt te) (hs:∀x,foldedSetIterable iter X.env x=pure x)
  (h:VP wi g tt te (own.map (·.2)) σ H Q)
  (hRR:∀D C s' m H',Inv X pins σ H' s'->Q (.ref D) H'->s'.heap.Ns C m->zR X pins H' C->compPost (model X.prog X.w) X.A X.xe use Qf (.ref D) C (.ok .next) s') :
  wpAny (model X.prog X.w) X.A (comprehension (.ListComp elt [⟨tg,iter,ifs,0⟩] scope pos) scope X.env pos' (newList []) false (eval iter X.env) use) Qf X.xe s:=by
 have hfree:∀y∈scope.names,y.2=.free->∃c,X.env.cells.lookup y.1=some c:=λ y hy e=>by
  rcases ok.free y hy e with k | k
  ·exact I.ok.has _ (.inl k)
  ·exact I.ok.has _ (.inr k)
 refine wpAny_comprehension_free (use:=use) rfl hs (AA hfree) ok.kind (λ y hy e=>by rw[ok.JL y hy,e])
  (lQ (hi pins s σ H _ I h) λ xv s1 hx=>lQ hx λ itv s2 h2=>?_)
 obtain⟨it,fp,tn,J,H2,e,I2,T,st2,f2,q⟩:=h2
 subst e
 refine wpAny_newObj_type (Fj ?_) (by show 0<=sizeLine;decide)
 generalize hD:s2.heap.objs.size=D
 have Zo:H2 D=none:=I2.hok.fresh (gS hD)
 obtain⟨W,⟨m0,w0⟩,turn⟩:=q D Zo
 generalize X7:({ s2 with heap:=s2.heap.push { cls:=.type "list",data:=.seq ([]:List Value).toArray } }:Shared)=s3
 have I3:Inv X pins σ (upd H2 D (.lst [])) s3:=by
  rw[<-X7];refine I2.laid (t':=s2.toks) (λ b o e=>Heap.get?_push_of_some _ e) (gS hD) ⟨aZ _,[],0,.nil,?_⟩;rw[<-hD];exact Heap.get?_push_size _ rfl
 have h3:s3.heap=s2.heap.push { cls:=.type "list",data:=.seq ([]:List Value).toArray }:=by rw[<-X7]
 have sz:∀b∈fp,b<s2.heap.objs.size:=λ b hb=>by
  obtain⟨o,e,_⟩:=T.obj _ _ st2 b hb;exact Heap.lt_size e
 have f3:∀b∈fp,zR X pins (upd H2 D (.lst [])) b/\b<s3.heap.objs.size:=λ b hb=>by
  have hlt:=sz b hb;refine⟨⟨?_,(f2 b hb).2⟩,by rw[h3,Heap.size_push];exact b9 hlt⟩;rw[je (by rw[<-hD];exact aV hlt)];exact (f2 b hb).1
 have st3:tn 0 s3.heap:=T.keep _ _ _ st2 λ b _ o e=>by rw[h3];exact Heap.get?_push_of_some _ e
 have I4:=Fo I3 ok hN f3
 have pg:=hg s3 (upd H2 D (.lst [])) s3.heap.objs.size (cellsFrom (s3.heap.objs.size+1) scope.names (jY X.env.cells scope.names [])) fp
 have pt:=ht s3 (upd H2 D (.lst [])) s3.heap.objs.size (cellsFrom (s3.heap.objs.size+1) scope.names (jY X.env.cells scope.names [])) fp
 have pe:=he s3 (upd H2 D (.lst [])) s3.heap.objs.size (cellsFrom (s3.heap.objs.size+1) scope.names (jY X.env.cells scope.names [])) fp
 show codeAny _ _ (.compStart (.ListComp elt [⟨tg,iter,ifs,0⟩] scope pos) 0 (.ref it) (.ref D) (compEnvC scope (cellsFrom (s3.heap.objs.size+1) scope.names (jY X.env.cells scope.names [])) s3.heap.objs.size X.env)) (compPost (model X.prog X.w) X.A X.xe use Qf (.ref D) s3.heap.objs.size) { s3 with heap:=pushCells (s3.heap.push { cls:=.type "dict",data:=.dict #[] }) scope.names }
 have X8:∀b∈fp,(upd H2 D (.lst [])) b=none:=λ b hb=>(f3 b hb).1.1
 generalize hce:compEnvC scope (cellsFrom (s3.heap.objs.size+1) scope.names (jY X.env.cells scope.names [])) s3.heap.objs.size X.env=ce at I4 pg pt pe ⊢
 have cL:ce.locals=s3.heap.objs.size:=by subst hce;rfl
 generalize hH3:upd H2 D (.lst [])=H3 at I3 I4 pg pt pe w0 X8 f3
 generalize Zp:({ s3 with heap:=pushCells (s3.heap.push { cls:=.type "dict",data:=.dict #[] }) scope.names }:Shared)=s4 at I4 ⊢
 have Yb:tn 0 s4.heap:=T.keep _ _ _ st3 λ b _ o e=>by rw[<-Zp];exact pushCells_keeps _ _ _ _ (Heap.get?_push_of_some _ e)
 have GP:∀{σ':St} {H':Hp} {s':Shared},Inv (X.Cu s3 H3 scope ce fp) [] σ' H' s'->(∀b∈fp,H' b=none)->∀b∈fp,zR (X.Cu s3 H3 scope ce fp) [] H' b:=λ {σ' H' s'} I' hn b hb=>
  ⟨hn b hb,(I'.ok.V6 b hb).1,I'.ok.OH b hb,.inl hb,λ x c e=>(I'.ok.V6 b hb).2 x c e,λ p hp=>absurd (show p∈([]:List (Addr×Obj))++[] from hp) (by simp)⟩
 have loop:codeAny (model X.prog X.w) X.A (.compLoop (.ListComp elt [⟨tg,iter,ifs,0⟩] scope pos) 0 (.ref it) (.ref D) ce) (compPost (model X.prog X.w) X.A X.xe use Qf (.ref D) s3.heap.objs.size) s4:=by
  refine Ec (λ n s'=>∃i H',Inv (X.Cu s3 H3 scope ce fp) [] (wipe σ (own.map (·.2))) H' s'/\tn i s'.heap/\(∀b∈fp,H' b=none)/\W i n H') ?_ m0 ⟨0,H3,I4,Yb,X8,w0⟩;rintro n s5 ⟨i,H5,I5,Tn,n5,w5⟩
  rcases turn i n H5 w5 with ⟨stop,qq⟩ | ⟨go,Nx,Zq,step⟩
  ·have td:=T.done (X.Cu s3 H3 scope ce fp) rfl rfl rfl hc i [] s5 _ H5 (λ _ _=>False) I5 (GP I5 n5) Tn stop;refine JM td λ r s6 ⟨hr,I6⟩=>?_
   subst hr;have I7:Inv X pins σ H5 s6:=I3.TU (ch:=fp) I6.os I6.base I6.hok I6.bare λ b hb=>⟨(f3 b hb).1.2.2.2.1,(f3 b hb).1.2.1,(f3 b hb).1.2.2.2.2.1,(f3 b hb).1.2.2.2.2.2⟩
   have nC:H5 s3.heap.objs.size=none:=by
    have z:H5 ce.locals=none:=I6.free;rw[cL] at z;exact z
   obtain⟨m,hn,_⟩:=I6.loc;have hn:s6.heap.Ns ce.locals m:=hn;rw[cL] at hn;exact hRR D s3.heap.objs.size s6 m H5 I7 qq hn (I3.LJ (aq _) nC)
  ·have ti:=T.item (X.Cu s3 H3 scope ce fp) rfl rfl rfl hc i [] s5 _ H5 (λ _ _=>False) I5 (GP I5 n5) Tn go;refine JM ti λ r s6 ⟨u,hr,h6⟩=>?_
   subst hr;refine JM h6 λ _ s7 ⟨x,H7,I7,r7,y7,WC,n7⟩=>?_
   have Zr:=I7.pinned (GP I7 n7) (T.obj _ _ WC);refine JM (pg _ s7 _ H7 x u _ Zr r7 (step x H7 y7)) λ _ s8 ⟨σ8,H8,I8,Yc,q8⟩=>?_
   refine JM (pt _ s8 σ8 H8 _ I8 q8) λ b s9 ⟨H9,I9,q9⟩=>?_
   have fin:∀{s':Shared} {H':Hp},Inv (X.Cu s3 H3 scope ce fp) ([]++Am fp s7.heap) σ8 H' s'->Nx H'->∃m,m<n/\∃i H',Inv (X.Cu s3 H3 scope ce fp) [] (wipe σ (own.map (·.2))) H' s'/\tn i s'.heap/\(∀b∈fp,H' b=none)/\W i m H':=λ {s' H'} I' nx=>by
    obtain⟨m',hm,w'⟩:=Zq H' nx;have Uu:∀b∈fp,∀o,s7.heap.get? b=some o->s'.heap.get? b=some o/\H' b=none:=λ b hb o e=>
     let z:=I'.pin (b,o) (bG _ (bG _ (wO hb e)))
     ⟨z.1,z.2.1⟩
    have hl:(wipe σ (own.map (·.2))).length = σ8.length:=by rw[<-Yc,uz]
    refine⟨m',hm,i+1,H',(I'.xB (pins:=[])).weak hl (λ j v e=>?_),T.keep _ _ _ WC λ b hb o e=>(Uu b hb o e).1,λ b hb=>?_,w'⟩
    ·rw[<-Yc] at e;exact (yQ e).1
    ·obtain⟨o,e,_⟩:=T.obj _ _ WC b hb;exact (Uu b hb o e).2
   cases b with
   |false=>
    simp only[aJ,if_false] at q9 ⊢
    exact fin I9 q9
   |true=>
    simp only[if_true] at q9 ⊢
    refine JM (pe _ s9 σ8 H9 _ I9 q9) λ z s10 ⟨yv,QO,Zs,Zt,acc,WD,WE,nx⟩=>?_
    exact RP (X:=X.Cu s3 H3 scope ce fp) Zs WD WE Zt λ s11 Zu=>fin Zu nx
 exact codeAny_compStart_list loop (T.self X.A 0 _ _ _ Yb loop)
theorem pO{elt tg iter:Expr}{ifs:List Expr}{scope:Scope}{own:List (Str×Nat)}{pos:Pos}{wi:TI}{g:TG}{tt:TT}{te:TE}(hc:X.calm=true)(hN:X.N.Nodup)(hi:PI X tg iter wi)(ok:Fl X.N X.env.scope scope own)
  (hg:∀(s:Shared) (H:Hp) (C:Addr) (cl:List (Str×Addr)) (fp:List Addr),PG (X.Cu s H scope (compEnvC scope cl C X.env) fp) tg g) (ht:∀(s:Shared) (H:Hp) (C:Addr) (cl:List (Str×Addr)) (fp:List Addr),VO (X.Cu s H scope (compEnvC scope cl C X.env) fp) ifs tt)
  (he:∀(s:Shared) (H:Hp) (C:Addr) (cl:List (Str×Addr)) (fp:List Addr),PE (X.Cu s H scope (compEnvC scope cl C X.env) fp) elt te) (hs:∀x,foldedSetIterable iter X.env x=pure x:=by intro _;rfl) :
  PE X (.ListComp elt [⟨tg,iter,ifs,0⟩] scope pos) (VP wi g tt te (own.map (·.2))):=by
 intro pins s σ H Q I h
 rw[eval_ListComp]
 refine Ip hc hN I hi ok hg ht he hs h λ D C s' m H' I' q hn f=>⟨m,hn,λ h'' sb=>?_⟩
 obtain⟨f0,f1,f2,f3,f4,f5⟩:=f
 exact⟨.ref D,H',I'.turned (t':=s'.toks) (λ b o hb e=>(sb.2 b hb).trans e) f0 f1 f3 f4 f5,rfl,q⟩
theorem AB{i:Nat}{y:Str}{py:Pos}{elt tg iter:Expr}{ifs:List Expr}{scope:Scope}{own:List (Str×Nat)}{pos spos:Pos}{wi:TI}{g:TG}{tt:TT}{te:TE}(hc:X.calm=true)(hN:X.N.Nodup)(hy:X.N[i]? = some y)(hyl:X.env.scope.names.lookup y=some .local)
  (hsw:swapsWith (.ListComp elt [⟨tg,iter,ifs,0⟩] scope pos) (some (.Name y py)) spos.line X.env=pure true) (hi:PI X tg iter wi) (ok:Fl X.N X.env.scope scope own)
  (hg:∀(s:Shared) (H:Hp) (C:Addr) (cl:List (Str×Addr)) (fp:List Addr),PG (X.Cu s H scope (compEnvC scope cl C X.env) fp) tg g) (ht:∀(s:Shared) (H:Hp) (C:Addr) (cl:List (Str×Addr)) (fp:List Addr),VO (X.Cu s H scope (compEnvC scope cl C X.env) fp) ifs tt)
  (he:∀(s:Shared) (H:Hp) (C:Addr) (cl:List (Str×Addr)) (fp:List Addr),PE (X.Cu s H scope (compEnvC scope cl C X.env) fp) elt te) (hs:∀x,foldedSetIterable iter X.env x=pure x:=by intro _;rfl) :
  PS X (.Assign [.Name y py] (.ListComp elt [⟨tg,iter,ifs,0⟩] scope pos) spos) (Ry (VP wi g tt te (own.map (·.2))) (CV i)):=by
 intro pins s σ H D I h
 rw[exec_Assign_Name_used _ _ _ _ hsw]
 refine wpAny_bind (wpAny_standAt (wpAny_bind ?_))
 show wpAny _ X.A (do let _ <-comprehension (.ListComp elt [⟨tg,iter,ifs,0⟩] scope pos) scope X.env (firstIterPos [⟨tg,iter,ifs,0⟩] pos) (newList []) false (eval iter X.env) (some (assign (.Name y py) X.env))) _ _ s
 have h:VP wi g tt te (own.map (·.2)) σ H (λ x H1=>CV i x σ H1 D.nx):=h
 refine wpAny_bind (lQ (Ip (Qf:=λ _ s'=>SP X pins D .next s') hc hN I hi ok hg ht he hs h λ L C s' m H' I' q hn f=>?_) λ _ s' hq=>wpAny_pure (wpAny_pure hq))
 show wpAny _ _ (assign (.Name y py) X.env (.ref L)) _ _ _
 refine wpAny_assign_Name (CU (v:=V.ref L) I' hN hy (.inl hyl) rfl (λ s2 I2 ⟨a,sb,ha⟩=>?_) (.inr hyl))
 obtain⟨f0,f1,f2,f3,f4,f5⟩:=f
 have haC:C≠a:=by
  rcases ha with z | z
  ·rw[z];exact f1
  ·exact λ e=>f4 y a z e.symm
 refine⟨m,hn.sameBut sb haC,λ h3 Zv=>?_⟩
 exact⟨_,H',I2.turned (t':=s2.toks) (λ b o hb e=>(Zv.2 b hb).trans e) f0 f1 f3 f4 f5,q⟩
theorem Ed{elt:Expr}{gs:List Comprehension}{scope:Scope}{pos py:Pos}{y:Str}{l:Nat}{env:Env}(hk:env.scope.kind=.function)(hy:env.scope.names.lookup y=some .local)(hl:(py.line==pos.line)=true)
  (ha:(scope.names.any λ(n,k)=>n==y&&(k == .local||k == .cell))=false):swapsWith (.ListComp elt gs scope pos) (some (.Name y py)) l env=pure true:=by
 have ky:env.kindOf y=some .local:=hy
 have hb:env.blockKind=.function:=by unfold Env.blockKind;rw[hk];rfl
 unfold swapsWith
 simp only[hb,ky,ha,Expr.pos,hl]
 rfl
end
theorem Ft{lo:Int}{n:Nat}{g:TG}{tt:TT}{te:TE}{vs:List Nat}{σ:St}{H1:Hp}{D:Addr}{Qd:Hp->Prop}(Pv:Nat->Hp->Prop)(h0:Pv 0 (upd H1 D (.lst [])))
  (hs:∀i H,i<n->Pv i H->g (.int (lo+i)) (wipe σ vs) H λ σ2 H2=>wipe σ2 vs=wipe σ vs/\tt σ2 H2 λ b H3=>
   if b=true then te σ2 H3 λ y H4=>∃acc,H4 D=some (.lst acc)/\acc.length<sizeLine/\Pv (i+1) (upd H4 D (.lst (acc++[y]))) else Pv (i+1) H3) (hd:∀H,Pv n H->Qd H) :
  ∃W:Nat->Nat->Hp->Prop,(∃m,W 0 m (upd H1 D (.lst [])))/\∀i m H,W i m H ->
   ((OP lo n).stop i H/\Qd H)\/((OP lo n).go i H/\∃Nx:Hp->Prop,(∀H',Nx H'->∃m',m'<m/\W (i+1) m' H')/\∀x H',(OP lo n).LI i H x H'->g x (wipe σ vs) H' λ σ2 H2=>wipe σ2 vs=wipe σ vs/\tt σ2 H2 λ b H3=>
    if b=true then te σ2 H3 λ y H4=>∃acc,H4 D=some (.lst acc)/\acc.length<sizeLine/\Nx (upd H4 D (.lst (acc++[y]))) else Nx H3):=by
 refine⟨λ i m H=>m=n-i/\i<=n/\Pv i H,⟨n,by simp,aZ _,h0⟩,?_⟩
 rintro i m H ⟨rfl,hi,p⟩
 by_cases hlt:i<n
 ·refine .inr ⟨hlt,Pv (i+1),λ H' p'=>⟨n-(i+1),by omega,rfl,hlt,p'⟩,λ x H' y=>?_⟩
  obtain⟨e,y⟩:=y;subst e y;exact hs i _ hlt p
 ·have e:i=n:=by omega
  subst e;exact .inl ⟨aq _,hd H p⟩
theorem mR{K:ai}{a:Addr}{xs:List V}{g:TG}{tt:TT}{te:TE}{vs:List Nat}{σ:St}{H1:Hp}{D:Addr}{Qd:Hp->Prop}(Pv:Nat->Hp->Prop)(h0:Pv 0 (upd H1 D (.lst [])))(hl:∀i H,i<=xs.length->Pv i H->jE K H a xs)
  (hs:∀i x H,xs[i]? = some x->Pv i H->g x (wipe σ vs) H λ σ2 H2=>wipe σ2 vs=wipe σ vs/\tt σ2 H2 λ b H3=>
   if b=true then te σ2 H3 λ y H4=>∃acc,H4 D=some (.lst acc)/\acc.length<sizeLine/\Pv (i+1) (upd H4 D (.lst (acc++[y]))) else Pv (i+1) H3) (hd:∀H,Pv xs.length H->Qd H) :
  ∃W:Nat->Nat->Hp->Prop,(∃m,W 0 m (upd H1 D (.lst [])))/\∀i m H,W i m H ->
   ((QJ K a).stop i H/\Qd H)\/((QJ K a).go i H/\∃Nx:Hp->Prop,(∀H',Nx H'->∃m',m'<m/\W (i+1) m' H')/\∀x H',(QJ K a).LI i H x H'->g x (wipe σ vs) H' λ σ2 H2=>wipe σ2 vs=wipe σ vs/\tt σ2 H2 λ b H3=>
    if b=true then te σ2 H3 λ y H4=>∃acc,H4 D=some (.lst acc)/\acc.length<sizeLine/\Nx (upd H4 D (.lst (acc++[y]))) else Nx H3):=by
 refine⟨λ i m H=>m=xs.length-i/\i<=xs.length/\Pv i H,⟨xs.length,by simp,aZ _,h0⟩,?_⟩
 rintro i m H ⟨rfl,hi,p⟩
 have q:=hl i H hi p
 by_cases hlt:i<xs.length
 ·refine .inr ⟨⟨xs,xs[i],q,by simp[hlt]⟩,Pv (i+1),λ H' p'=>⟨xs.length-(i+1),by omega,rfl,hlt,p'⟩,λ x H' y=>?_⟩
  obtain⟨e,y⟩:=y;subst e;exact hs i x _ (y xs q) p
 ·have e:i=xs.length:=by omega
  subst e;exact .inl ⟨⟨xs,q,aq _⟩,hd H p⟩
def Uv(N:List Str)(sc scope:Scope)(own:List (Str×Nat)):Bool:=
 (match scope.kind with | .function=>true | _=>false)&&(scope.names.all λ y=>decide (scope.names.lookup y.1=some y.2))&&(own.all λ p=>decide (N[p.2]? = some p.1)) &&
  (scope.names.all λ y=>match y.2 with
   |.free=>(match sc.names.lookup y.1 with | some .cell=>true | some .free=>true | _=>false)
   |.local=>decide (y.1∈own.map (·.1))||decide (y.1 ∉ N)
   |.cell=>decide (y.1∈own.map (·.1))||decide (y.1 ∉ N)
   |_=>true)
theorem j5{N:List Str}{sc scope:Scope}{own:List (Str×Nat)}(h:Uv N sc scope own=true):Fl N sc scope own:=by
 unfold Uv at h
 simp only[aR,bD,decide_eq_true_eq] at h
 obtain⟨⟨⟨h1,h2⟩,h3⟩,h4⟩:=h
 refine⟨?_,h2,h3,λ y hy e=>?_,λ y hy e=>?_⟩
 ·split at h1
  ·assumption
  ·cases h1
 ·have q:=h4 y hy
  simp only[e] at q
  split at q<;>first | exact .inl (by assumption) | exact .inr (by assumption) | cases q
 ·have q:=h4 y hy
  rcases e with e | e<;>(simp only[e,Bool.or_eq_true,decide_eq_true_eq] at q;exact q)
end L2
namespace L2
open PySem PySem.Spec PyProof.Rows
section
variable{prog:Program}{w:World}{A:Around}{R:Result->Shared->Prop}{s:Shared}{elt t0 i0 t1 i1:Expr}{Zw Zx:List Expr}{scope:Scope}{pos:Pos}{it acc:Value}{env:Env}
end
section
variable{X:Cx}
end
end L2
namespace L2
open PySem PySem.Spec PyProof.Rows
section
variable{κ:Type}[DecidableEq κ]
end
theorem Uw{P:Program}{w:World}{k:Key}{u:Value}(r:RelV (kV k) u):(kX P w).is k u=true:=by
 cases k with
 |inl i=>obtain⟨t,e⟩:=(show ∃t,u=Value.int i t from r);subst e;exact EX P w i t
 |inr x=>obtain⟨t,e⟩:=(show ∃t,u=Value.str x t from r);subst e;exact EY P w x t
theorem C5{P:Program}{w:World}:∀{ks:List Key}{us:List Value},Vals (ks.map kV) us->ItemsAre (kX P w) ks us
 |[],_,r=>by rw[bQ] at r;cases r;exact .nil
 |k::ks,_,r=>by
  rw[aU] at r
  cases r with
  |cons h t=>exact .cons (Uw h) (C5 t)
section
variable{P:Program}{w:World}{H:Hp}{h:Heap}{a:Addr}
end
section
variable{X:Cx}{pins:List (Addr×Obj)}{σ:St}{H:Hp}{s:Shared}{a:Addr}{y v:V}{u r:Value}{o:Option V}{A:Around}{E:Value->Shared->Prop}
end
section
variable{X:Cx}{pins:List (Addr×Obj)}{σ:St}{H:Hp}{s:Shared}{a:Addr}{kvs:List (Key×V)}{k:Key}{u:Value}{A:Around}{E:Value->Shared->Prop}
end
section
variable{X:Cx}{o i e value:Expr}{pos pos' tpos:Pos}{td ty tv:TE}
end
section
variable{X:Cx}{pos:Pos}
end
section
variable{X:Cx}{pins:List (Addr×Obj)}{σ:St}{H:Hp}{s:Shared}{a:Addr}{y d:V}{u r:Value}{o:Option V}{A:Around}{E:Value->Shared->Prop}
end
section
variable{X:Cx}{o e f:Expr}{apos cpos:Pos}{td ty tx:TE}
end
section
variable{X:Cx}{pins:List (Addr×Obj)}{σ:St}{H:Hp}{s:Shared}{a:Addr}{kvs:List (Key×V)}{A:Around}{E:Value->Shared->Prop}
end
section
variable{X:Cx}{pins:List (Addr×Obj)}{σ:St}{H:Hp}{s:Shared}{a:Addr}{y:V}{u:Value}{A:Around}{E:Value->Shared->Prop}
end
end L2
namespace L2
open PySem PySem.Spec PyProof.Rows
section
variable{prog:Program}{w:World}{A:Around}{E:Value->Shared->Prop}
end
section
variable{X:Cx}
end
end L2
namespace L2
open PySem PySem.Spec PyProof.Rows
theorem AD:bootBuiltins "reversed" = some (.type "reversed"):=by decide +kernel
section
variable{X:Cx}{pins:List (Addr×Obj)}{σ:St}{H:Hp}{s:Shared}{h':Heap}
theorem Inv.O5{t':Nat}{ch:List Addr}(I:Inv X pins σ H s)(k:∀b o,b ∉ ch->s.heap.get? b=some o->h'.get? b=some o)(hf:∀b∈ch,zR X pins H b):Inv X pins σ H { s with heap:=h',toks:=t' }:=by
 have QG:∀b u,H b=some u->b ∉ ch:=λ b u e z=>by
  have q:=(hf b z).1;rw[q] at e;cases e
 refine I.step (g':=s.gens) (d':=s.drawn) (ch:=ch) (λ b hb=>⟨(hf b hb).2.2.2.1,(hf b hb).2.1,(hf b hb).2.2.2.2.1,(hf b hb).2.2.2.2.2⟩) (λ b o _ _ hc e _=>k b o hc e) (λ b o _ _ hc e _=>⟨o.slots,k b o hc e⟩)
  (λ _ _ _ _ n=>n) (λ b o hc e=>⟨o,k b o hc e⟩) (λ _ _ e=>e) (λ _ _ _ e=>e) (λ b ps e=>⟨#[],by rw[e];simp⟩) (λ m hm=>?_) (λ b u e=>?_) I.bare
 ·obtain⟨o,es,ep,ho,r⟩:=hm
  exact⟨o,es,ep,k _ o (λ z=>(hf _ z).2.1 rfl) ho,r⟩
 ·refine (I.hok b u e).stay (λ c v hc q=>k c v ?_ q) (λ _ q=>q) λ _ _ q=>q
  rcases hc with z | z
  ·rw[z];exact QG b u e
  ·exact QG c _ z
theorem Inv.C6{t':Nat}{ch:List Addr}{T:Addr}{ob:HO}(I:Inv X pins σ H s)(k:∀b o,b ∉ ch->s.heap.get? b=some o->h'.get? b=some o)(hf:∀b∈ch,zR X pins H b)(hT:s.heap.objs.size<=T)
  (new:n6 X.prog X.w (upd H T ob) h' T ob):Inv X pins σ (upd H T ob) { s with heap:=h',toks:=t' }:=by
 have hn:H T=none:=I.hok.fresh hT
 have QG:∀b u,H b=some u->b ∉ ch:=λ b u e z=>by
  have q:=(hf b z).1;rw[q] at e;cases e
 refine I.step (g':=s.gens) (d':=s.drawn) (ch:=ch) (λ b hb=>⟨(hf b hb).2.2.2.1,(hf b hb).2.1,(hf b hb).2.2.2.2.1,(hf b hb).2.2.2.2.2⟩) (λ b o _ _ hc e _=>k b o hc e) (λ b o _ _ hc e _=>⟨o.slots,k b o hc e⟩)
  (λ b o _ e n=>?_) (λ b o hc e=>⟨o,k b o hc e⟩) (λ b xs e=>?_) (λ b o u e=>?_) (λ b ps e=>⟨#[],?_⟩) (λ m hm=>?_) (λ b u e=>?_) I.bare
 ·rw[je (aV (aI (Heap.lt_size e) hT))];exact n
 ·rw[je (jh e hn)];exact e
 ·rw[je (jh e hn)];exact e
 ·rw[je (jh e hn),e];simp
 ·obtain⟨o,es,ep,ho,r⟩:=hm
  exact⟨o,es,ep,k _ o (λ z=>(hf _ z).2.1 rfl) ho,r⟩
 ·by_cases hb:b=T
  ·subst hb;rw[jb] at e
   cases e;exact new
  ·rw[je hb] at e;refine (I.hok b u e).stay (λ c v hc q=>k c v ?_ q) (λ c q=>by rw[je (jh q hn)];exact q) λ c xs q=>by rw[je (jh q hn)];exact q
   rcases hc with z | z
   ·rw[z];exact QG b u e
   ·exact QG c _ z
end
section
variable{X:Cx}
end
section
variable{X:Cx}{tg:Expr}
end
section
variable{X:Cx}{tg:Expr}
end
section
variable{prog:Program}{w:World}{A:Around}{E:Value->Shared->Prop}{s:Shared}
end
section
variable{X:Cx}{pins:List (Addr×Obj)}{σ:St}{H:Hp}{s:Shared}{d:Addr}{o:Obj}
end
section
variable{P:Program}{w:World}{K:ai}{tg:Expr}{d:Addr}{o:Obj}{es:Array DictEntry}{ep:Nat}
end
section
variable{X:Cx}{tg e:Expr}{td:TE}{apos cpos:Pos}
end
def QR(K:ai)(a:Addr):It:=
 ⟨λ i H=>∃(xs:List V) (x:V),jE K H a xs/\xs[i]? = some x,λ i H v H'=>∃T x,v=.ref T/\H T=none/\H'=upd H T (.tup [.int (i:Nat),x])/\∀xs,jE K H a xs->xs[i]? = some x,λ i H=>∃xs:List V,jE K H a xs/\xs.length<=i⟩
theorem JN{P:Program}{w:World}{K:ai}{elts:List Expr}{kk:Nat}{tpos:Pos}(a e it:Addr) :
  Turn P w K (.Tuple elts kk tpos) (QR K a) [e,it] e (λ i h=>(∃old,IsEnum h e it ((i:Nat):Int) old)/\h.IsListIter it a i/\e≠it) where
 mem:=by simp
 obj:=λ i h st b hb=>by
  obtain⟨⟨old,he⟩,⟨o,ho,hc,hd⟩,_⟩:=st;have e':b=e\/b=it:=by simpa using hb
  rcases e' with z | z
  ·rw[z];exact⟨_,he,λ v q=>nomatch q⟩
  ·rw[z];exact⟨o,ho,λ v q=>by rw[hd] at q;cases q⟩
 keep:=λ i h h' st k=>let ⟨⟨old,he⟩,hi,hne⟩:=st;⟨⟨old,k e (by simp) _ he⟩,hi.at λ o q=>k it (by simp) o q,hne⟩
 item:=by
  intro X hP hw hK hc i pins s σ H E I hf st hg;subst hP hw hK;obtain⟨⟨old,he⟩,hit,hne⟩:=st;obtain⟨xs,x,hq,hx⟩:=hg;obtain⟨its,rv,p,hz⟩:=I.list hq;obtain⟨u,hu,ru⟩:=rv.get hx;have hel:e<s.heap.objs.size:=Heap.lt_size he;have hil:it<s.heap.objs.size:=by obtain⟨_,q,_⟩:=hit;exact Heap.lt_size q
  refine wpAny_pyNext_enum_item he hit p.isList (x:=u) (by simpa using hu) hne λ h' ho WG hT hsz hk=>?_
  refine⟨_,rfl,wpAny_letOwnedTupleGo_enum (s:={ s with heap:=h',toks:=s.toks+1 }) ho λ h'' he' sb=>?_⟩;have hT2:h''.get? s.heap.objs.size=some { cls:=.type "tuple",data:=.seq #[.int i s.toks,u] }:=(sb.2 _ (fi hel)).trans hT;have new:n6 X.prog X.w (upd H s.heap.objs.size (.tup [.int (i:Nat),x])) h'' s.heap.objs.size (.tup [.int (i:Nat),x]):=
   ⟨by show 2<=sizeLine;decide,[.int i s.toks,u],.cons ⟨_,rfl⟩ (.cons ru .nil),⟨_,hT2,rfl,_,rfl⟩⟩
  have I1:Inv X pins σ (upd H s.heap.objs.size (.tup [.int (i:Nat),x])) { s with heap:=h'',toks:=s.toks+1 }:=
   I.C6 (ch:=[e,it]) (λ b ob hb q=>(sb.2 b (λ z=>hb (by simp[z]))).trans (hk b ob (λ z=>hb (by simp[z])) (λ z=>hb (by simp[z])) q)) hf (aq _) new
  refine⟨.ref s.heap.objs.size,_,I1,rfl,⟨_,x,rfl,I.hok.fresh (aq _),rfl,λ ys hy=>by rw[I.xA hy hq];exact hx⟩,⟨⟨u,?_⟩,WG.at λ o q=>(sb.2 it (Ne.symm hne)).trans q,hne⟩,λ b hb=>?_⟩
  ·have e1:((i+1:Nat):Int)=(i:Int)+1:=by omega
   rw[e1];exact he'
  ·have hb':b<s.heap.objs.size:=by
    have e':b=e\/b=it:=by simpa using hb
    rcases e' with z | z
    ·rw[z];exact hel
    ·rw[z];exact hil
   rw[je (aV hb')];exact (hf b hb).1
 done:=by
  intro X hP hw hK hc i pins s σ H E I hf st hg;subst hP hw hK;obtain⟨⟨old,he⟩,hit,hne⟩:=st;obtain⟨xs,hq,hx⟩:=hg;obtain⟨its,rv,p,hz⟩:=I.list hq;obtain⟨f0,f1,f2,f3,f4,f5⟩:=hf it (by simp);have hl:=rv.length;exact wpAny_pyNext_enum_end (I.ok.hd hc) he hit p.isList (by simp;omega) λ h' eb=>⟨rfl,I.turned (t':=s.toks) (λ b o hb q=>eb b o hb q) f0 f1 f3 f4 f5⟩
 self:=λ A i s Q E st h=>let ⟨⟨_,he⟩,_⟩:=st;wpAny_pyIter_enum he h
def Ux(K:ai)(ta:TA):TI:=λ σ H R=>ta σ H λ vs H1=>∃a xs,vs=[.ref a]/\jE K H1 a xs/\R (QR K a) H1
theorem xF{X:Cx}{e:Expr}{ta:TA}{p pos tpos:Pos}{elts:List Expr}{kk:Nat}(hg:Gl X "enumerate")(hm:X.mg "enumerate" = none)(ha:PA X [e] ta)(hs:starEach [e] X.env=[(false,eval e X.env)]:=by rfl) :
  PI X (.Tuple elts kk tpos) (.Call (.Name "enumerate" p) [e] [] pos) (Ux X.K ta):=by
 intro pins s σ H R I h
 refine Call_ (wL I hg hm boot_enumerate (PyProof.Rows.callWith_type1 (lQ (ha pos pins s σ H _ I h) λ us s1 ⟨vs,H1,I1,r1,q1⟩=>?_) hs rfl))
 obtain⟨a,xs,ex,hq,q⟩:=q1
 subst ex
 cases r1 with
 |cons r rr=>
  cases rr
  cases r;obtain⟨its,rv,p',hz⟩:=I1.list hq;refine call_enumerate_list p'.isList λ h' he hit hsz hk=>wpAny_pyIter_enum he ?_
  have I2:Inv X pins σ H1 { s1 with heap:=h' }:=I1.kept (t':=s1.toks) hk;refine⟨s1.heap.objs.size+1,[s1.heap.objs.size+1,s1.heap.objs.size],_,_,H1,rfl,I2,JN a (s1.heap.objs.size+1) s1.heap.objs.size,⟨⟨.none,he⟩,hit,Nat.succ_ne_self _⟩,λ b hb=>?_,q⟩;have e':b=s1.heap.objs.size+1\/b=s1.heap.objs.size:=by simpa using hb
  have hle:s1.heap.objs.size<=b:=by
   rcases e' with z | z
   ·rw[z];exact eE _ _
   ·rw[z];exact aq _
  exact I1.LJ hle (I1.hok.fresh hle)
theorem JO:bootBuiltins "zip" = some (.type "zip"):=by decide +kernel
def QS(K:ai)(a b:Addr):It:=
 ⟨λ i H=>∃(xs ys:List V) (x y:V),jE K H a xs/\jE K H b ys/\xs[i]? = some x/\ys[i]? = some y,
  λ i H v H'=>∃T x y,v=.ref T/\H T=none/\H'=upd H T (.tup [x,y])/\(∀xs,jE K H a xs->xs[i]? = some x)/\∀ys,jE K H b ys->ys[i]? = some y,
  λ i H=>∃xs ys:List V,jE K H a xs/\jE K H b ys/\(xs.length<=i\/ys.length<=i)⟩
theorem Me{P:Program}{w:World}{K:ai}{elts:List Expr}{kk:Nat}{tpos:Pos}{a b z TI TO i1 i2:Addr}(D:ZipApart z TI TO i1 i2 a b) :
  Turn P w K (.Tuple elts kk tpos) (QS K a b) [z,TI,TO,i1,i2] z (λ i h=>IsZip h z TI TO .none/\IsPair h TI (.ref i1) (.ref i2)/\(∃x y,IsPair h TO x y)/\h.IsListIter i1 a i/\h.IsListIter i2 b i) where
 mem:=by simp
 obj:=λ i h st c hc=>by
  obtain⟨hz,hTI,⟨x,y,hTO⟩,⟨o1,e1,_,d1⟩,⟨o2,e2,_,d2⟩⟩:=st;have e':c=z\/c=TI\/c=TO\/c=i1\/c=i2:=by simpa using hc
  rcases e' with q | q | q | q | q
  ·rw[q];exact⟨_,hz,λ v q=>nomatch q⟩
  ·rw[q];exact⟨_,hTI,λ v q=>nomatch q⟩
  ·rw[q];exact⟨_,hTO,λ v q=>nomatch q⟩
  ·rw[q];exact⟨o1,e1,λ v q=>by rw[d1] at q;cases q⟩
  ·rw[q];exact⟨o2,e2,λ v q=>by rw[d2] at q;cases q⟩
 keep:=λ i h h' st k=>by
  obtain⟨hz,hTI,⟨x,y,hTO⟩,h1,h2⟩:=st;exact⟨k z (by simp) _ hz,k TI (by simp) _ hTI,⟨x,y,k TO (by simp) _ hTO⟩,h1.at λ o q=>k i1 (by simp) o q,h2.at λ o q=>k i2 (by simp) o q⟩
 item:=by
  intro X hP hw hK hc i pins s σ H E I hf st hg;subst hP hw hK;obtain⟨hz,hTI,⟨x0,y0,hTO⟩,h1,h2⟩:=st;obtain⟨xs,ys,x,y,To,Tq,hx,hy⟩:=hg;obtain⟨its,rv,p,_⟩:=I.list To;obtain⟨its2,VQ,p2,_⟩:=I.list Tq;obtain⟨u,hu,ru⟩:=rv.get hx;obtain⟨u2,Zy,Zz⟩:=VQ.get hy;have Yd:z<s.heap.objs.size:=Heap.lt_size hz;refine wpAny_pyNext_zip_item D hz hTI hTO h1 h2 p.isList p2.isList (x:=u) (y:=u2) (by simpa using hu) (by simpa using Zy) λ h' z' ZA Ye h2' hT hsz hk=>?_
  refine⟨_,rfl,wpAny_letOwnedTupleGo_zip (s:={ s with heap:=h' }) z' λ h'' ZC sb=>?_⟩;have hT2:h''.get? s.heap.objs.size=some { cls:=.type "tuple",data:=.seq #[u,u2] }:=(sb.2 _ (fi Yd)).trans hT;have new:n6 X.prog X.w (upd H s.heap.objs.size (.tup [x,y])) h'' s.heap.objs.size (.tup [x,y]):=
   ⟨by show 2<=sizeLine;decide,[u,u2],.cons ru (.cons Zz .nil),⟨_,hT2,rfl,_,rfl⟩⟩
  have I1:Inv X pins σ (upd H s.heap.objs.size (.tup [x,y])) { s with heap:=h'' }:=
   I.C6 (t':=s.toks) (ch:=[z,TI,TO,i1,i2]) (λ c o hb q=>(sb.2 c (λ q'=>hb (by simp[q']))).trans (hk c o (λ q'=>hb (by simp[q'])) (λ q'=>hb (by simp[q'])) (λ q'=>hb (by simp[q'])) (λ q'=>hb (by simp[q'])) q)) hf (aq _) new
  refine⟨.ref s.heap.objs.size,_,I1,rfl,⟨_,x,y,rfl,I.hok.fresh (aq _),rfl,λ l hl=>by rw[I.xA hl To];exact hx,λ l hl=>by rw[I.xA hl Tq];exact hy⟩,⟨ZC,?_,⟨u,u2,?_⟩,?_,?_⟩,λ c O6=>?_⟩
  ·exact (sb.2 _ D.TIz).trans (hk _ _ D.TIz D.TITO D.TIi1 D.TIi2 hTI)
  ·exact (sb.2 _ D.TOz).trans ZA
  ·exact Ye.at λ o q=>(sb.2 _ D.i1z).trans q
  ·exact h2'.at λ o q=>(sb.2 _ D.i2z).trans q
  ·have hlt:c<s.heap.objs.size:=by
    have e':c=z\/c=TI\/c=TO\/c=i1\/c=i2:=by simpa using O6
    rcases e' with q | q | q | q | q
    ·rw[q];exact Yd
    ·rw[q];exact Heap.lt_size hTI
    ·rw[q];exact Heap.lt_size hTO
    ·rw[q];obtain⟨_,e1,_⟩:=h1;exact Heap.lt_size e1
    ·rw[q];obtain⟨_,e2,_⟩:=h2;exact Heap.lt_size e2
   rw[je (aV hlt)];exact (hf c O6).1
 done:=by
  intro X hP hw hK hc i pins s σ H E I hf st hg;subst hP hw hK;obtain⟨hz,hTI,⟨x0,y0,hTO⟩,h1,h2⟩:=st;obtain⟨xs,ys,To,Tq,hend⟩:=hg;obtain⟨its,rv,p,_⟩:=I.list To;obtain⟨its2,VQ,p2,_⟩:=I.list Tq;have l1:=rv.length;have l2:=VQ.length;have he:its.toArray[i]? = none\/its2.toArray[i]? = none:=by
   rcases hend with q | q
   ·exact .inl (by simp;omega)
   ·exact .inr (by simp;omega)
  exact wpAny_pyNext_zip_end (I.ok.hd hc) D hz hTI hTO h1 h2 p.isList p2.isList he λ h' hk=>⟨rfl,I.O5 (t':=s.toks) (ch:=[z,TI,TO,i1,i2]) (λ c o hb q=>
   hk c o (λ q'=>hb (by simp[q'])) (λ q'=>hb (by simp[q'])) (λ q'=>hb (by simp[q'])) (λ q'=>hb (by simp[q'])) q) hf⟩
 self:=λ A i s Q E st h=>wpAny_pyIter_zip st.1 h
def WH(K:ai)(ta:TA):TI:=λ σ H R=>ta σ H λ vs H1=>∃a b xs ys,vs=[.ref a,.ref b]/\jE K H1 a xs/\jE K H1 b ys/\R (QS K a b) H1
theorem Ef{X:Cx}{e e2:Expr}{ta:TA}{p pos tpos:Pos}{elts:List Expr}{kk:Nat}(hg:Gl X "zip")(hm:X.mg "zip" = none)(ha:PA X [e,e2] ta)
  (hs:starEach [e,e2] X.env=(false,eval e X.env)::starEach [e2] X.env:=by rfl) (hpl:(backTo pos (starEach [e2] X.env)).any (·.1)=false:=by rfl) :
  PI X (.Tuple elts kk tpos) (.Call (.Name "zip" p) [e,e2] [] pos) (WH X.K ta):=by
 intro pins s σ H R I h
 refine Call_ (wL I hg hm JO (PyProof.Rows.callWith_type1 (lQ (ha pos pins s σ H _ I h) λ us s1 ⟨vs,H1,I1,r1,q1⟩=>?_) hs hpl))
 obtain⟨a,b,xs,ys,ex,To,Tq,q⟩:=q1
 subst ex
 cases r1 with
 |cons r rr=>
  cases rr with
  |cons r' rr=>
   cases rr
   cases r
   cases r';obtain⟨its,rv,p1,_⟩:=I1.list To;obtain⟨its2,VQ,p2,_⟩:=I1.list Tq;have la:a<s1.heap.objs.size:=p1.lt;have lb:b<s1.heap.objs.size:=p2.lt;refine call_zip_2 p1.isList p2.isList λ h' hz hTI hTO h1 h2 hsz hk=>wpAny_pyIter_zip hz ?_
   have I2:Inv X pins σ H1 { s1 with heap:=h' }:=I1.kept (t':=s1.toks) hk;refine⟨s1.heap.objs.size+4,[s1.heap.objs.size+4,s1.heap.objs.size+2,s1.heap.objs.size+3,s1.heap.objs.size,s1.heap.objs.size+1],_,_,H1,rfl,I2,Me (PySem.W.ktu_apart s1.heap.objs.size a b la lb),⟨hz,hTI,⟨_,_,hTO⟩,h1,h2⟩,λ c O6=>?_,q⟩;have e':c=s1.heap.objs.size+4\/c=s1.heap.objs.size+2\/c=s1.heap.objs.size+3\/c=s1.heap.objs.size\/c=s1.heap.objs.size+1:=by simpa using O6
   have hle:s1.heap.objs.size<=c:=by
    rcases e' with z | z | z | z | z
    ·rw[z];exact eE _ _
    ·rw[z];exact eE _ _
    ·rw[z];exact eE _ _
    ·rw[z];exact aq _
    ·rw[z];exact eE _ _
   exact I1.LJ hle (I1.hok.fresh hle)
end L2
section 
namespace uo
open PySem PyProof.Rows
end uo
end 
section 
namespace TL
open PySem PySem.Builtin PySem.Builtin.Str PySem.StrLaws
end TL
end 
namespace L2
open PySem PySem.Spec PyProof.Rows
section
variable{X:Cx}{pins:List (Addr×Obj)}{σ:St}{H:Hp}{s:Shared}{Q:VK}
end
section
variable{X:Cx}
end
section
variable{X:Cx}{o e:Expr}{to te:TE}
end
end L2
namespace L2
open PySem PySem.Spec PyProof.Rows
section
variable{X:Cx}
end
end L2
namespace Att
open PySem PySem.W PySem.Calls PyProof.Rows
theorem zS{P:Params}{h:Heap}:∀(ns:List Int) (vs:List Value),WellAll P h vs (ns.map WData.int)->IntsAre vs ns:=by
 intro ns
 induction ns with
 |nil=>
  intro vs w;rw[bQ] at w
  cases w;exact .nil
 |cons n ns ih=>
  intro vs w;rw[aU] at w
  cases w with
  |cons a b=>
   cases a;exact .cons _ _ (ih _ b)
section
variable{prog:Program}{w:World}{A:Around}{E:Value->Shared->Prop}{s:Shared}{K:Frag}
end
end Att
namespace L2
open PySem PySem.Spec PyProof.Rows
theorem C7:∀{vs:List Value}{ns:List Int},IntsAre vs ns->Vals (ns.map V.int) vs
 |_,_,.nil=>.nil
 |_,_,.cons n t h=>.cons ⟨t,rfl⟩ (C7 h)
end L2
namespace L2
open PySem PySem.Spec PyProof.Rows
end L2
namespace L2
open PySem PySem.Spec PyProof.Rows
def inClass(s:Stmt)(j:Nat):Stmt:=match s with
 |.ClassDef _ _ _ body _ _ _ _ _ _ _=>body.getD j (.Pass ⟨0,0,0,0⟩)
 |_=>.Pass ⟨0,0,0,0⟩
def tw(s:Stmt):Arguments:=match s with
 |.FunctionDef _ a _ _ _ _ _ _ _ _=>a
 |_=>{ posonlyargs:=[],args:=[],vararg:=none,kwonlyargs:=[],kw_defaults:=[],kwarg:=none,defaults:=[] }
def qE(s:Stmt):List Stmt:=match s with
 |.FunctionDef _ _ b _ _ _ _ _ _ _=>b
 |_=>[]
def jk(s:Stmt):Scope:=match s with
 |.FunctionDef _ _ _ _ _ _ sc _ _ _=>sc
 |_=>{ kind:=.function,names:=[],isGenerator:=false,isCoroutine:=false }
abbrev E0:XK:=λ _ _ _=>False
structure RQ(K:ai)(x qual:Str)(st:Stmt)(f:Addr)(fd:FuncData):Prop where
 ex:∃(oc:Value) (od:Option Addr) (kV doc pm:Value) (an:Option Addr) (cdv ct:Value) (osl:Array (Option Value)),
  fd=dj x qual (tw st) (qE st) (jk st) .none kV doc pm an cdv ct/\K.lookup f=some ⟨oc,od,.func fd,osl⟩/\gi K cdv qual=true
 kp:dS K (.ref f)=true
section
variable{P:Program}{w:World}{K:ai}{mg:Str->Option Value}{base:Heap}
theorem RQ.binds{x qual:Str}{st:Stmt}{f:Addr}{fd:FuncData}{ps:List Str}(F:RQ K x qual st f fd)
  (h:∀(kV doc pm:Value) (an:Option Addr) (cdv ct:Value) (us:List Value),us.length=ps.length->bindArgs (dj x qual (tw st) (qE st) (jk st) .none kV doc pm an cdv ct) ⟨us,[]⟩=pure (ps.zip us)):Binds K fd ps []:=by
 obtain⟨oc,od,kV,doc,pm,an,cdv,ct,osl,rfl,lk,hcd⟩:=F.ex
 exact .all (h kV doc pm an cdv ct)
theorem Mg{x qual:Str}{st:Stmt}{f:Addr}{oc:Value}{od an:Option Addr}{osl:Array (Option Value)}{kV doc pm cdv ct:Value}(l:K.lookup f=some ⟨oc,od,.func (dj x qual (tw st) (qE st) (jk st) .none kV doc pm an cdv ct),osl⟩)
  (c:gi K cdv qual=true) (k:dS K (.ref f)=true):RQ K x qual st f (dj x qual (tw st) (qE st) (jk st) .none kV doc pm an cdv ct):=⟨⟨oc,od,kV,doc,pm,an,cdv,ct,osl,rfl,l,c⟩,k⟩
end
section
variable{X:Cx}
theorem pv(i:Nat){x:Str}{pos:Pos}(hN:X.N[i]? = some x:=by rfl)(hv:OE X.env.scope x:=by first | exact Or.inl rfl | exact Or.inr (Or.inl rfl) | exact Or.inr (Or.inr rfl))(hd:(x==("__debug__":Str))=false:=by decide)
  (hcd:(x==("__classdict__":Str))=false:=by decide):PE X (.Name x pos) (xy i):=Rr hN hv hd hcd
end
theorem qS{A B:Prop}(h:B):if false=true then A else B:=by
 rw[if_neg aN]
 exact h
theorem uA{A B:Prop}(h:A):if true=true then A else B:=by
 rw[if_pos rfl]
 exact h
def jm(H H':Hp):Prop:=∀b o,H b=some o->H' b=some o
theorem jm.refl(H:Hp):jm H H:=λ _ _ h=>h
theorem jm.trans{H H1 H2:Hp}(a:jm H H1)(b:jm H1 H2):jm H H2:=λ c o h=>b c o (a c o h)
theorem jm.free{H H':Hp}(e:jm H H'){l:Addr}(h:H' l=Option.none):H l=Option.none:=by
 cases q:H l with
 |none=>rfl
 |some o=>
  rw[e l o q] at h
  cases h
theorem jm.seq{K:ai}{H H':Hp}{a:Addr}{xs:List V}(e:jm H H')(h:jE K H a xs):jE K H' a xs:=by
 rcases h with (h | ⟨o,h⟩) | h
 ·exact .inl (.inl (e _ _ h))
 ·exact .inl (.inr ⟨o,e _ _ h⟩)
 ·exact .inr h
section
variable{κ:Type}[DecidableEq κ]
end
end L2
end
noncomputable section
namespace St
open PySem
def z8(M:Nat):Nat->Nat->Nat
 |0,x=>x
 |m+1,x=>z8 M m ((x*5+1)%M)
theorem Mh{M:Nat}(hM:0<M):∀(m x:Nat),x<M->z8 M m x<M
 |0,_,h=>h
 |m+1,x,_=>Mh hM m _ (gj _ hM)
theorem xG(M:Nat):∀(a b x:Nat),z8 M (a+b) x=z8 M b (z8 M a x)
 |0,b,x=>by rw[iS];rfl
 |a+1,b,x=>by
  rw[Nat.succ_add];exact xG M a b _
theorem O7{M:Nat}:∀(m x:Nat),(4*z8 M m x+1)%M=(5^m*(4*x+1))%M
 |0,x=>by simp[z8]
 |m+1,x=>by
  show (4*z8 M m ((x*5+1)%M)+1)%M=_;rw[O7 m];have:(4*((x*5+1)%M)+1)%M=(5*(4*x+1))%M:=by
   rw[iy,fS,Nat.mod_mod,<-fS,<-iy]
   congr 1;omega
  rw[fS,this,<-fS,cg,iJ]
theorem Fv:∀k:Nat,∃e,5^(2^k)=1+2^(k+2)*(2*e+1)
 |0=>⟨0,rfl⟩
 |k+1=>by
  obtain⟨e,h⟩:=Fv k;refine⟨e+2^k*(2*e+1)*(2*e+1),?_⟩;rw[cg 2 k,Nat.pow_mul,h,show k+1+2=(k+2)+1 from rfl,cg 2 (k+2)];have e2:2^(k+2)=4*2^k:=by rw[Nat.pow_add];omega
  rw[e2];generalize 2^k=y
  grind
def pP:Nat->Nat->Nat
 |0,x=>x
 |m+1,x=>pP m (x*5+1)
theorem C8{M:Nat}:∀(m x:Nat),z8 M m (x%M)%M=pP m x%M
 |0,x=>by simp[z8,pP]
 |m+1,x=>by
  show z8 M m ((x%M*5+1)%M)%M=pP m (x*5+1)%M;rw[<-C8 m (x*5+1)]
  congr 2
  rw[iy,fS,Nat.mod_mod,<-fS,<-iy]
theorem Fw:∀(m x:Nat),4*pP m x+1=5^m*(4*x+1)
 |0,x=>by simp[pP]
 |m+1,x=>by
  show 4*pP m (x*5+1)+1=_;rw[Fw m,cg,iJ]
  congr 1;omega
theorem C9:∀(a b x:Nat),pP (a+b) x=pP b (pP a x)
 |0,b,x=>by rw[iS];rfl
 |a+1,b,x=>by rw[Nat.succ_add];exact C9 a b _
theorem GZ(k x:Nat):pP (2^k) x%2^(k+1)=(x+2^k)%2^(k+1):=by
 obtain⟨e,h⟩:=Fv k
 have q:=Fw (2^k) x
 rw[h] at q
 have e2:2^(k+2)=4*2^k:=by rw[Nat.pow_add];omega
 have e1:2^(k+1)=2*2^k:=by rw[cg];omega
 rw[e2] at q
 rw[e1]
 have:pP (2^k) x=(x+2^k)+2*2^k*(e+2*x*(2*e+1)):=by
  generalize 2^k=y at q ⊢
  have:4*pP y x=4*((x+y)+2*y*(e+2*x*(2*e+1))):=by grind
  omega
 rw[this,Nat.add_mul_mod_self_left]
theorem meets:∀(k x t:Nat),t<2^k->∃m,m<2^k/\pP m x%2^k=t
 |0,x,t,h=>⟨0,by simp,by rw[Nat.pow_zero] at h ⊢;omega⟩
 |k+1,x,t,h=>by
  have hp:0<2^k:=Nat.pow_pos (by decide);have e1:2^(k+1)=2*2^k:=by rw[cg];omega
  obtain⟨m,hm,q⟩:=meets k x (t%2^k) (gj _ hp)
  by_cases hs:pP m x%2^(k+1)=t
  ·exact⟨m,by omega,hs⟩
  ·refine⟨m+2^k,by omega,?_⟩;rw[C9,GZ];rw[e1] at hs h ⊢;generalize hy:pP m x=y at *
   generalize hz:2^k=z at *
   have a1:y%(2*z)=y%z\/y%(2*z)=y%z+z:=by
    have:=Nat.mod_mul_left_div_self y z 2;have h1:=Nat.div_add_mod (y%(2*z)) z;have h2:y%(2*z)%z=y%z:=Nat.mod_mul_left_mod y 2 z;have h3:y%(2*z)<2*z:=gj _ (by omega);have h4:y%(2*z)/z<2:=(ic hp).mpr h3;rw[h2] at h1;have h5:y%(2*z)/z=0\/y%(2*z)/z=1:=by omega
    rcases h5 with h5 | h5<;>rw[h5] at h1<;>omega
   have a2:t=t%z\/t=t%z+z:=by
    have h1:=Nat.div_add_mod t z;have h4:t/z<2:=(ic hp).mpr h;have h5:t/z=0\/t/z=1:=by generalize t/z=v at h4;omega
    rcases h5 with h5 | h5<;>rw[h5] at h1<;>omega
   have a3:(y+z)%(2*z)=(y%(2*z)+z)%(2*z):=by rw[Nat.mod_add_mod]
   have lt:=gj t hp;rw[a3]
   rcases a1 with a1 | a1
   ·rw[a1,q]
    rcases a2 with a2 | a2
    ·exfalso;apply hs;omega
    ·rw[c9 (by omega)];omega
   ·rw[a1,q]
    rcases a2 with a2 | a2
    ·rw[show t%z+z+z=t%z+2*z by omega,Nat.add_mod_right,c9 (by omega)];omega
    ·exfalso;apply hs;omega
theorem yR{k x t:Nat}(hx:x<2^k)(h:t<2^k):∃m,m<2^k/\z8 (2^k) m x=t:=by
 obtain⟨m,hm,q⟩:=meets k x t h
 refine⟨m,hm,?_⟩
 have:=C8 (M:=2^k) m x
 rw[c9 hx,q,c9 (Mh (Nat.pow_pos (by decide)) m x hx)] at this
 exact this
end St
end
noncomputable section
namespace St
open PySem PySem.SetTable
def Up(xs:Array Nat):Prop:=∀(i j a b:Nat),xs[i]? = some a->xs[j]? = some b->i<j->a<b
theorem Up.inj{xs:Array Nat}(u:Up xs){i j a:Nat}(h1:xs[i]? = some a)(h2:xs[j]? = some a):i=j:=by
 rcases dO i j with h | h | h
 ·exact absurd (u i j a a h1 h2 h) (bJ _)
 ·exact h
 ·exact absurd (u j i a a h2 h1 h) (bJ _)
theorem AE{xs:Array Nat}(u:Up xs)(j:Nat):∀(fuel lo hi:Nat),lo<=hi->hi<=xs.size->hi-lo<=fuel ->
  (∀i a,xs[i]? = some a->i<lo->a<j)->(∀i a,xs[i]? = some a->hi<=i->j<=a) ->
  below.go xs j fuel lo hi<=xs.size/\∀i a,xs[i]? = some a->(i<below.go xs j fuel lo hi↔a<j)
 |0,lo,hi,h1,h2,h3,l,r=>by
  have e:lo=hi:=by omega
  subst e;refine⟨h2,λ i a e=>⟨λ q=>l i a e q,λ q=>?_⟩⟩;show i<lo
  by_cases z:i<lo
  ·exact z
  ·have:=r i a e (by omega);omega
 |fuel+1,lo,hi,h1,h2,h3,l,r=>by
  unfold below.go
  by_cases hlt:lo<hi
  ·rw[if_pos hlt];have hm:(lo+hi)/2<xs.size:=by omega
   have em:xs[(lo+hi)/2]? = some xs[(lo+hi)/2]:=bw hm;have ed:xs.getD ((lo+hi)/2) j=xs[(lo+hi)/2]:=by simp[Array.getD,hm]
   simp only[ed]
   by_cases hc:xs[(lo+hi)/2]<j
   ·rw[if_pos hc];refine AE u j fuel _ _ (by omega) h2 (by omega) (λ i a e q=>?_) r
    rcases fu i ((lo+hi)/2) with z | z
    ·exact iT (u i _ a _ e em z) hc
    ·have:i=(lo+hi)/2:=by omega
     subst this;rw[em] at e;cases e;exact hc
   ·rw[if_neg hc];refine AE u j fuel _ _ (by omega) (by omega) (by omega) l (λ i a e q=>?_)
    rcases fu ((lo+hi)/2) i with z | z
    ·have:=u _ i _ a em e z;omega
    ·have:i=(lo+hi)/2:=by omega
     subst this;rw[em] at e;cases e;omega
  ·rw[if_neg hlt];have e:lo=hi:=by omega
   subst e;refine⟨h2,λ i a e=>⟨λ q=>l i a e q,λ q=>?_⟩⟩
   by_cases z:i<lo
   ·exact z
   ·have:=r i a e (by omega);omega
theorem tE{xs:Array Nat}(u:Up xs)(j:Nat):below xs j<=xs.size/\∀i a,xs[i]? = some a->(i<below xs j↔a<j):=by
 unfold below
 refine AE u j _ 0 _ (aZ _) (aq _) (by omega) (λ i a _ q=>absurd q (by omega)) (λ i a e q=>?_)
 obtain⟨h,_⟩:=bx.mp e
 omega
theorem below_at{xs:Array Nat}(u:Up xs){i j:Nat}(h:xs[i]? = some j):below xs j=i:=by
 obtain⟨h1,h2⟩:=tE u j
 have a1:=h2 i j h
 obtain⟨hi,_⟩:=bx.mp h
 rcases dO (below xs j) i with z | z | z
 ·have eb:xs[below xs j]? = some xs[below xs j]:=bw (by omega)
  have:=(h2 _ _ eb)
  have lt:=u _ i _ j eb h z;omega
 ·exact z
 ·omega
theorem RS{xs:Array Nat}(u:Up xs){j:Nat}(h:∀i:Nat,xs[i]?≠some j):(xs[below xs j]? == some j)=false:=by
 cases e:xs[below xs j]? with
 |none=>rfl
 |some a=>
  have:a≠j:=λ z=>h _ (by rw[e,z])
  simpa using this
structure Cv(t:SetTable)(n:Nat):Prop where
 size:t.place.size=n
 up:Up t.place
 le:∀(i j:Nat),t.place[i]? = some j->j<=t.mask
 Uy:t.dummies = #[]
 pow:∃k,3<=k/\t.mask+1=2^k
theorem Cv.live{t:SetTable}{n:Nat}(o:Cv t n){i j:Nat}(h:t.place[i]? = some j):t.slot j=.live i:=by
 unfold SetTable.slot
 simp only[below_at o.up h,h,beq_self_eq_true,if_true]
theorem Cv.empty{t:SetTable}{n:Nat}(o:Cv t n){j:Nat}(h:∀i:Nat,t.place[i]?≠some j):t.slot j=.empty:=by
 unfold SetTable.slot
 simp only[RS o.up h,has,o.Uy]
 rfl
theorem Cv.G0{t:SetTable}{n:Nat}(o:Cv t n)(j:Nat):(∃i,t.place[i]? = some j/\t.slot j=.live i)\/((∀i:Nat,t.place[i]?≠some j)/\t.slot j=.empty):=by
 by_cases h:∃i:Nat,t.place[i]? = some j
 ·obtain⟨i,h⟩:=h
  exact .inl ⟨i,h,o.live h⟩
 ·have h':∀i:Nat,t.place[i]?≠some j:=λ i e=>h ⟨i,e⟩
  exact .inr ⟨h',o.empty h'⟩
theorem Cv.fits{t:SetTable}{n:Nat}(o:Cv t n):t.fill=n:=by
 unfold SetTable.fill;rw[o.size,o.Uy];rfl
theorem j6{α:Type}(xs:Array α)(p:Nat)(x:α)(hp:p<=xs.size)(i:Nat) :
  (insertAt xs p x)[i]? = if i<p then xs[i]? else if i=p then some x else xs[i-1]?:=by
 unfold insertAt
 have s1:((xs.extract 0 p).push x).size=p+1:=by simp;omega
 by_cases h1:i<p
 ·rw[if_pos h1,gk (by omega),Array.getElem?_push_lt (by simp;omega)]
  simp[bw (show i<xs.size by omega)]
 ·rw[if_neg h1]
  by_cases h2:i=p
  ·subst h2;rw[if_pos rfl,gk (by omega)];have:(xs.extract 0 i).size=i:=by simp;omega
   rw[Array.getElem?_push,if_pos this.symm]
  ·rw[if_neg h2,Array.getElem?_append_right (by omega),s1];rw[Array.getElem?_extract]
   by_cases h3:i-(p+1)<xs.size-p
   ·rw[if_pos (by simp;omega)]
    congr 1;omega
   ·rw[if_neg (by simp;omega)];exact (Array.getElem?_eq_none (by omega)).symm
theorem vO{α:Type}(xs:Array α)(p:Nat)(x:α)(hp:p<=xs.size):(insertAt xs p x).size=xs.size+1:=by
 unfold insertAt;simp;omega
theorem JP{xs:Array Nat}(u:Up xs){j:Nat}(h:∀i:Nat,xs[i]?≠some j):Up (insertAt xs (below xs j) j):=by
 obtain⟨hp,hs⟩:=tE u j
 intro a b x y ea eb hab
 rw[j6 _ _ _ hp] at ea eb
 have ge:∀i c,xs[i]? = some c->¬i<below xs j->j<c:=λ i c e q=>by
  have h1:¬c<j:=λ z=>q ((hs i c e).mpr z)
  have h2:c≠j:=λ z=>h i (by rw[e,z])
  omega
 split at ea
 ·split at eb
  ·exact u a b x y ea eb hab
  ·split at eb
   ·cases eb;exact (hs a x ea).mp (by assumption)
   ·have h1:=(hs a x ea).mp (by assumption);have h2:=ge (b-1) y eb (by omega);omega
 ·split at ea
  ·cases ea;rw[if_neg (by omega),if_neg (by omega)] at eb;exact ge (b-1) y eb (by omega)
  ·rw[if_neg (by omega),if_neg (by omega)] at eb;exact u (a-1) (b-1) x y ea eb (by omega)
theorem mem_insert{xs:Array Nat}{p j c:Nat}(hp:p<=xs.size):(∃i:Nat,(insertAt xs p j)[i]? = some c)↔c=j\/∃i:Nat,xs[i]? = some c:=by
 constructor
 ·rintro⟨i,e⟩
  rw[j6 _ _ _ hp] at e
  split at e
  ·exact .inr ⟨_,e⟩
  ·split at e
   ·cases e;exact .inl rfl
   ·exact .inr ⟨_,e⟩
 ·rintro (rfl | ⟨i,e⟩)
  ·exact⟨p,by rw[j6 _ _ _ hp,if_neg (by omega),if_pos rfl]⟩
  ·by_cases h:i<p
   ·exact⟨i,by rw[j6 _ _ _ hp,if_pos h];exact e⟩
   ·exact⟨i+1,by rw[j6 _ _ _ hp,if_neg (by omega),if_neg (by omega)];exact e⟩
theorem Cv.put{t:SetTable}{n j:Nat}(o:Cv t n)(h:∀i:Nat,t.place[i]?≠some j)(hj:j<=t.mask) :
  (t.put j).2=below t.place j/\Cv (t.put j).1 (n+1)/\(t.put j).1.place=insertAt t.place (below t.place j) j/\(t.put j).1.mask=t.mask/\(t.put j).1.plain=t.plain/\(t.put j).1.led=t.led/\(t.put j).1.moves=t.moves:=by
 obtain⟨hp,_⟩:=tE o.up j
 have hd:has t.dummies j=false:=by rw[o.Uy];rfl
 have ep:t.put j=({ t with place:=insertAt t.place (below t.place j) j },below t.place j):=by
  unfold SetTable.put;rw[hd];rfl
 rw[ep]
 refine⟨rfl,⟨?_,JP o.up h,λ i c e=>?_,o.Uy,o.pow⟩,rfl,rfl,rfl,rfl,rfl⟩
 ·show (insertAt t.place (below t.place j) j).size=n+1
  rw[vO _ _ _ hp,o.size]
 ·rcases (mem_insert hp).mp ⟨i,e⟩ with rfl | ⟨i',e'⟩
  ·exact hj
  ·exact o.le i' c e'
end St
end
noncomputable section
namespace St
open PySem PySem.SetTable
def pr(t:SetTable)(h:Int):Nat->Probe
 |0=>t.probeStart h
 |m+1=>t.advance (pr t h m)
def lp(mask:Nat)(h:Int):Nat->Nat×Nat
 |0=>(bits h%(mask+1),bits h)
 |l+1=>leap mask (lp mask h l).1 (lp mask h l).2
def lA(mask i:Nat):Nat:=runEnd mask i-i
theorem JQ(mask i:Nat):lA mask i<=9:=by unfold lA runEnd;split<;>omega
theorem Eg{mask i d:Nat}(hi:i<=mask)(hd:d<=lA mask i):i+d<=mask:=by unfold lA runEnd at hd;split at hd<;>omega
def idx(mask:Nat)(h:Int):Nat->Nat
 |0=>0
 |l+1=>idx mask h l+lA mask (lp mask h l).1+1
theorem G1(mask:Nat)(h:Int):∀l,idx mask h l<=10*l
 |0=>aq _
 |l+1=>by
  have:=G1 mask h l;have:=JQ mask (lp mask h l).1;unfold idx;omega
theorem Eh(t:SetTable)(h:Int):∀l d,d<=lA t.mask (lp t.mask h l).1 ->
  pr t h (idx t.mask h l+d) = { j:=(lp t.mask h l).1+d,more:=lA t.mask (lp t.mask h l).1-d,i:=(lp t.mask h l).1,perturb:=(lp t.mask h l).2,dummy:=none }:=by
 intro l
 induction l with
 |zero=>
  intro d
  induction d with
  |zero=>intro _;rfl
  |succ d ih=>
   intro hd;have q:=ih (by omega);rw[<-Nat.add_assoc];show t.advance (pr t h (idx t.mask h 0+d))=_;rw[q];unfold SetTable.advance;simp only
   rw[if_pos (by omega)];simp only[Probe.mk.injEq,true_and,and_true]
   omega
 |succ l il=>
  intro d
  induction d with
  |zero=>
   intro _;have q:=il (lA t.mask (lp t.mask h l).1) (aq _);show pr t h (idx t.mask h l+lA t.mask (lp t.mask h l).1+1)=_;show t.advance (pr t h (idx t.mask h l+lA t.mask (lp t.mask h l).1))=_;rw[q];unfold SetTable.advance;simp only
   rw[if_neg (by omega)];rfl
  |succ d ih=>
   intro hd;have q:=ih (by omega);rw[<-Nat.add_assoc];show t.advance (pr t h (idx t.mask h (l+1)+d))=_;rw[q];unfold SetTable.advance;simp only
   rw[if_pos (by omega)];simp only[Probe.mk.injEq,true_and,and_true]
   omega
theorem Mi(mask:Nat)(h:Int):∀m,∃l d,d<=lA mask (lp mask h l).1/\m=idx mask h l+d
 |0=>⟨0,0,aZ _,rfl⟩
 |m+1=>by
  obtain⟨l,d,hd,e⟩:=Mi mask h m
  by_cases q:d<lA mask (lp mask h l).1
  ·exact⟨l,d+1,q,by omega⟩
  ·refine⟨l+1,0,aZ _,?_⟩;show m+1=idx mask h l+lA mask (lp mask h l).1+1+0;omega
theorem Fx{mask:Nat}(h:Int):∀l,(lp mask h l).1<=mask
 |0=>dP (gj _ (Nat.succ_pos _))
 |l+1=>dP (gj _ (Nat.succ_pos _))
theorem Iq(t:SetTable)(h:Int)(m:Nat):(pr t h m).j<=t.mask/\(pr t h m).dummy=none:=by
 obtain⟨l,d,hd,rfl⟩:=Mi t.mask h m
 rw[Eh t h l d hd]
 exact⟨Eg (Fx h l) hd,rfl⟩
theorem O8(h:Int):bits h<2^64:=by
 unfold bits
 have h1:(0:Int)<=h%2^64:=Int.emod_nonneg _ (by decide)
 have h2:h%2^64<2^64:=Int.emod_lt_of_pos _ (by decide)
 omega
theorem Ir{mask:Nat}{h:Int}:∀l,(lp mask h l).2=bits h/32^l
 |0=>by show bits h=_;simp
 |l+1=>by
  show (lp mask h l).2/32=_;rw[Ir l,gW,cg]
theorem Ei(mask:Nat)(h:Int):∀m,(lp mask h (12+m)).1=z8 (mask+1) m (lp mask h 12).1
 |0=>rfl
 |m+1=>by
  have z:(lp mask h (12+m)).2/32=0:=by
   rw[Ir,gW,<-cg];refine Nat.div_eq_of_lt (aI (O8 h) ?_);exact bf (show 2^64<=32^13 by decide) (dW (by decide) (by omega))
  show ((lp mask h (12+m)).1*5+1+(lp mask h (12+m)).2/32)%(mask+1)=_;rw[z,gX,Ei mask h m,xG (mask+1) m 1,z8,z8]
theorem JR{t:SetTable}{n:Nat}(o:Cv t n)(hn:n<=t.mask):∃j,j<=t.mask/\∀i:Nat,t.place[i]?≠some j:=by
 refine aH λ z=>?_
 have all:∀j,j<=t.mask->∃i,t.place[i]? = some j:=λ j hj=>aH λ q=>z ⟨j,hj,λ i e=>q ⟨i,e⟩⟩
 have key:∀j,j<=t.mask->∀i,t.place[i]? = some j->j<=i:=by
  intro j
  induction j with
  |zero=>intro _ i _;exact aZ _
  |succ j ih=>
   intro hj i e;obtain⟨i',e'⟩:=all j (by omega);have h1:=ih (by omega) i' e'
   rcases dO i' i with q | q | q
   ·omega
   ·subst q;rw[e] at e';cases e'
   ·have:=o.up _ _ _ _ e e' q;omega
 obtain⟨i,e⟩:=all t.mask (aq _)
 have h1:=key _ (aq _) i e
 obtain⟨h2,_⟩:=bx.mp e
 have:=o.size
 omega
def pF(t:SetTable)(j:Nat):Prop:=∀i:Nat,t.place[i]?≠some j
theorem xH{p:Nat->Prop}:∀m,p m->∃f,f<=m/\p f/\∀i,i<f->¬p i:=by
 intro m
 induction m using g8 with
 |ind m ih=>
  intro h
  by_cases q:∃i,i<m/\p i
  ·obtain⟨i,hi,hp⟩:=q;obtain⟨f,h1,h2,h3⟩:=ih i hi hp;exact⟨f,by omega,h2,h3⟩
  ·exact⟨m,aq _,h,λ i hi hp=>q ⟨i,hi,hp⟩⟩
theorem G2{t:SetTable}{n:Nat}(o:Cv t n)(hn:n<=t.mask)(h:Int):∃T,T<=10*(12+t.mask)/\pF t (pr t h T).j/\∀m,m<T->¬pF t (pr t h m).j:=by
 obtain⟨j,hj,fj⟩:=JR o hn
 obtain⟨k,hk,ek⟩:=o.pow
 have hx:(lp t.mask h 12).1<2^k:=by rw[<-ek];exact dQ (Fx h 12)
 obtain⟨m,hm,e⟩:=yR hx (show j<2^k by omega)
 rw[<-ek,<-Ei] at e
 have ZD:=Eh t h (12+m) 0 (aZ _)
 have hfree:pF t (pr t h (idx t.mask h (12+m)+0)).j:=by
  rw[ZD];show pF t ((lp t.mask h (12+m)).1+0);rw[e];exact fj
 obtain⟨T,h1,h2,h3⟩:=xH (p:=λ m=>pF t (pr t h m).j) _ hfree
 have:=G1 t.mask h (12+m)
 exact⟨T,by omega,h2,h3⟩
theorem AF{t:SetTable}{n:Nat}(o:Cv t n)(hashAt:Nat->Int)(h:Int){T:Nat}(hT:pF t (pr t h T).j)(hl:∀m,m<T->¬pF t (pr t h m).j):∀(fuel m:Nat),m<=T->T-m<fuel ->
  ((∀c,m<=c->c<T->∀i,t.place[i]? = some (pr t h c).j->hashAt i≠h)/\probe.go t hashAt h fuel (pr t h m)=some (.empty (pr t h T).j none)) \/
  (∃c i,m<=c/\c<T/\t.place[i]? = some (pr t h c).j/\hashAt i=h/\(∀c',m<=c'->c'<c->∀i,t.place[i]? = some (pr t h c').j->hashAt i≠h) /\
   probe.go t hashAt h fuel (pr t h m)=some (.candidate (pr t h c).j i (pr t h (c+1))))
 |0,m,_,h2=>by omega
 |fuel+1,m,h1,h2=>by
  rcases o.G0 (pr t h m).j with ⟨i,e,es⟩ | ⟨e,es⟩
  ·have hm:m<T:=by
    rcases fu m T with q | q
    ·exact q
    ·have:m=T:=by omega
     subst this;exact absurd e (hT i)
   by_cases hh:hashAt i=h
   ·right
    refine⟨m,i,aq _,hm,e,hh,λ c' a b=>by omega,?_⟩;unfold probe.go;simp only[es,hh,beq_self_eq_true,if_true]
    rfl
   ·have hs:probe.go t hashAt h (fuel+1) (pr t h m)=probe.go t hashAt h fuel (pr t h (m+1)):=by
     conv=>lhs;unfold probe.go
     have:(hashAt i==h)=false:=by simpa using hh
     simp only[es,this,aJ,if_false]
     rfl
    have JL:∀i',t.place[i']? = some (pr t h m).j->hashAt i'≠h:=λ i' e'=>by rw[o.up.inj e' e];exact hh
    rw[hs]
    rcases AF o hashAt h hT hl fuel (m+1) hm (by omega) with ⟨a,b⟩ | ⟨c,i2,a1,a2,a3,a4,a5,a6⟩
    ·left
     refine⟨λ c h3 h4 i' e'=>?_,b⟩
     rcases gn h3 with q | q
     ·subst q;exact JL i' e'
     ·exact a c q h4 i' e'
    ·right
     refine⟨c,i2,by omega,a2,a3,a4,λ c' h3 h4 i' e'=>?_,a6⟩
     rcases gn h3 with q | q
     ·subst q;exact JL i' e'
     ·exact a5 c' q h4 i' e'
  ·have hm:m=T:=by
    rcases fu m T with q | q
    ·exact absurd e (hl m q)
    ·omega
   subst hm
   left
   refine⟨λ c a b=>by omega,?_⟩;unfold probe.go;simp only[es,(Iq t h m).2]
theorem Mj{t:SetTable}{n:Nat}(o:Cv t n)(hashAt:Nat->Int)(h:Int){T:Nat}(hT:pF t (pr t h T).j)(hl:∀m,m<T->¬pF t (pr t h m).j)(hb:T<=10*(12+t.mask)){m:Nat}(hm:m<=T) :
  ((∀c,m<=c->c<T->∀i,t.place[i]? = some (pr t h c).j->hashAt i≠h)/\t.probe hashAt h (pr t h m)=some (.empty (pr t h T).j none)) \/
  (∃c i,m<=c/\c<T/\t.place[i]? = some (pr t h c).j/\hashAt i=h/\(∀c',m<=c'->c'<c->∀i,t.place[i]? = some (pr t h c').j->hashAt i≠h) /\
   t.probe hashAt h (pr t h m)=some (.candidate (pr t h c).j i (pr t h (c+1)))):=by
 unfold SetTable.probe
 exact AF o hashAt h hT hl _ m hm (by unfold turns;omega)
end St
end
noncomputable section
namespace St
open PySem PySem.SetTable
def tb(mask:Nat):SetTable:={ mask,place:=#[],dummies:=#[],finger:=0,led:=false,moves:=0,plain:=false }
def pj(mask:Nat)(h:Int)(m:Nat):Nat:=(pr (tb mask) h m).j
theorem QT(t:SetTable)(h:Int):∀m,pr t h m=pr (tb t.mask) h m
 |0=>rfl
 |m+1=>by
  show t.advance (pr t h m)=(tb t.mask).advance (pr (tb t.mask) h m);rw[QT t h m];rfl
theorem Fy(t:SetTable)(h:Int)(m:Nat):(pr t h m).j=pj t.mask h m:=by rw[QT];rfl
theorem AG(mask:Nat)(h:Int)(l d:Nat)(hd:d<=lA mask (lp mask h l).1):pj mask h (idx mask h l+d)=(lp mask h l).1+d:=by
 exact congrArg Probe.j (Eh (tb mask) h l d hd)
theorem Uz(mask:Nat)(h:Int)(m:Nat):pj mask h m<=mask:=(Iq (tb mask) h m).1
def RT(mask:Nat)(GG:Nat->Prop)(h:Int)(j:Nat):Prop:=∃c,pj mask h c=j/\∀m,m<c->GG (pj mask h m)
theorem RT.mono{mask:Nat}{GG UA:Nat->Prop}{h:Int}{j:Nat}(r:RT mask GG h j)(i:∀x,GG x->UA x):RT mask UA h j:=
 let ⟨c,e,a⟩:=r;⟨c,e,λ m hm=>i _ (a m hm)⟩
theorem Fz(mask:Nat)(h:Int):∀{a b:Nat},a<=b->idx mask h a<=idx mask h b:=by
 intro a b hab
 induction hab with
 |refl=>exact aq _
 |step _ ih=>exact bf ih (by show _<=idx mask h _+_+1;omega)
theorem RU(mask:Nat)(h:Int){a b:Nat}(hab:a<b):idx mask h a<idx mask h b:=
 aI (show idx mask h a<idx mask h (a+1) by show _<idx mask h a+_+1;omega) (Fz mask h hab)
theorem FA{mask k:Nat}(hk:mask+1=2^k)(GG:Nat->Prop)(hf:∃j,j<=mask/\¬GG j)(h:Int):∃T,T<=idx mask h (12+mask)/\¬GG (pj mask h T)/\∀m,m<T->GG (pj mask h m):=by
 obtain⟨j,hj,fj⟩:=hf
 have hx:(lp mask h 12).1<2^k:=by rw[<-hk];exact dQ (Fx h 12)
 obtain⟨m,hm,e⟩:=yR hx (show j<2^k by omega)
 rw[<-hk,<-Ei] at e
 have hfree:¬GG (pj mask h (idx mask h (12+m)+0)):=by
  rw[AG mask h _ 0 (aZ _),gX,e];exact fj
 obtain⟨T,h1,h2,h3⟩:=xH (p:=λ m=>¬GG (pj mask h m)) _ hfree
 have:=Fz mask h (show 12+m<=12+mask by omega)
 exact⟨T,by omega,h2,λ m hm=>aH (h3 m hm)⟩
def oc(owner:Array (Option Nat))(j:Nat):Prop:=∃k,owner[j]? = some (some k)
theorem Dc{mask:Nat}{owner:Array (Option Nat)}(hs:owner.size=mask+1)(h:Int){T:Nat}(hT:¬oc owner (pj mask h T)):∀(fuel l:Nat),idx mask h l<=T->T<idx mask h (l+fuel) ->
  (∀m,idx mask h l<=m->m<T->oc owner (pj mask h m))->layClean.free mask owner fuel (lp mask h l).1 (lp mask h l).2=some (pj mask h T)
 |0,l,h1,h2,_=>by rw[gX] at h2;omega
 |fuel+1,l,h1,h2,h3=>by
  have AH:∀j,j<=mask->((owner.getD j (some 0)).isNone=true↔¬oc owner j):=λ j hj=>by
   have hj':j<owner.size:=by omega
   have e1:owner.getD j (some 0)=owner[j]:=by simp[Array.getD,hj']
   have e2:owner[j]? = some owner[j]:=bw hj';rw[e1];unfold oc;rw[e2];generalize owner[j]=q
   cases q<;>simp
  have hle:=Fx (mask:=mask) h l;unfold layClean.free;have er:runEnd mask (lp mask h l).1+1-(lp mask h l).1=lA mask (lp mask h l).1+1:=by
   unfold lA runEnd;split<;>omega
  simp only[er]
  by_cases q:T<=idx mask h l+lA mask (lp mask h l).1
  ·obtain⟨d,hd⟩:∃d,T=idx mask h l+d:=⟨T-idx mask h l,by omega⟩
   have hdl:d<=lA mask (lp mask h l).1:=by omega
   have e:(ay (lA mask (lp mask h l).1+1)).find? (λ k=>(owner.getD ((lp mask h l).1+k) (some 0)).isNone)=some d:=by
    rw[gG];refine⟨(AH _ (Eg hle hdl)).mpr ?_,aG.mpr (by omega),λ k hk=>?_⟩
    ·rw[<-AG mask h l d hdl,<-hd];exact hT
    ·have:=h3 (idx mask h l+k) (by omega) (by omega);rw[AG mask h l k (by omega)] at this;have nn:¬(owner.getD ((lp mask h l).1+k) (some 0)).isNone=true:=λ z=>(AH _ (Eg hle (by omega))).mp z this
     rw[gM] at nn;rw[nn];rfl
   rw[e];show some ((lp mask h l).1+d)=_;rw[<-AG mask h l d hdl,<-hd]
  ·have e:(ay (lA mask (lp mask h l).1+1)).find? (λ k=>(owner.getD ((lp mask h l).1+k) (some 0)).isNone)=none:=by
    rw[List.find?_eq_none];intro k hk z;have hk:=aG.mp hk;have:=h3 (idx mask h l+k) (by omega) (by omega);rw[AG mask h l k (by omega)] at this;exact (AH _ (Eg hle (by omega))).mp z this
   rw[e];show layClean.free mask owner fuel (lp mask h (l+1)).1 (lp mask h (l+1)).2=_;have ei:idx mask h (l+1)=idx mask h l+lA mask (lp mask h l).1+1:=rfl;refine Dc hs h hT fuel (l+1) (by omega) (by rw[show l+1+fuel=l+(fuel+1) by omega];exact h2) λ m a b=>h3 m (by omega) b
structure Own(mask:Nat)(hs:Array Int)(owner:Array (Option Nat))(k:Nat):Prop where
 size:owner.size=mask+1
 lt:∀(j i:Nat),owner[j]? = some (some i)->i<k
 has:∀i,i<k->∃j:Nat,owner[j]? = some (some i)
 inj:∀(j j' i:Nat),owner[j]? = some (some i)->owner[j']? = some (some i)->j=j'
 Lr:∀(j i:Nat) (h:Int),owner[j]? = some (some i)->hs[i]? = some h->RT mask (oc owner) h j
theorem uB:∀(l m:List Nat),l.Nodup->(∀x,x∈l->x∈m)->l.length<=m.length
 |[],_,_,_=>aZ _
 |x::l,m,hn,hs=>by
  have hx:=hs x aP;have h1:=uB l (m.erase x) (cR.mp hn).2 λ y hy=>by
   have ne:y≠x:=λ e=>(cR.mp hn).1 (e ▸ hy)
   exact (iz ne).mpr (hs y (aM _ hy))
  rw[gH hx] at h1;have:=gY hx;simp only[aK];omega
theorem Own.free{mask k:Nat}{hs:Array Int}{owner:Array (Option Nat)}(o:Own mask hs owner k)(hk:k<=mask):∃j,j<=mask/\¬oc owner j:=by
 refine aH λ z=>?_
 have all:∀j,j<=mask->oc owner j:=λ j hj=>aH λ q=>z ⟨j,hj,q⟩
 have:=uB ((ay (mask+1)).map λ j=>((owner[j]?).bind id).getD 0) (ay k) (by
  rw[List.Nodup,cS];refine eV (λ {a b} ha hb (hab:a≠b) e=>?_) gO;obtain⟨i,ei⟩:=all a (dP (aG.mp ha));obtain⟨i',Yg⟩:=all b (dP (aG.mp hb));rw[ei,Yg] at e;have e:i=i':=e;subst e;exact hab (o.inj a b i ei Yg)) (λ x hx=>by
  obtain⟨j,hj,rfl⟩:=az.mp hx;obtain⟨i,ei⟩:=all j (dP (aG.mp hj));rw[ei];exact aG.mpr (o.lt j i ei))
 simp at this
 omega
theorem Own.step{mask k:Nat}{hs:Array Int}{owner:Array (Option Nat)}{h:Int}(hp:∃r,mask+1=2^r)(o:Own mask hs owner k)(hk:k<=mask)(hh:hs[k]? = some h) :
  ∃j,layClean.free mask owner (turns mask) (bits h%(mask+1)) (bits h)=some j/\Own mask hs (owner.setIfInBounds j (some k)) (k+1):=by
 obtain⟨r,er⟩:=hp
 obtain⟨T,h1,h2,h3⟩:=FA er (oc owner) (o.free hk) h
 have hjm:=Uz mask h T
 have ZE:pj mask h T<owner.size:=by rw[o.size];omega
 have get:∀j':Nat,(owner.setIfInBounds (pj mask h T) (some k))[j']? = if pj mask h T=j' then some (some k) else owner[j']?:=λ j'=>by
  rw[Array.getElem?_setIfInBounds]
  split
  ·rename_i e;subst e;first | rfl | rw[if_pos ZE]
  ·rfl
 have Ml:∀x,oc owner x->oc (owner.setIfInBounds (pj mask h T) (some k)) x:=λ x ⟨i,e⟩=>by
  by_cases q:pj mask h T=x
  ·exact⟨k,by rw[get,if_pos q]⟩
  ·exact⟨i,by rw[get,if_neg q];exact e⟩
 refine⟨pj mask h T,Dc o.size h h2 (turns mask) 0 (aZ _) ?_ λ m _ hm=>h3 m hm,?_⟩
 ·rw[iS]
  exact bF h1 (RU mask h (by unfold turns;omega))
 ·refine⟨by rw[Array.size_setIfInBounds];exact o.size,λ j i e=>?_,λ i hi=>?_,λ j j' i e e'=>?_,λ j i h' e eh=>?_⟩
  ·rw[get] at e
   split at e
   ·cases e;omega
   ·have:=o.lt j i e;omega
  ·by_cases q:i=k
   ·exact⟨pj mask h T,by rw[get,if_pos rfl,q]⟩
   ·obtain⟨j,e⟩:=o.has i (by omega);refine⟨j,?_⟩;rw[get,if_neg]
    ·exact e
    ·rintro rfl;exact h2 ⟨i,e⟩
  ·rw[get] at e e'
   split at e
   ·cases e
    split at e'
    ·omega
    ·have:=o.lt j' _ e';omega
   ·split at e'
    ·cases e';have:=o.lt j _ e;omega
    ·exact o.inj j j' i e e'
  ·rw[get] at e
   split at e
   ·rename_i ej
    cases e;rw[hh] at eh;cases eh;exact⟨T,ej,λ m hm=>Ml _ (h3 m hm)⟩
   ·exact (o.Lr j i h' e eh).mono Ml
end St
end
noncomputable section
namespace St
open PySem PySem.SetTable
theorem FE{mask:Nat}(hp:∃r,mask+1=2^r)(hs:Array Int)(hn:hs.size<=mask)(F:Option (Array (Option Nat)×Nat)->Int->Option (Array (Option Nat)×Nat))
  (hF:∀(owner:Array (Option Nat)) (k:Nat) (h:Int),F (some (owner,k)) h=(layClean.free mask owner (turns mask) (bits h%(mask+1)) (bits h)).bind λ j=>some (owner.setIfInBounds j (some k),k+1)) :
  ∀(l:List Int) (k:Nat) (owner:Array (Option Nat)),Own mask hs owner k->k+l.length=hs.size->hs.toList.drop k=l->∃owner',l.foldl F (some (owner,k))=some (owner',hs.size)/\Own mask hs owner' hs.size
 |[],k,owner,o,hl,e=>by
  have:k=hs.size:=by simpa using hl
  subst this;exact⟨owner,rfl,o⟩
 |h::l,k,owner,o,hl,e=>by
  have hk:k<hs.size:=by simp at hl;omega
  have hh:hs[k]? = some h:=by
   have:hs.toList[k]? = some h:=by
    have q:=congrArg (λ m=>m[0]?) e
    simpa using q
   simpa using this
  obtain⟨j,e1,o'⟩:=o.step hp (by omega) hh;obtain⟨ow,e2,o2⟩:=FE hp hs hn F hF l (k+1) _ o' (by simp at hl;omega) (by
   have q:=congrArg List.tail e;rw[List.tail_drop] at q;exact q)
  refine⟨ow,?_,o2⟩;rw[dD,hF,e1];exact e2
theorem JS{mask:Nat}(hp:∃r,mask+1=2^r)(hs:Array Int)(hn:hs.size<=mask):∃owner,layClean mask hs=some owner/\Own mask hs owner hs.size:=by
 have o0:Own mask hs (Array.replicate (mask+1) none) 0:=by
  have no:∀(j i:Nat),(Array.replicate (mask+1) (none:Option Nat))[j]?≠some (some i):=λ j i e=>by
   rw[Array.getElem?_replicate] at e
   split at e<;>cases e
  exact⟨by simp,λ j i e=>absurd e (no j i),λ i h=>by omega,λ j _ i e=>absurd e (no j i),λ j i _ e=>absurd e (no j i)⟩
 unfold layClean
 rw[<-Array.foldl_toList]
 obtain⟨ow,e,o⟩:=FE hp hs hn (λ acc h=>do
  let (owner,k) <-acc
  let j <-layClean.free mask owner (turns mask) (bits h%(mask+1)) (bits h)
  pure (owner.setIfInBounds j (some k),k+1)) (λ owner k h=>rfl) hs.toList 0 _ o0 (by simp) rfl
 exact⟨ow,congrArg (Option.map (·.1)) e,o⟩
def kZ(mask:Nat)(owner:Array (Option Nat)):List (Nat×Nat):=(ay (mask+1)).filterMap λ j=>(owner.getD j none).map (j,·)
theorem qd{mask:Nat}{owner:Array (Option Nat)}(hs:owner.size=mask+1){j i:Nat}:(j,i)∈kZ mask owner↔owner[j]? = some (some i):=by
 have gd:∀j,owner.getD j none=(owner[j]?).getD none:=λ j=>by
  rw[Array.getD_eq_getD_getElem?]
 unfold kZ
 rw[eY]
 constructor
 ·rintro⟨j',h1,h2⟩
  rw[gd] at h2
  cases e:owner[j']? with
  |none=>rw[e] at h2;cases h2
  |some v=>
   rw[e] at h2
   cases v with
   |none=>cases h2
   |some i'=>
    have h2:some (j',i')=some (j,i):=h2
    cases h2;exact e
 ·intro e
  obtain⟨h,_⟩:=bx.mp e;exact⟨j,aG.mpr (by omega),by rw[gd,e];rfl⟩
theorem Dd(mask:Nat)(owner:Array (Option Nat)):(kZ mask owner).Pairwise λ a b=>a.1<b.1:=by
 unfold kZ
 rw[List.pairwise_filterMap]
 refine cT (λ {a b} hab=>?_) gZ
 intro x hx y hy
 cases e:owner.getD a none with
 |none=>rw[e] at hx;cases hx
 |some v=>
  cases e':owner.getD b none with
  |none=>rw[e'] at hy;cases hy
  |some v'=>
   rw[e] at hx;rw[e'] at hy
   cases hx;cases hy;exact hab
theorem Mm{mask n:Nat}{hs:Array Int}{owner:Array (Option Nat)}(o:Own mask hs owner n):(kZ mask owner).length=n:=by
 have nd:((kZ mask owner).map (·.2)).Nodup:=by
  rw[List.Nodup,cS];refine eV (λ {a b} ha hb hab e=>?_) (Dd mask owner);obtain⟨a1,a2⟩:=a;obtain⟨b1,b2⟩:=b;have e:a2=b2:=e;subst e;have:=o.inj a1 b1 a2 ((qd o.size).mp ha) ((qd o.size).mp hb);have hab:a1<b1:=hab;omega
 have h1:=uB _ (ay n) nd (λ x hx=>by
  obtain⟨⟨j,i⟩,hm,rfl⟩:=az.mp hx;exact aG.mpr (o.lt j i ((qd o.size).mp hm)))
 have h2:=uB (ay n) ((kZ mask owner).map (·.2)) gO (λ x hx=>by
  obtain⟨j,e⟩:=o.has x (aG.mp hx);exact az.mpr ⟨(j,x),(qd o.size).mpr e,rfl⟩)
 simp only[ah,cH] at h1 h2
 omega
theorem O9{mask:Nat}(hp:∃r,3<=r/\mask+1=2^r)(finger moves:Nat)(led plain:Bool)(hs:Array Int)(hn:hs.size<=mask) :
  ∃t order,laid mask finger moves led plain hs=some (t,order)/\Cv t hs.size/\t.mask=mask/\t.led=led/\t.plain=plain/\t.moves=moves/\order.size=hs.size /\
   (∀(r o:Nat),order[r]? = some o->o<hs.size)/\(∀(r r' o:Nat),order[r]? = some o->order[r']? = some o->r=r')/\(∀o,o<hs.size->∃r:Nat,order[r]? = some o) /\
   (∀(r o j:Nat) (h:Int),order[r]? = some o->t.place[r]? = some j->hs[o]? = some h->RT mask (λ x=>∃i:Nat,t.place[i]? = some x) h j):=by
 obtain⟨r,hr,er⟩:=hp
 obtain⟨owner,e,o⟩:=JS ⟨r,er⟩ hs hn
 have len:=Mm o
 have pl:∀i:Nat,(((kZ mask owner).map (·.1)).toArray)[i]? = ((kZ mask owner)[i]?).map (·.1):=λ i=>by simp
 have od:∀i:Nat,(((kZ mask owner).map (·.2)).toArray)[i]? = ((kZ mask owner)[i]?).map (·.2):=λ i=>by simp
 have rise:∀(i i':Nat) (a b:Nat×Nat),(kZ mask owner)[i]? = some a->(kZ mask owner)[i']? = some b->i<i'->a.1<b.1:=λ i i' a b ea eb hlt=>by
  obtain⟨h1,e1⟩:=ao.mp ea;obtain⟨h2,e2⟩:=ao.mp eb;have:=List.pairwise_iff_getElem.mp (Dd mask owner) i i' h1 h2 hlt;rw[e1,e2] at this;exact this
 have GG:∀x,oc owner x->∃i:Nat,(((kZ mask owner).map (·.1)).toArray)[i]? = some x:=λ x ⟨k,ek⟩=>by
  obtain⟨i,hi,ei⟩:=bN ((qd o.size).mpr ek);exact⟨i,by rw[pl,af hi,ei];rfl⟩
 have at_:∀(i:Nat) (a:Nat×Nat),(kZ mask owner)[i]? = some a->owner[a.1]? = some (some a.2):=λ i a ea=>(qd o.size).mp (au ea)
 refine⟨{ mask,place:=((kZ mask owner).map (·.1)).toArray,dummies:=#[],finger,led,moves,plain },((kZ mask owner).map (·.2)).toArray,?_,⟨by simpa using len,λ i i' a b ea eb hlt=>?_,λ i j ej=>?_,rfl,⟨r,hr,er⟩⟩,rfl,rfl,rfl,rfl,by simpa using len,λ i v ev=>?_,λ i i' v ev ev'=>?_,λ v hv=>?_,λ i v j h ev ej eh=>?_⟩
 ·unfold laid
  rw[e];rfl
 ·simp only[pl] at ea eb
  cases q:(kZ mask owner)[i]? with
  |none=>rw[q] at ea;cases ea
  |some x=>
   cases q':(kZ mask owner)[i']? with
   |none=>rw[q'] at eb;cases eb
   |some y=>
    rw[q] at ea;rw[q'] at eb
    cases ea;cases eb;exact rise i i' x y q q' hlt
 ·simp only[pl] at ej
  cases q:(kZ mask owner)[i]? with
  |none=>rw[q] at ej;cases ej
  |some x=>
   rw[q] at ej;cases ej;obtain⟨h,_⟩:=bx.mp (at_ i x q);have:=o.size;show x.1<=mask;omega
 ·rw[od] at ev
  cases q:(kZ mask owner)[i]? with
  |none=>rw[q] at ev;cases ev
  |some x=>
   rw[q] at ev;cases ev;exact o.lt _ _ (at_ i x q)
 ·rw[od] at ev ev'
  cases q:(kZ mask owner)[i]? with
  |none=>rw[q] at ev;cases ev
  |some x=>
   cases q':(kZ mask owner)[i']? with
   |none=>rw[q'] at ev';cases ev'
   |some y=>
    rw[q] at ev;rw[q'] at ev';have ev:some x.2=some v:=ev;have ev':some y.2=some v:=ev'
    cases ev;have e2:y.2=x.2:=aS ev';have h1:=at_ i x q;have h2:=at_ i' y q';rw[e2] at h2;have:=o.inj _ _ _ h1 h2
    rcases dO i i' with z | z | z
    ·have:=rise i i' x y q q' z;omega
    ·exact z
    ·have:=rise i' i y x q' q z;omega
 ·obtain⟨j,ej⟩:=o.has v hv
  obtain⟨i,hi,ei⟩:=bN ((qd o.size).mpr ej);exact⟨i,by rw[od,af hi,ei];rfl⟩
 ·rw[od] at ev
  simp only[pl] at ej
  cases q:(kZ mask owner)[i]? with
  |none=>rw[q] at ev;cases ev
  |some x=>
   rw[q] at ev ej
   cases ev;cases ej;exact (o.Lr _ _ h (at_ i x q) eh).mono GG
end St
end
noncomputable section
namespace St
open PySem PySem.SetTable
def Pa(x:Nat):Nat:=x/2^0%2+x/2^1%2+x/2^2%2+x/2^3%2+x/2^4%2+x/2^5%2+x/2^6%2+x/2^7%2+x/2^8%2+x/2^9%2
def walk(M:Nat):Nat->Nat->Nat->Nat->Nat×Nat
 |0,c,_,n=>(c,n)
 |s+1,c,W,n=>if c+10<=M then walk M s ((c*5+1)%M) (W ||| (1023 <<< c)) (n+(10-Pa ((W >>> c)%1024))) else walk M s ((c*5+1)%M) W n
def Ej(M bound:Nat):Nat->Nat->Bool
 |0,_=>true
 |t+1,c=>Nat.blt bound (walk M 4096 c 0 0).2&&Ej M bound t (walk M 4096 c 0 0).1
theorem FF(M:Nat):∀s c W n,(walk M s c W n).1=z8 M s c
 |0,_,_,_=>rfl
 |s+1,c,W,n=>by
  unfold walk
  split<;>rw[FF M s]<;>rfl
theorem vP(W c d:Nat)(hd:d<10):(W >>> c)%1024/2^d%2=(W.testBit (c+d)).toNat:=by
 rw[<-Nat.toNat_testBit,show 1024=2^10 from rfl,Nat.testBit_mod_two_pow,Nat.testBit_shiftRight,decide_eq_true hd,bZ]
theorem UB(f:Nat->Bool):∀l:List Nat,(l.filter λ d=>!f d).length+(l.map λ d=>(f d).toNat).sum=l.length
 |[]=>rfl
 |d::l=>by
  have:=UB f l
  cases e:f d<;>simp[e]<;>omega
theorem Pb(W c:Nat):((ay 10).filter λ d=>!W.testBit (c+d)).length=10-Pa ((W >>> c)%1024):=by
 have h:=UB (λ d=>W.testBit (c+d)) (ay 10)
 have e:ay 10=[0,1,2,3,4,5,6,7,8,9]:=by decide
 have e2:((ay 10).map λ d=>(W.testBit (c+d)).toNat).sum=Pa ((W >>> c)%1024):=by
  unfold Pa;rw[vP W c 0 (by decide),vP W c 1 (by decide),vP W c 2 (by decide),vP W c 3 (by decide),vP W c 4 (by decide),vP W c 5 (by decide),vP W c 6 (by decide),vP W c 7 (by decide),vP W c 8 (by decide),vP W c 9 (by decide),e];simp only[aU,bQ,cW,List.sum_nil]
  omega
 rw[e2] at h
 simp only[cH] at h
 omega
theorem RV(W c j:Nat):(W ||| (1023 <<< c)).testBit j=(W.testBit j||(decide (c<=j)&&decide (j<c+10))):=by
 rw[Nat.testBit_or,Nat.testBit_shiftLeft,show 1023=2^10-1 from rfl,Nat.testBit_two_pow_sub_one]
 congr 1
 by_cases h:c<=j
 ·simp only[ge_iff_le,h,decide_true,bZ]
  congr 1
  exact propext ⟨λ _=>by omega,λ _=>by omega⟩
 ·simp[h]
theorem Ek{M:Nat}(L:Nat->Prop):∀(s c W n:Nat) (l:List Nat),l.Nodup->(∀j,j∈l->L j)->n<=l.length->(∀j,W.testBit j=true↔j∈l) ->
  (∀r,r<s->z8 M r c+10<=M->∀d,d<10->L (z8 M r c+d))->∃l':List Nat,l'.Nodup/\(∀j,j∈l'->L j)/\(walk M s c W n).2<=l'.length
 |0,_,_,_,l,h1,h2,h3,_,_=>⟨l,h1,h2,h3⟩
 |s+1,c,W,n,l,h1,h2,h3,h4,h5=>by
  have Yh:∀r,r<s->z8 M r ((c*5+1)%M)+10<=M->∀d,d<10->L (z8 M r ((c*5+1)%M)+d):=λ r hr=>h5 (r+1) (by omega)
  unfold walk
  split
  ·rename_i hc
   have hw:=h5 0 (by omega) hc;refine Ek L s _ _ _ (l++((ay 10).filter λ d=>!W.testBit (c+d)).map (c + ·)) ?_ (λ j hj=>?_) ?_ (λ j=>?_) Yh
   ·rw[cU];refine⟨h1,?_,λ a ha b hb e=>?_⟩
    ·rw[List.Nodup,cS];exact cT (λ {a b} (hab:a≠b)=>by omega) (List.Pairwise.filter _ gO)
    ·subst e;obtain⟨d,hd,rfl⟩:=az.mp hb;have hd:=(bM.mp hd).2;have:=(h4 (c+d)).mpr ha;rw[this] at hd;cases hd
   ·rcases br.mp hj with hj | hj
    ·exact h2 j hj
    ·obtain⟨d,hd,rfl⟩:=az.mp hj;exact hw d (aG.mp (bM.mp hd).1)
   ·rw[aE,ah,Pb];omega
   ·rw[RV,Bool.or_eq_true,h4,br,aR,decide_eq_true_eq,decide_eq_true_eq]
    constructor
    ·rintro (h | ⟨a,b⟩)
     ·exact .inl h
     ·by_cases q:j∈l
      ·exact .inl q
      ·refine .inr (az.mpr ⟨j-c,bM.mpr ⟨aG.mpr (by omega),?_⟩,by omega⟩);have e:c+(j-c)=j:=by omega
       rw[e];have:W.testBit j=false:=by
        cases z:W.testBit j with
        |false=>rfl
        |true=>exact absurd ((h4 j).mp z) q
       rw[this];rfl
    ·rintro (h | h)
     ·exact .inl h
     ·obtain⟨d,hd,rfl⟩:=az.mp h;have:=aG.mp (bM.mp hd).1;exact .inr ⟨by omega,by omega⟩
  ·exact Ek L s _ _ _ l h1 h2 h3 h4 Yh
theorem Iu{M bound:Nat}:∀{n c:Nat},Ej M bound n c=true->∀t,t<n->bound<(walk M 4096 (z8 M (4096*t) c) 0 0).2
 |0,_,_,t,ht=>by omega
 |n+1,c,h,t,ht=>by
  unfold Ej at h;rw[aR] at h
  cases t with
  |zero=>exact Nat.blt_eq.mp h.1
  |succ t=>
   have:=Iu h.2 t (by omega);rw[FF,<-xG,show 4096+4096*t=4096*(t+1) by omega] at this;exact this
theorem Pc{t:SetTable}{n:Nat}(o:Cv t n)(l:List Nat)(h1:l.Nodup)(h2:∀j,j∈l->¬pF t j):l.length<=n:=by
 have:=uB l t.place.toList h1 λ j hj=>by
  have:=h2 j hj;obtain⟨i,e⟩:∃i:Nat,t.place[i]? = some j:=aH λ z=>this λ i e=>z ⟨i,e⟩
  exact au (i:=i) (by simpa using e)
 have hs:=o.size
 simp only[c8] at this
 omega
theorem early{t:SetTable}{n N K k:Nat}(o:Cv t n)(hn:n<=N)(hK:t.mask+1=4096*K)(hk:t.mask+1=2^k)(hs:Ej (t.mask+1) N (K+1) 0=true)(h:Int){T:Nat}(hl:∀m,m<T->¬pF t (pr t h m).j):T<=10*8204:=by
 refine Nat.le_of_not_lt λ big=>?_
 have hM:0<2^k:=by omega
 obtain⟨m0,hm0,e0⟩:=yR (k:=k) (x:=0) (t:=(lp t.mask h 12).1) hM (by rw[<-hk];exact dQ (Fx h 12))
 rw[<-hk] at e0 hm0
 have ht:(m0+4095)/4096<K+1:=by omega
 have hr:m0<=4096*((m0+4095)/4096)/\4096*((m0+4095)/4096)<m0+4096:=by omega
 generalize (m0+4095)/4096=q at ht hr
 have ZF:=Iu hs q ht
 obtain⟨l',n1,n2,n3⟩:=Ek (M:=t.mask+1) (λ j=>¬pF t j) 4096 (z8 (t.mask+1) (4096*q) 0) 0 0 [] iA (λ _ h=>absurd h (by simp)) (aq _) (λ j=>by simp) (λ r hr' hc d hd=>by
  have e:z8 (t.mask+1) r (z8 (t.mask+1) (4096*q) 0)=(lp t.mask h (12+(4096*q-m0+r))).1:=by
   rw[Ei,<-e0,<-xG,<-xG]
   congr 1;omega
  rw[e] at hc ⊢;have hrl:lA t.mask (lp t.mask h (12+(4096*q-m0+r))).1=9:=by
   unfold lA runEnd;rw[if_pos (by omega)];omega
  have hp:=Eh t h (12+(4096*q-m0+r)) d (by omega);have hi:=G1 t.mask h (12+(4096*q-m0+r));have:=hl (idx t.mask h (12+(4096*q-m0+r))+d) (by omega);rw[hp] at this;exact this)
 have:=Pc o l' n1 n2
 omega
def Sz(mask n:Nat):Prop:=(mask=7/\n<=4)\/(mask=31/\n<=18)\/(mask=127/\n<=76)\/(mask=511/\n<=306)\/(mask=2047/\n<=1228)\/(mask=8191/\n<=4914)\/(mask=32767/\n<=19660)\/(mask=131071/\n<=32768)
set_option maxRecDepth 1000000
theorem jn{M b t c c' n:Nat}(h:walk M 4096 c 0 0=(c',n))(hb:Nat.blt b n=true)(hr:Ej M b t c'=true):Ej M b (t+1) c=true:=by
 unfold Ej
 rw[h,hb,hr];rfl
theorem Mn:walk 32768 4096 0 0 0=(28672,24292):=by decide +kernel
theorem Mp:walk 32768 4096 28672 0 0=(24576,23986):=by decide +kernel
theorem Mq:walk 32768 4096 24576 0 0=(20480,24282):=by decide +kernel
theorem Mr:walk 32768 4096 20480 0 0=(16384,23984):=by decide +kernel
theorem Ms:walk 32768 4096 16384 0 0=(12288,24281):=by decide +kernel
theorem Mt:walk 32768 4096 12288 0 0=(8192,23984):=by decide +kernel
theorem Mu:walk 32768 4096 8192 0 0=(4096,24292):=by decide +kernel
theorem Mv:walk 32768 4096 4096 0 0=(0,23986):=by decide +kernel
theorem Mw:walk 32768 4096 0 0 0=(28672,24292):=by decide +kernel
theorem RW:Ej 32768 19660 9 0=true:=jn Mn rfl (jn Mp rfl (jn Mq rfl (jn Mr rfl (jn Ms rfl (jn Mt rfl (jn Mu rfl (jn Mv rfl (jn Mw rfl (rfl)))))))))
theorem Mx:walk 131072 4096 0 0 0=(126976,35837):=by decide +kernel
theorem My:walk 131072 4096 126976 0 0=(122880,35608):=by decide +kernel
theorem Mz:walk 131072 4096 122880 0 0=(118784,35717):=by decide +kernel
theorem MA:walk 131072 4096 118784 0 0=(114688,35557):=by decide +kernel
theorem MB:walk 131072 4096 114688 0 0=(110592,35807):=by decide +kernel
theorem MD:walk 131072 4096 110592 0 0=(106496,35532):=by decide +kernel
theorem ME:walk 131072 4096 106496 0 0=(102400,35655):=by decide +kernel
theorem MF:walk 131072 4096 102400 0 0=(98304,35622):=by decide +kernel
theorem MG:walk 131072 4096 98304 0 0=(94208,35827):=by decide +kernel
theorem MH:walk 131072 4096 94208 0 0=(90112,35598):=by decide +kernel
theorem JT:walk 131072 4096 90112 0 0=(86016,35707):=by decide +kernel
theorem JU:walk 131072 4096 86016 0 0=(81920,35557):=by decide +kernel
theorem JV:walk 131072 4096 81920 0 0=(77824,35807):=by decide +kernel
theorem JW:walk 131072 4096 77824 0 0=(73728,35542):=by decide +kernel
theorem JX:walk 131072 4096 73728 0 0=(69632,35655):=by decide +kernel
theorem JY:walk 131072 4096 69632 0 0=(65536,35622):=by decide +kernel
theorem JZ:walk 131072 4096 65536 0 0=(61440,35837):=by decide +kernel
theorem J0:walk 131072 4096 61440 0 0=(57344,35608):=by decide +kernel
theorem J1:walk 131072 4096 57344 0 0=(53248,35717):=by decide +kernel
theorem J2:walk 131072 4096 53248 0 0=(49152,35557):=by decide +kernel
theorem J3:walk 131072 4096 49152 0 0=(45056,35807):=by decide +kernel
theorem J4:walk 131072 4096 45056 0 0=(40960,35542):=by decide +kernel
theorem J5:walk 131072 4096 40960 0 0=(36864,35655):=by decide +kernel
theorem J6:walk 131072 4096 36864 0 0=(32768,35622):=by decide +kernel
theorem J7:walk 131072 4096 32768 0 0=(28672,35837):=by decide +kernel
theorem J8:walk 131072 4096 28672 0 0=(24576,35608):=by decide +kernel
theorem J9:walk 131072 4096 24576 0 0=(20480,35717):=by decide +kernel
theorem Kc:walk 131072 4096 20480 0 0=(16384,35547):=by decide +kernel
theorem Kd:walk 131072 4096 16384 0 0=(12288,35790):=by decide +kernel
theorem Ke:walk 131072 4096 12288 0 0=(8192,35542):=by decide +kernel
theorem Kf:walk 131072 4096 8192 0 0=(4096,35655):=by decide +kernel
theorem Kg:walk 131072 4096 4096 0 0=(0,35614):=by decide +kernel
theorem Kl:walk 131072 4096 0 0 0=(126976,35837):=by decide +kernel
theorem RX:Ej 131072 32768 33 0=true:=jn Mx rfl (jn My rfl (jn Mz rfl (jn MA rfl (jn MB rfl (jn MD rfl (jn ME rfl (jn MF rfl (jn MG rfl (jn MH rfl (jn JT rfl (jn JU rfl (jn JV rfl (jn JW rfl (jn JX rfl (jn JY rfl (jn JZ rfl (jn J0 rfl (jn J1 rfl (jn J2 rfl (jn J3 rfl (jn J4 rfl (jn J5 rfl (jn J6 rfl (jn J7 rfl (jn J8 rfl (jn J9 rfl (jn Kc rfl (jn Kd rfl (jn Ke rfl (jn Kf rfl (jn Kg rfl (jn Kl rfl (rfl)))))))))))))))))))))))))))))))))
theorem G3{t:SetTable}{n:Nat}(o:Cv t n)(z:Sz t.mask n)(h:Int) :
  ∃T,T<99999/\T<=10*(12+t.mask)/\pF t (pr t h T).j/\∀m,m<T->¬pF t (pr t h m).j:=by
 have hnm:n<=t.mask:=by rcases z with ⟨e,h⟩ | ⟨e,h⟩ | ⟨e,h⟩ | ⟨e,h⟩ | ⟨e,h⟩ | ⟨e,h⟩ | ⟨e,h⟩ | ⟨e,h⟩<;>omega
 have hc:t.mask<=8191\/(t.mask=32767/\n<=19660)\/(t.mask=131071/\n<=32768):=by
  rcases z with ⟨e,h⟩ | ⟨e,h⟩ | ⟨e,h⟩ | ⟨e,h⟩ | ⟨e,h⟩ | ⟨e,h⟩ | ⟨e,h⟩ | ⟨e,h⟩
  ·left;omega
  ·left;omega
  ·left;omega
  ·left;omega
  ·left;omega
  ·left;omega
  ·exact .inr (.inl ⟨e,h⟩)
  ·exact .inr (.inr ⟨e,h⟩)
 obtain⟨T,h1,h2,h3⟩:=G2 o hnm h
 refine⟨T,?_,h1,h2,h3⟩
 rcases hc with q | ⟨e,hn⟩ | ⟨e,hn⟩
 ·omega
 ·have:=early (N:=19660) (K:=8) (k:=15) o hn (by omega) (by omega) (by rw[e];exact RW) h h3
  omega
 ·have:=early (N:=32768) (K:=32) (k:=17) o hn (by omega) (by omega) (by rw[e];exact RX) h h3
  omega
theorem Sz.pow{mask n:Nat}(z:Sz mask n):∃k,3<=k/\mask+1=2^k:=by
 rcases z with ⟨rfl,_⟩ | ⟨rfl,_⟩ | ⟨rfl,_⟩ | ⟨rfl,_⟩ | ⟨rfl,_⟩ | ⟨rfl,_⟩ | ⟨rfl,_⟩ | ⟨rfl,_⟩
 ·exact⟨3,by decide,rfl⟩
 ·exact⟨5,by decide,rfl⟩
 ·exact⟨7,by decide,rfl⟩
 ·exact⟨9,by decide,rfl⟩
 ·exact⟨11,by decide,rfl⟩
 ·exact⟨13,by decide,rfl⟩
 ·exact⟨15,by decide,rfl⟩
 ·exact⟨17,by decide,rfl⟩
theorem Sz.more{mask n:Nat}(z:Sz mask n)(hn:n+1<=32768):(¬(n+1)*5>=mask*3/\Sz mask (n+1)) \/
  ((n+1)*5>=mask*3/\sizeAbove (grown (n+1))<=131072/\Sz (sizeAbove (grown (n+1))-1) (n+1)):=by
 rcases z with ⟨rfl,h⟩ | ⟨rfl,h⟩ | ⟨rfl,h⟩ | ⟨rfl,h⟩ | ⟨rfl,h⟩ | ⟨rfl,h⟩ | ⟨rfl,h⟩ | ⟨rfl,h⟩
 ·by_cases q:(n+1)*5>=7*3
  ·obtain rfl:n=4:=by omega
   exact .inr ⟨q,by decide +kernel,.inr (.inl ⟨by decide +kernel,by decide⟩)⟩
  ·exact .inl ⟨q,.inl ⟨rfl,by omega⟩⟩
 ·by_cases q:(n+1)*5>=31*3
  ·obtain rfl:n=18:=by omega
   exact .inr ⟨q,by decide +kernel,.inr (.inr (.inl ⟨by decide +kernel,by decide⟩))⟩
  ·exact .inl ⟨q,.inr (.inl ⟨rfl,by omega⟩)⟩
 ·by_cases q:(n+1)*5>=127*3
  ·obtain rfl:n=76:=by omega
   exact .inr ⟨q,by decide +kernel,.inr (.inr (.inr (.inl ⟨by decide +kernel,by decide⟩)))⟩
  ·exact .inl ⟨q,.inr (.inr (.inl ⟨rfl,by omega⟩))⟩
 ·by_cases q:(n+1)*5>=511*3
  ·obtain rfl:n=306:=by omega
   exact .inr ⟨q,by decide +kernel,.inr (.inr (.inr (.inr (.inl ⟨by decide +kernel,by decide⟩))))⟩
  ·exact .inl ⟨q,.inr (.inr (.inr (.inl ⟨rfl,by omega⟩)))⟩
 ·by_cases q:(n+1)*5>=2047*3
  ·obtain rfl:n=1228:=by omega
   exact .inr ⟨q,by decide +kernel,.inr (.inr (.inr (.inr (.inr (.inl ⟨by decide +kernel,by decide⟩)))))⟩
  ·exact .inl ⟨q,.inr (.inr (.inr (.inr (.inl ⟨rfl,by omega⟩))))⟩
 ·by_cases q:(n+1)*5>=8191*3
  ·obtain rfl:n=4914:=by omega
   exact .inr ⟨q,by decide +kernel,.inr (.inr (.inr (.inr (.inr (.inr (.inl ⟨by decide +kernel,by decide⟩))))))⟩
  ·exact .inl ⟨q,.inr (.inr (.inr (.inr (.inr (.inl ⟨rfl,by omega⟩)))))⟩
 ·by_cases q:(n+1)*5>=32767*3
  ·obtain rfl:n=19660:=by omega
   exact .inr ⟨q,by decide +kernel,.inr (.inr (.inr (.inr (.inr (.inr (.inr (⟨by decide +kernel,by decide⟩)))))))⟩
  ·exact .inl ⟨q,.inr (.inr (.inr (.inr (.inr (.inr (.inl ⟨rfl,by omega⟩))))))⟩
 ·by_cases q:(n+1)*5>=131071*3
  ·omega
  ·exact .inl ⟨q,.inr (.inr (.inr (.inr (.inr (.inr (.inr (⟨rfl,by omega⟩)))))))⟩
end St
end
noncomputable section
namespace St
open PySem PySem.SetTable
section
variable{prog:Program}{w:World}{K:Type}[DecidableEq K](knd:KeyKind prog w K)
structure Body(h:Heap)(es:Array (Int×Value))(t:SetTable)(ks:List (List K)):Prop where
 tok:Cv t es.size
 sz:Sz t.mask es.size
 ent:∀(i:Nat) (e:Int×Value),es[i]? = some e->∃k b,k∈ks/\e.2=.ref b/\IsTupleKey knd h k b/\e.1=tupleKeyHash knd k
 has:∀k,k∈ks->∃(i:Nat) (b:Addr),es[i]? = some (tupleKeyHash knd k,.ref b)/\IsTupleKey knd h k b
 len:ks.length=es.size
 Lr:∀(i:Nat) (e:Int×Value) (j:Nat),es[i]? = some e->t.place[i]? = some j->RT t.mask (λ x=>¬pF t x) e.1 j
def qe(h:Heap)(a:Addr)(ks:List (List K)):Prop:=
 ∃o es ep t,h.get? a=some o/\o.ExactSet/\o.data=.set es ep t/\Body knd h es t ks
variable{knd}
theorem Body.fits{h:Heap}{es:Array (Int×Value)}{t:SetTable}{ks:List (List K)}(b:Body knd h es t ks):t.fits es.size=true:=by
 have h1:=b.tok.fits
 have h2:es.size<=t.mask:=by rcases b.sz with ⟨e,z⟩ | ⟨e,z⟩ | ⟨e,z⟩ | ⟨e,z⟩ | ⟨e,z⟩ | ⟨e,z⟩ | ⟨e,z⟩ | ⟨e,z⟩<;>omega
 simp only[SetTable.fits,aR,beq_iff_eq,decide_eq_true_eq]
 exact⟨b.tok.size,by omega⟩
theorem Body.odd{h:Heap}{es:Array (Int×Value)}{t:SetTable}{ks:List (List K)}(b:Body knd h es t ks):t.gaveWay=false:=by
 unfold SetTable.gaveWay
 rcases b.sz with ⟨e,z⟩ | ⟨e,z⟩ | ⟨e,z⟩ | ⟨e,z⟩ | ⟨e,z⟩ | ⟨e,z⟩ | ⟨e,z⟩ | ⟨e,z⟩<;>rw[e]<;>rfl
variable{A:Around}{E:Value->Shared->Prop}{s:Shared}
theorem Cw(d:Nat){v:Value}(h:carriedByValue v=true):ofAClassStatement d v=pure false:=by
 cases v with
 |ref a=>simp[carriedByValue] at h
 |_=>first | rfl | (unfold ofAClassStatement;rfl)
theorem vQ{ks:List K}{a:Addr}{Q:Bool->Shared->Prop}(hk:IsTupleKey knd s.heap ks a)(h:Q false s):wpAny (model prog w) A (ofAClassStatement 8 (.ref a)) Q E s:=by
 have hT:=hk.typeIs
 obtain⟨o,items,n,ho,hc,hd,hi⟩:=hk
 unfold ofAClassStatement
 refine wpAny_bind (wpAny_typeOf_ref ho ?_)
 rw[hc]
 show wpAny _ _ ((if ("tuple" == "tuple")=true then pure true else isSubtype (.type "tuple") (.type "tuple")) >>= _) _ _ s
 rw[if_pos (by decide)]
 refine wpAny_bind (wpAny_pure ?_)
 simp only[fP,aJ,if_false]
 refine wpAny_bind (wpAny_seqItems ho hd ?_)
 show wpAny _ _ (forIn items _ _ >>= _) _ _ s
 refine wpAny_bind ?_
 rw[<-iP]
 refine wpAny_forIn_list _ (λ rest r s'=>r.1=none/\s'=s/\∀v∈rest,carriedByValue v=true) _ ?_ ?_ _ _ ⟨rfl,rfl,hi.byValue⟩
 ·rintro v rest r s' ⟨hr,rfl,hall⟩
  rw[Cw _ (hall v aP)];refine wpAny_bind (wpAny_pure ?_);simp only[aJ,if_false]
  exact wpAny_pure ⟨rfl,rfl,λ u RY=>hall u (aM _ RY)⟩
 ·rintro⟨r1,r2⟩ s' ⟨hr,rfl,_⟩
  simp only at hr
  subst hr;exact wpAny_pure h
theorem RZ{ks:List K}{a:Addr}{ys:List Value}{Q:Bool->Shared->Prop}(hk:IsTupleKey knd s.heap ks a)(hy:∀y,y∈ys->∃k b,y=.ref b/\IsTupleKey knd s.heap k b)(h:Q false s) :
  wpAny (model prog w) A (searchCouldBeSeen (.ref a) ys) Q E s:=by
 unfold searchCouldBeSeen
 refine wpAny_bind ?_
 refine wpAny_forIn_list _ (λ rest r s'=>r.1=none/\s'=s/\∀v∈rest,v∈ys) _ ?_ ?_ _ _ ⟨rfl,rfl,λ _ h=>h⟩
 ·rintro v rest r s' ⟨hr,rfl,hall⟩
  obtain⟨k,b,rfl,hb⟩:=hy v (hall v aP);have hrest:∀u∈rest,u∈ys:=λ u hu=>hall u (aM _ hu)
  show wpAny _ _ (if ((a==b)||(carriedByValue (.ref a)&&carriedByValue (.ref b)))=true then _ else _) _ _ s'
  by_cases hab:(a==b)=true
  ·rw[if_pos (by rw[hab];rfl)];exact wpAny_pure ⟨rfl,rfl,hrest⟩
  ·rw[if_neg (by rw[gM] at hab;rw[hab];simp[carriedByValue])];refine wpAny_bind (wpAny_eqIsQuiet_tuple hk ?_);simp only[fP,aJ,if_false]
   refine wpAny_bind (wpAny_eqIsQuiet_tuple hb ?_);simp only[fP,aJ,if_false]
   refine wpAny_bind (vQ hk ?_);simp only[aJ,if_false]
   refine wpAny_bind (vQ hb ?_);simp only[aJ,if_false]
   exact wpAny_pure ⟨rfl,rfl,hrest⟩
 ·rintro⟨r1,r2⟩ s' ⟨hr,rfl,_⟩
  simp only at hr
  subst hr;exact wpAny_pure h
theorem MI(t:SetTable)(h:Int)(m:Nat):(if m=0 then none else some (pr t h m):Option Probe).getD (t.probeStart h)=pr t h m:=by
 by_cases q:m=0
 ·subst q;rfl
 ·rw[if_neg q];rfl
theorem Pd{t:SetTable}{i j:Nat}(h:t.place[i]? = some j):¬pF t j:=λ f=>f i h
theorem De{a b:Addr}{o:Obj}{es:Array (Int×Value)}{ep:Nat}{t:SetTable}{ks:List (List K)}{k:List K}{T:Nat}{Q:SetFound->Shared->Prop}(hu:A.units<cLine)
  (ho:s.heap.get? a=some o) (hd:o.data=.set es ep t) (B:Body knd s.heap es t ks) (hb:IsTupleKey knd s.heap k b)
  (hT:pF t (pr t (tupleKeyHash knd k) T).j) (hl:∀m,m<T->¬pF t (pr t (tupleKeyHash knd k) m).j) (hB:T<=10*(12+t.mask))
  (h1:k∈ks->Q (.there none) s) (h2:k ∉ ks->Q (.free (pr t (tupleKeyHash knd k) T).j false) s) :
  ∀(fuel m:Nat),m<=T->T-m<fuel->(k∈ks->∃(i c:Nat) (d:Addr),es[i]? = some (tupleKeyHash knd k,.ref d)/\IsTupleKey knd s.heap k d/\m<=c/\c<T/\t.place[i]? = some (pr t (tupleKeyHash knd k) c).j) ->
   wpAny (model prog w) A (setSearchFrom a (.ref b) (tupleKeyHash knd k) true fuel (if m=0 then none else some (pr t (tupleKeyHash knd k) m))) Q E s
 |0,m,_,hf,_=>by omega
 |fuel+1,m,hm,hf,hin=>by
  unfold setSearchFrom;refine wpAny_bind (wpAny_setState_of ho hd B.fits ?_);simp only[B.odd,aJ,if_false]
  rw[MI]
  rcases Mj B.tok (λ i=>(es[i]?.map (·.1)).getD 0) (tupleKeyHash knd k) hT hl hB hm with ⟨q1,q2⟩ | ⟨c,i,c1,c2,c3,c4,c5,c6⟩
  ·have ZG:k ∉ ks:=λ hk=>by
    obtain⟨i,c,d,e1,_,e3,e4,e5⟩:=hin hk;exact q1 c e3 e4 i e5 (by rw[e1];rfl)
   have ZH:t.probe _ (tupleKeyHash knd k) (pr t (tupleKeyHash knd k) m)=some (.empty (pr t (tupleKeyHash knd k) T).j none):=q2
   erw [ZH]
   exact wpAny_pure (h2 ZG)
  ·have ZI:t.probe _ (tupleKeyHash knd k) (pr t (tupleKeyHash knd k) m)=some (.candidate (pr t (tupleKeyHash knd k) c).j i (pr t (tupleKeyHash knd k) (c+1))):=c6
   erw [ZI]
   obtain⟨hi,_⟩:=bx.mp c3;have ZJ:i<es.size:=by rw[<-B.tok.size];exact hi
   have ee:es[i]? = some es[i]:=bw ZJ;obtain⟨k',b',hk',e2,hb',e1⟩:=B.ent i _ ee;have rest:wpAny (model prog w) A (do
     let some (_,y):=es[i]? | unsupported "internal:set-entry"
     let equal <-holding [y] (eqBool y (.ref b))
     let (es',_,t') <-setState a
     if (true&&equal)=true then return .there none
     let some same:=t'.sameMemory t.moves t.mask | unsupported "set.changed-during-lookup:is-the-new-block-at-the-old-address"
     let UC <-match (if same=true then t'.slot (pr t (tupleKeyHash knd k) c).j else .empty) with
      |.live i'=>match es'[i']? with
       |some (_,y')=>do pure (if <-isSame y' y then some i' else none)
       |none=>pure none
      |_=>pure none
     match UC with
     |none=>rule "set.search.anew";setSearchFrom a (.ref b) (tupleKeyHash knd k) true fuel none
     |some i'=>if equal=true then return .there (some i') else setSearchFrom a (.ref b) (tupleKeyHash knd k) true fuel (some (pr t (tupleKeyHash knd k) (c+1)))) Q E s:=by
    rw[ee];generalize es[i]=ent at e1 e2 ee
    obtain⟨eh,ev⟩:=ent;simp only at e1 e2
    subst e1 e2;refine wpAny_bind (wpAny_holding (wpAny_eqBool_tuple hu hb' hb ?_));refine wpAny_bind (wpAny_setState_of ho hd B.fits ?_)
    by_cases hkk:k'=k
    ·subst hkk;simp only[decide_true,gI,if_true]
     exact wpAny_pure (h1 hk')
    ·simp only[hkk,decide_false,iw,aJ,if_false]
     have hsm:t.sameMemory t.moves t.mask=some true:=by unfold SetTable.sameMemory;rw[beq_self_eq_true,if_pos rfl]
     rw[hsm];simp only[if_true,B.tok.live c3,ee]
     refine wpAny_bind ?_;have hs:isSame (.ref b') (.ref b')=pure true:=by unfold isSame;simp only[beq_self_eq_true,if_true]
     rw[hs];refine wpAny_pure ?_;simp only[if_true]
     refine wpAny_bind (wpAny_pure ?_);have ih:=De hu ho hd B hb hT hl hB h1 h2 fuel (c+1) c2 (by omega) (λ hk=>by
      obtain⟨i2,cc,d,f1,f2,f3,f4,f5⟩:=hin hk;refine⟨i2,cc,d,f1,f2,?_,f4,f5⟩
      rcases dO cc c with z | z | z
      ·exact absurd (by rw[f1];rfl) (c5 cc f3 z i2 f5)
      ·subst z;have:i2=i:=B.tok.up.inj f5 c3;subst this;rw[ee] at f1;have f1:=aS f1;have:b'=d:=by injection f1 with _ z2;injection z2
       subst this;exact absurd (hb'.inj f2) hkk
      ·omega)
     rw[if_neg (by omega)] at ih;exact ih
   by_cases Pe:t.led=true
   ·simp only[Pe,fP,aJ,if_false]
    exact rest
   ·have Pe:t.led=false:=by simpa using Pe
    simp only[Pe,gr,if_true]
    refine wpAny_bind (RZ hb (λ y hy=>?_) ?_)
    ·obtain⟨e,he,rfl⟩:=az.mp hy;have he:e∈es:=by
      have q:=he;simp at q
      exact q.1
     obtain⟨j,hj,ej⟩:=Array.getElem_of_mem he;obtain⟨k2,b2,_,e3,e4,_⟩:=B.ent j e (by rw[bw hj,ej]);exact⟨k2,b2,e3,e4⟩
    ·simp only[aJ,if_false]
     exact rest
end
end St
end
noncomputable section
namespace St
open PySem PySem.SetTable
theorem Iv{α:Type}(es:Array α):∀(l:List Nat),(∀o,o∈l->o<es.size)->(l.filterMap λ i=>es[i]?).length=l.length/\∀r:Nat,(l.filterMap λ i=>es[i]?)[r]? = (l[r]?).bind λ i=>es[i]?
 |[],_=>⟨rfl,λ r=>by simp⟩
 |o::l,h=>by
  have ho:=h o aP;obtain⟨h1,h2⟩:=Iv es l λ x hx=>h x (aM _ hx)
  have e:(es[o]?:Option α)=some es[o]:=bw ho;rw[eS,e];refine⟨by simp[h1],λ r=>?_⟩
  cases r with
  |zero=>simp[e]
  |succ r=>simpa using h2 r
section
variable{prog:Program}{w:World}{K:Type}[DecidableEq K]{knd:KeyKind prog w K}
structure Pre(knd:KeyKind prog w K)(h:Heap)(es:Array (Int×Value))(t:SetTable)(ks:List (List K)):Prop where
 tok:Cv t es.size
 ent:∀(i:Nat) (e:Int×Value),es[i]? = some e->∃k b,k∈ks/\e.2=.ref b/\IsTupleKey knd h k b/\e.1=tupleKeyHash knd k
 has:∀k,k∈ks->∃(i:Nat) (b:Addr),es[i]? = some (tupleKeyHash knd k,.ref b)/\IsTupleKey knd h k b
 len:ks.length=es.size
 Lr:∀(i:Nat) (e:Int×Value) (j:Nat),es[i]? = some e->t.place[i]? = some j->RT t.mask (λ x=>¬pF t x) e.1 j
theorem Pre.body{h:Heap}{es:Array (Int×Value)}{t:SetTable}{ks:List (List K)}(p:Pre knd h es t ks)(z:Sz t.mask es.size):Body knd h es t ks:=⟨p.tok,z,p.ent,p.has,p.len,p.Lr⟩
theorem Pre.plain{h:Heap}{es:Array (Int×Value)}{t:SetTable}{ks:List (List K)}(p:Pre knd h es t ks)(c:Bool):Pre knd h es { t with plain:=c } ks:=
 ⟨⟨p.tok.size,p.tok.up,p.tok.le,p.tok.Uy,p.tok.pow⟩,p.ent,p.has,p.len,p.Lr⟩
theorem Df{h h':Heap}{a b:Addr}{o:Obj}{es:Array (Int×Value)}{ep:Nat}{t:SetTable}{k:List K}(ho:h.get? a=some o)(hd:o.data=.set es ep t)(hs:Heap.SameBut a h h')(x:IsTupleKey knd h k b):IsTupleKey knd h' k b:=by
 obtain⟨o',items,n,ho',hc,hd',hi⟩:=x
 have hne:b≠a:=by
  rintro rfl;rw[ho] at ho';cases ho';rw[hd] at hd';cases hd'
 exact⟨o',items,n,(hs.2 b hne).trans ho',hc,hd',hi⟩
theorem Pre.keeps{h h':Heap}{a:Addr}{o:Obj}{ZK:Array (Int×Value)}{ep:Nat}{t0:SetTable}{es:Array (Int×Value)}{t:SetTable}{ks:List (List K)}(p:Pre knd h es t ks)
  (ho:h.get? a=some o) (hd:o.data=.set ZK ep t0) (hs:Heap.SameBut a h h'):Pre knd h' es t ks:=
 ⟨p.tok,λ i e q=>let ⟨k,b,a1,a2,a3,a4⟩:=p.ent i e q;⟨k,b,a1,a2,Df ho hd hs a3,a4⟩,λ k hk=>let ⟨i,b,a1,a2⟩:=p.has k hk;⟨i,b,a1,Df ho hd hs a2⟩,p.len,p.Lr⟩
theorem Body.insert{h:Heap}{es:Array (Int×Value)}{t:SetTable}{ks:List (List K)}{k:List K}{b:Addr}{T:Nat}(B:Body knd h es t ks)(hb:IsTupleKey knd h k b)
  (hT:pF t (pr t (tupleKeyHash knd k) T).j) (hl:∀m,m<T->¬pF t (pr t (tupleKeyHash knd k) m).j) :
  Pre knd h (insertAt es (t.put (pr t (tupleKeyHash knd k) T).j).2 (tupleKeyHash knd k,.ref b)) (t.put (pr t (tupleKeyHash knd k) T).j).1 (ks++[k]):=by
 have hj:=(Iq t (tupleKeyHash knd k) T).1
 obtain⟨e2,tok,UD,em,_⟩:=B.tok.put hT hj
 obtain⟨hp,_⟩:=tE B.tok.up (pr t (tupleKeyHash knd k) T).j
 have G4:below t.place (pr t (tupleKeyHash knd k) T).j<=es.size:=by rw[<-B.tok.size];exact hp
 rw[e2]
 have GG:∀x,¬pF t x->¬pF (t.put (pr t (tupleKeyHash knd k) T).j).1 x:=λ x hx f=>hx λ i e=>by
  obtain⟨i',e'⟩:=(mem_insert (c:=x) (j:=(pr t (tupleKeyHash knd k) T).j) hp).mpr (.inr ⟨i,e⟩);rw[<-UD] at e';exact f i' e'
 have sz:(insertAt es (below t.place (pr t (tupleKeyHash knd k) T).j) (tupleKeyHash knd k,Value.ref b)).size=es.size+1:=vO _ _ _ G4
 refine⟨by rw[sz];exact tok,λ i e q=>?_,λ k' hk'=>?_,by rw[sz,aE,B.len];rfl,λ i e j q qj=>?_⟩
 ·rw[j6 _ _ _ G4] at q
  have old:∀i',es[i']? = some e->∃k1 b1,k1∈ks++[k]/\e.2=.ref b1/\IsTupleKey knd h k1 b1/\e.1=tupleKeyHash knd k1:=λ i' q'=>
   let ⟨k1,b1,a1,a2,a3,a4⟩:=B.ent i' e q';⟨k1,b1,fQ _ a1,a2,a3,a4⟩
  split at q
  ·exact old _ q
  ·split at q
   ·cases q;exact⟨k,b,bG _ aP,rfl,hb,rfl⟩
   ·exact old _ q
 ·rcases br.mp hk' with hk' | hk'
  ·obtain⟨i,b',a1,a2⟩:=B.has k' hk'
   by_cases hi:i<below t.place (pr t (tupleKeyHash knd k) T).j
   ·exact⟨i,b',by rw[j6 _ _ _ G4,if_pos hi];exact a1,a2⟩
   ·exact⟨i+1,b',by rw[j6 _ _ _ G4,if_neg (by omega),if_neg (by omega)];exact a1,a2⟩
  ·have:k'=k:=by simpa using hk'
   subst this;exact⟨below t.place (pr t (tupleKeyHash knd k') T).j,b,by rw[j6 _ _ _ G4,if_neg (by omega),if_pos rfl],hb⟩
 ·rw[UD,j6 _ _ _ hp] at qj
  rw[j6 _ _ _ G4] at q;rw[em]
  by_cases h1:i<below t.place (pr t (tupleKeyHash knd k) T).j
  ·rw[if_pos h1] at q qj;exact (B.Lr i e j q qj).mono GG
  ·rw[if_neg h1] at q qj
   by_cases h2:i=below t.place (pr t (tupleKeyHash knd k) T).j
   ·rw[if_pos h2] at q qj
    cases q;cases qj;exact⟨T,(Fy t _ T).symm,λ m hm=>GG _ (by rw[<-Fy];exact hl m hm)⟩
   ·rw[if_neg h2] at q qj;exact (B.Lr (i-1) e j q qj).mono GG
theorem Pre.UE{h:Heap}{es:Array (Int×Value)}{t:SetTable}{ks:List (List K)}(p:Pre knd h es t ks){wanted:Nat}(z:Sz (sizeAbove wanted-1) es.size) :
  ∃t' order,t.relaid (es.map (·.1)) wanted=some (t',order)/\(order.filterMap λ i=>es[i]?).size=es.size/\Body knd h (order.filterMap λ i=>es[i]?) t' ks:=by
 have hn:(es.map (·.1)).size<=sizeAbove wanted-1:=by
  rw[Array.size_map]
  rcases z with ⟨e,z⟩ | ⟨e,z⟩ | ⟨e,z⟩ | ⟨e,z⟩ | ⟨e,z⟩ | ⟨e,z⟩ | ⟨e,z⟩ | ⟨e,z⟩<;>omega
 obtain⟨t',order,e,tok,em,_,_,_,os,o1,o2,o3,o4⟩:=O9 z.pow t.finger (t.movedTo (sizeAbove wanted-1)) t.led t.plain (es.map (·.1)) hn
 rw[Array.size_map] at os tok
 have lt:∀o,o∈order.toList->o<es.size:=λ o ho=>by
  obtain⟨r,hr⟩:=cF ho;have:=o1 r o (by simpa using hr)
  simpa using this
 obtain⟨f1,f2⟩:=Iv es order.toList lt
 have gt:∀r:Nat,(order.filterMap λ i=>es[i]?)[r]? = (order[r]?).bind λ i=>es[i]?:=λ r=>by
  have:=f2 r;rw[<-ie,g5,this,ie]
 have sz:(order.filterMap λ i=>es[i]?).size=es.size:=by
  rw[<-c8,g5,f1,c8,os]
 refine⟨t',order,e,sz,⟨by rw[sz];exact tok,by rw[em,sz];exact z,λ i x q=>?_,λ k hk=>?_,by rw[sz];exact p.len,λ i x j q qj=>?_⟩⟩
 ·rw[gt] at q
  cases eo:order[i]? with
  |none=>rw[eo] at q;cases q
  |some o=>rw[eo] at q;exact p.ent o x q
 ·obtain⟨i,b,a1,a2⟩:=p.has k hk
  obtain⟨hi,_⟩:=bx.mp a1;obtain⟨r,hr⟩:=o3 i (by simpa using hi);exact⟨r,b,by rw[gt,hr];exact a1,a2⟩
 ·rw[gt] at q
  cases eo:order[i]? with
  |none=>rw[eo] at q;cases q
  |some o=>
   rw[eo] at q;have:=o4 i o j x.1 eo qj (by
    have q':es[o]? = some x:=q;rw[Array.getElem?_map,q'];rfl)
   rw[em];exact this.mono λ y ⟨i',e'⟩=>Pd e'
variable{A:Around}{E:Value->Shared->Prop}{s:Shared}
theorem hbv{ks:List K}{a:Addr}{Q:Bool->Shared->Prop}(hk:IsTupleKey knd s.heap ks a)(h:∀c,Q c s):wpAny (model prog w) A (hashByValue 8 (.ref a)) Q E s:=by
 have hT:=hk.typeIs
 obtain⟨o,items,n,ho,hc,hd,hi⟩:=hk
 unfold hashByValue
 refine wpAny_bind (wpAny_specialOf hT F.slot_tuple_hash.lookup ?_)
 show wpAny _ _ (seqItems? (.ref a) >>= _) _ _ s
 refine wpAny_bind (wpAny_seqItems ho hd ?_)
 show wpAny _ _ (forIn items _ _ >>= _) _ _ s
 refine wpAny_bind ?_
 rw[<-iP]
 refine wpAny_forIn_list _ (λ rest r s'=>(r.1=none\/r.1=some false)/\s'=s/\∀v∈rest,carriedByValue v=true) _ ?_ ?_ _ _ ⟨.inl rfl,rfl,hi.byValue⟩
 ·rintro v rest r s' ⟨hr,rfl,hall⟩
  have hv:∃c,hashByValue 7 v=pure c:=by
   have:=hall v aP
   cases v with
   |ref a=>simp[carriedByValue] at this
   |_=>exact⟨_,rfl⟩
  obtain⟨c,hc⟩:=hv;rw[hc];refine wpAny_bind (wpAny_pure ?_)
  cases c with
  |true=>
   simp only[fP,aJ,if_false]
   exact wpAny_pure ⟨.inl rfl,rfl,λ u hu=>hall u (aM _ hu)⟩
  |false=>
   simp only[gr,if_true]
   exact wpAny_pure (wpAny_pure (h false))
 ·rintro⟨r1,r2⟩ s' ⟨hr,rfl,_⟩
  rcases hr with hr | hr
  ·simp only at hr
   subst hr;exact wpAny_pure (h true)
  ·simp only at hr
   subst hr;exact wpAny_pure (h false)
theorem Dg{h:Heap}{a:Addr}{o:Obj}{es:Array (Int×Value)}{ep:Nat}{t:SetTable}(es':Array (Int×Value))(t':SetTable)(ho:h.get? a=some o)(hx:o.ExactSet)(hd:o.data=.set es ep t) :
  ∃o',(h.update a (Obj.putSet es' t')).get? a=some o'/\o'.ExactSet/\o'.data=.set es' (ep+1) t'/\Heap.SameBut a h (h.update a (Obj.putSet es' t')):=by
 refine⟨{ o with data:=.set es' (ep+1) t' },?_,hx,rfl,?_⟩
 ·have q:=Heap.get?_update_self (Obj.putSet es' t') ho (by rw[putSet_of es' t' hd];rfl)
  rw[putSet_of es' t' hd] at q;exact q
 ·exact Heap.SameBut.update _ _ _
theorem FG{n:Nat}(h:n<=32769):n<=sizeLine:=by rw[sizeLine_eq];omega
theorem G5{a b:Addr}{o:Obj}{es:Array (Int×Value)}{ep:Nat}{t:SetTable}{ks:List (List K)}{k:List K}{T fuel:Nat}{Q:SetFound->Shared->Prop}(hu:A.units<cLine)
  (ho:s.heap.get? a=some o) (hd:o.data=.set es ep t) (B:Body knd s.heap es t ks) (hb:IsTupleKey knd s.heap k b)
  (hT:pF t (pr t (tupleKeyHash knd k) T).j) (hl:∀m,m<T->¬pF t (pr t (tupleKeyHash knd k) m).j) (hB:T<=10*(12+t.mask))
  (h1:k∈ks->Q (.there none) s) (h2:k ∉ ks->Q (.free (pr t (tupleKeyHash knd k) T).j false) s) (hf:T<fuel)
  (hin:k∈ks->∃(i c:Nat) (d:Addr),es[i]? = some (tupleKeyHash knd k,.ref d)/\IsTupleKey knd s.heap k d/\0<=c/\c<T/\t.place[i]? = some (pr t (tupleKeyHash knd k) c).j) :
  wpAny (model prog w) A (setSearchFrom a (.ref b) (tupleKeyHash knd k) true fuel none) Q E s:=by
 have q:=De (A:=A) (E:=E) hu ho hd B hb hT hl hB h1 h2 fuel 0 (aZ _) (by omega) hin
 rw[if_pos rfl] at q
 exact q
set_option maxHeartbeats 1000000 in
theorem R0{a b:Addr}{ks:List (List K)}{k:List K}{Q:Bool->Shared->Prop}(hu:A.units<cLine)(hS:qe knd s.heap a ks)(hb:IsTupleKey knd s.heap k b)(hn:ks.length<32768)
  (h:∀(c:Bool) (h':Heap) (tk:Nat),Heap.SameBut a s.heap h'->qe knd h' a (if k∈ks then ks else ks++[k])->Q c { s with heap:=h',toks:=tk }) :
  wpAny (model prog w) A (setAdd a (.ref b)) Q E s:=by
 unfold setAdd
 refine wpAny_holding (wpAny_bind (wpAny_pyHash_tuple hu hb ?_))
 unfold setAddHashed
 refine wpAny_holding ?_
 obtain⟨o,es,ep,t,ho,hx,hd,B⟩:=hS
 unfold setAddHashedIn
 refine wpAny_bind (wpAny_setState_of (s:={ s with toks:=s.toks+(k.length+1) }) ho hd B.fits ?_)
 have ZL:byScan (.ref b) es=false:=by unfold byScan;rfl
 simp only[ZL,aJ,if_false]
 obtain⟨T,t1,t2,t3,t4⟩:=G3 B.tok B.sz (tupleKeyHash knd k)
 unfold setSearch
 have hin:k∈ks->∃(i c:Nat) (d:Addr),es[i]? = some (tupleKeyHash knd k,.ref d)/\IsTupleKey knd s.heap k d/\0<=c/\c<T/\t.place[i]? = some (pr t (tupleKeyHash knd k) c).j:=λ hk=>by
  obtain⟨i,d,e1,e2⟩:=B.has k hk;obtain⟨hi,_⟩:=bx.mp e1;have ZM:i<t.place.size:=by rw[B.tok.size];exact hi
  have Rp:t.place[i]? = some t.place[i]:=bw ZM;obtain⟨c,c1,c2⟩:=B.Lr i _ _ e1 Rp;refine⟨i,c,d,e1,e2,aZ _,?_,by rw[Rp,Fy,c1]⟩
  rcases fu c T with z | z
  ·exact z
  ·exfalso
   rcases gn z with z | z
   ·subst z;rw[Fy,c1] at t3;exact t3 i Rp
   ·have:=c2 T z;rw[<-Fy] at this;exact this t3
 refine wpAny_bind (G5 (s:={ s with toks:=s.toks+(k.length+1) }) hu ho hd B hb t3 t4 t2 (λ hk=>?_) (λ hk=>?_) (by omega) hin)
 ·refine wpAny_pure ?_
  have hz:=h false s.heap (s.toks+(k.length+1)) (Heap.SameBut.refl _ _);rw[if_pos hk] at hz;exact hz ⟨o,es,ep,t,ho,hx,hd,B⟩
 ·show wpAny _ _ (setState a >>= _) _ _ _
  refine wpAny_bind (wpAny_setState_of (s:={ s with toks:=s.toks+(k.length+1) }) ho hd B.fits ?_);have pre:=B.insert hb t3 t4;obtain⟨e2,tok,UD,em,Yi,_⟩:=B.tok.put t3 (Iq t (tupleKeyHash knd k) T).1;have hsz:(insertAt es (t.put (pr t (tupleKeyHash knd k) T).j).2 (tupleKeyHash knd k,Value.ref b)).size=es.size+1:=by rw[<-pre.len,aE,B.len];rfl
  have hle:es.size+1<=32768:=by rw[<-B.len];omega
  generalize ZN:t.put (pr t (tupleKeyHash knd k) T).j=tp at pre e2 tok UD em Yi hsz
  obtain⟨t',p⟩:=tp;simp only at pre e2 tok UD em Yi hsz
  have goal:∀c:Bool,wpAny (model prog w) A (do
    storeSet a (insertAt es p (tupleKeyHash knd k,Value.ref b)) (if c=true then t' else { t' with plain:=false })
    if (!false&&(if c=true then t' else { t' with plain:=false }).tooFull)=true then setRelay a (SetTable.grown (es.size+1))
    return true) Q E { s with toks:=s.toks+(k.length+1) }:=λ c=>by
   have Pf:Pre knd s.heap (insertAt es p (tupleKeyHash knd k,Value.ref b)) (if c=true then t' else { t' with plain:=false }) (ks++[k]):=by
    cases c
    ·exact pre.plain false
    ·exact pre
   have VR:(if c=true then t' else { t' with plain:=false }:SetTable).mask=t.mask:=by cases c<;>exact em
   generalize (if c=true then t' else { t' with plain:=false }:SetTable)=t2 at Pf VR
   obtain⟨o2,g1,g2,g3,g4⟩:=Dg (insertAt es p (tupleKeyHash knd k,Value.ref b)) t2 ho hx hd;refine wpAny_bind (wpAny_storeSet_of (s:={ s with toks:=s.toks+(k.length+1) }) ho hd ?_ (by rw[hsz];exact FG (by omega)));have UG:=Pf.keeps ho hd g4;have fill:t2.fill=es.size+1:=by rw[Pf.tok.fits,hsz]
   have full:t2.tooFull=decide ((es.size+1)*5>=t.mask*3):=by unfold SetTable.tooFull;rw[fill,VR]
   rw[full]
   rcases B.sz.more hle with ⟨q1,q2⟩ | ⟨q1,q2,q3⟩
   ·rw[decide_eq_false q1];simp only[gr,iw,aJ,if_false]
    refine wpAny_bind (wpAny_pure (wpAny_pure ?_));have hz:=h true _ (s.toks+(k.length+1)) g4;rw[if_neg hk] at hz;exact hz ⟨o2,_,_,t2,g1,g2,g3,UG.body (by rw[VR,hsz];exact q2)⟩
   ·rw[decide_eq_true q1];simp only[gr,gI,if_true]
    refine wpAny_bind ?_;unfold setRelay;have fit:t2.fits (insertAt es p (tupleKeyHash knd k,Value.ref b)).size=true:=by
     simp only[SetTable.fits,aR,beq_iff_eq,decide_eq_true_eq]
     refine⟨Pf.tok.size,?_⟩;rw[fill,VR]
     rcases B.sz with ⟨e,z⟩ | ⟨e,z⟩ | ⟨e,z⟩ | ⟨e,z⟩ | ⟨e,z⟩ | ⟨e,z⟩ | ⟨e,z⟩ | ⟨e,z⟩<;>omega
    refine wpAny_bind (wpAny_setState_of (s:={ s with heap:=s.heap.update a (Obj.putSet (insertAt es p (tupleKeyHash knd k,Value.ref b)) t2),toks:=s.toks+(k.length+1) }) g1 g3 fit ?_);dsimp only;rw[if_neg (show ¬sizeAbove (grown (es.size+1))>sizeLine by rw[sizeLine_eq];omega)];obtain⟨t3',order,r1,r2,r3⟩:=UG.UE (wanted:=SetTable.grown (es.size+1)) (by rw[hsz];exact q3);rw[r1];show wpAny _ _ ((do
     let es':=order.filterMap ((insertAt es p (tupleKeyHash knd k,Value.ref b))[·]?)
     if (es'.size != (insertAt es p (tupleKeyHash knd k,Value.ref b)).size)=true then unsupported "internal:set-table-lost-an-element"
     pure (es',t3')) >>= _) _ _ _
    dsimp only;rw[if_neg (by rw[r2];simp)];refine wpAny_bind (wpAny_bind (wpAny_pure (wpAny_pure ?_)));obtain⟨o4,k1,k2,k3,k4⟩:=Dg (order.filterMap ((insertAt es p (tupleKeyHash knd k,Value.ref b))[·]?)) t3' g1 g2 g3;refine wpAny_storeSet_of (s:={ s with heap:=s.heap.update a (Obj.putSet (insertAt es p (tupleKeyHash knd k,Value.ref b)) t2),toks:=s.toks+(k.length+1) }) g1 g3 ?_ (by rw[r2,hsz];exact FG (by omega));refine wpAny_pure ?_;have hz:=h true _ (s.toks+(k.length+1)) (g4.trans k4);rw[if_neg hk] at hz;have WI:Pre knd _ _ t3' (ks++[k]):=(Pre.keeps ⟨r3.tok,r3.ent,r3.has,r3.len,r3.Lr⟩ g1 g3 k4)
    exact hz ⟨o4,_,_,t3',k1,k2,k3,WI.body r3.sz⟩
  by_cases hpl:t'.plain=true
  ·simp only[hpl,if_true]
   refine wpAny_bind (hbv (s:={ s with toks:=s.toks+(k.length+1) }) hb λ c=>?_);exact goal c
  ·have hpl:t'.plain=false:=by simpa using hpl
   simp only[hpl,aJ,if_false]
   refine wpAny_bind (wpAny_pure ?_);exact goal true
end
end St
end
noncomputable section
namespace St
open PySem PySem.SetTable
section
variable{prog:Program}{w:World}{K:Type}[DecidableEq K]{knd:KeyKind prog w K}
def G6(acc:List (List K))(k:List K):List (List K):=if k∈acc then acc else acc++[k]
def dd(l:List (List K)):List (List K):=l.foldl G6 []
theorem Pg(l:List (List K))(k:List K):dd (l++[k])=G6 (dd l) k:=by unfold dd;rw[cV];rfl
theorem G7:∀(l acc:List (List K)),acc.Nodup->(l.foldl G6 acc).Nodup/\(l.foldl G6 acc).length<=acc.length+l.length/\((l.foldl G6 acc).length=acc.length+l.length↔(acc++l).Nodup)
 |[],acc,h=>⟨h,aq _,by simp[h]⟩
 |k::l,acc,h=>by
  rw[dD]
  by_cases hk:k∈acc
  ·have e:G6 acc k=acc:=if_pos hk;rw[e];obtain⟨h1,h2,h3⟩:=G7 l acc h;refine⟨h1,by simp;omega,⟨λ z=>by simp at z;omega,λ z=>?_⟩⟩;rw[cU] at z;exact absurd rfl (z.2.2 k hk k aP)
  ·have e:G6 acc k=acc++[k]:=if_neg hk;have hn:(acc++[k]).Nodup:=by
    rw[cU];exact⟨h,by simp,λ a ha b hb e2=>hk (by simp at hb;rw[<-hb,<-e2];exact ha)⟩
   rw[e];obtain⟨h1,h2,h3⟩:=G7 l (acc++[k]) hn;refine⟨h1,by simp at h2 ⊢;omega,?_⟩;rw[cG] at h3;simp only[aE,aK,List.length_nil] at h3 ⊢
   rw[<-show (acc++([k]++l)).Nodup↔(acc++k::l).Nodup from Iff.rfl,<-h3];omega
theorem G8(l:List (List K)):(dd l).length<=l.length/\((dd l).length=l.length↔l.Nodup):=by
 obtain⟨_,h2,h3⟩:=G7 l [] iA
 unfold dd
 simpa using And.intro h2 h3
theorem qe.fresh{h:Heap}{a:Addr}(led:Bool)(e:h.get? a=some { cls:=.type "set",dict:=none,data:=.set #[] 0 (.fresh 0 0 led) }):qe knd h a []:=
 ⟨_,#[],0,.fresh 0 0 led,e,⟨rfl,rfl,rfl⟩,rfl,
  ⟨⟨rfl,λ i j a b e1=>by simp[SetTable.fresh] at e1,λ i j e1=>by simp[SetTable.fresh] at e1,rfl,⟨3,by decide,rfl⟩⟩,.inl ⟨rfl,by decide⟩,
   λ i e q=>by simp at q,λ k hk=>absurd hk (by simp),rfl,λ i e j q=>by simp at q⟩⟩
theorem qe.keep{h h':Heap}{a:Addr}{ks:List (List K)}(S:qe knd h a ks)(k1:∀o,h.get? a=some o->h'.get? a=some o)(k2:∀k b,IsTupleKey knd h k b->IsTupleKey knd h' k b):qe knd h' a ks:=by
 obtain⟨o,es,ep,t,ho,hx,hd,B⟩:=S
 exact⟨o,es,ep,t,k1 o ho,hx,hd,⟨B.tok,B.sz,λ i e q=>let ⟨k,b,a1,a2,a3,a4⟩:=B.ent i e q;⟨k,b,a1,a2,k2 k b a3,a4⟩,λ k hk=>let ⟨i,b,a1,a2⟩:=B.has k hk;⟨i,b,a1,k2 k b a2⟩,B.len,B.Lr⟩⟩
theorem tup_ne{h:Heap}{k:List K}{b c:Addr}{o:Obj}{vs:Array Value}(x:IsTupleKey knd h k b)(e:h.get? c=some o)(d:o.data=.fields vs):b≠c:=by
 rintro rfl
 obtain⟨o',items,n,ho,_,hd,_⟩:=x
 rw[e] at ho;cases ho
 rw[d] at hd;cases hd
theorem R5{h:Heap}{k:List K}{b a:Addr}{ks:List (List K)}(x:IsTupleKey knd h k b)(S:qe knd h a ks):b≠a:=by
 rintro rfl
 obtain⟨o',items,n,ho,_,hd,_⟩:=x
 obtain⟨o,es,ep,t,e,_,d,_⟩:=S
 rw[e] at ho;cases ho
 rw[d] at hd;cases hd
theorem AI{h h':Heap}{k:List K}{b:Addr}(x:IsTupleKey knd h k b)(e:∀o,h.get? b=some o->h'.get? b=some o):IsTupleKey knd h' k b:=
 let ⟨o,items,n,ho,r⟩:=x;⟨o,items,n,e o ho,r⟩
variable{A:Around}{s:Shared}{I S:Addr}{fp:List Addr}{n:Nat}{P:Nat->Value->Prop}{St:Nat->Heap->Prop}
theorem Dh{R:Result->Shared->Prop}(W:Walks prog w A.in1 I fp [I] n P St)(hSf:S ∉ fp)(hu:A.in1.units<cLine)(kl:List (List K))(hlen:kl.length=n)(hn:n<=32768)
  (hit:∀i h,St i h->∃o vs,h.get? I=some o/\o.data=.fields vs) :
  ∀(k i:Nat) (s:Shared),n-i=k->i<=n->St i s.heap->qe knd s.heap S (dd (kl.take i)) ->
   (∀j v,i<=j->P j v->∃b q,v=.ref b/\kl[j]? = some q/\IsTupleKey knd s.heap q b) ->
   (∀(h':Heap) (tk:Nat),(∀b o,b≠S->b≠I->s.heap.get? b=some o->h'.get? b=some o)->qe knd h' S (dd kl)->R (.ok (.ret .none)) { s with heap:=h',toks:=tk }) ->
   codeAny (model prog w) A (.builtin "set.update.loop" ⟨[.ref S,.ref I],[]⟩) R s
 |k,i,s,hk,hi,st,hS,hP,hR=>by
  refine codeAny_builtin PyProof.Rows.F.entry_set_update_loop ?_;rw[Around.under_plainId PyProof.Rows.F.plain_set_update_loop _];show wpAny _ A.in1 (pyNext (.ref I) >>= _) _ _ s;obtain⟨oI,vsI,eI,dI⟩:=hit i s.heap st
  rcases fu i n with hlt | hge
  ·obtain⟨k,rfl⟩:∃k',k=k'+1:=⟨k-1,by omega⟩
   refine wpAny_bind (W.item i s _ _ hlt st λ v h' tk hv st' hm=>?_);obtain⟨b,q,rfl,eq,hb⟩:=hP i v (aq _) hv;have tk':∀k b,IsTupleKey knd s.heap k b->IsTupleKey knd h' k b:=λ k b x=>AI x λ o e=>hm b o (λ z=>tup_ne x eI dI (by simpa using z)) e
   have hSI:S≠I:=λ z=>hSf (by rw[z];exact W.sub I (by simp))
   have hS':=hS.keep (h':=h') (λ o e=>hm S o (by simpa using hSI) e) tk';show wpAny _ A.in1 (holding [Value.ref b] (setAdd S (.ref b)) >>= _) _ _ _;refine wpAny_bind (wpAny_holding (R0 (s:={ s with heap:=h',toks:=tk }) hu hS' (tk' q b hb) ?_ λ c h2 WJ sb WK=>?_))
   ·have:=(G8 (kl.take i)).1;rw[aX] at this;omega
   ·have et:kl.take (i+1)=kl.take i++[q]:=by
     rw[gC,eq];rfl
    have WL:qe knd h2 S (dd (kl.take (i+1))):=by rw[et,Pg];exact WK
    refine wpAny_pure ⟨plainId_quiet PyProof.Rows.F.plain_set_update_loop _,?_⟩;refine Dh W hSf hu kl hlen hn hit k (i+1) _ (by omega) hlt (W.frame (i+1) h' h2 st' λ b hb o e=>?_) WL (λ j v hj hv=>?_) λ h3 WM ZO ZP=>?_
    ·rw[sb.2 b (λ z=>hSf (by rw[<-z];exact hb))];exact e
    ·obtain⟨b2,q2,f1,f2,f3⟩:=hP j v (by omega) hv;refine⟨b2,q2,f1,f2,?_⟩;have f4:=tk' q2 b2 f3;exact AI f4 λ o e=>by rw[sb.2 b2 (R5 f4 hS')];exact e
    ·refine hR h3 WM (λ b o h1 h2' e=>ZO b o h1 h2' ?_) ZP;show h2.get? b=some o;rw[sb.2 b h1];exact hm b o (by simpa using h2') e
  ·have hin:i=n:=by omega
   subst hin;refine wpAny_bind (W.done s _ _ st λ h' tk hm=>?_);show wpAny _ A.in1 (ret Value.none) _ _ _;refine wpAny_pure (hR h' tk (λ b o _ h2 e=>hm b o (by simpa using h2) e) ?_);have hSI:S≠I:=λ z=>hSf (by rw[z];exact W.sub I (by simp))
   have:=hS.keep (h':=h') (λ o e=>hm S o (by simpa using hSI) e) λ k b x=>AI x λ o e=>hm b o (λ z=>tup_ne x eI dI (by simpa using z)) e
   rw[aA (by omega)] at this;exact this
 termination_by k=>k
theorem Km{l o:Addr}{items:Array Value}{led:Bool}{E:Value->Shared->Prop}{Q:Value->Shared->Prop}{kl:List (List K)}(hh:A.handled=none)(hu:A.units+8<cLine)
  (hl:s.heap.IsList l items) (ho:s.heap.get? o=some { cls:=.type "set",dict:=none,data:=.set #[] 0 (.fresh 0 0 led) }) (hlen:kl.length=items.size) (hn:items.size<=32768)
  (hk:∀(i:Nat) (v:Value),items[i]? = some v->∃b q,v=.ref b/\kl[i]? = some q/\IsTupleKey knd s.heap q b)
  (h:∀(h':Heap) (tk:Nat),qe knd h' o (dd kl)->(∀b u,b≠o->s.heap.get? b=some u->h'.get? b=some u)->Q .none { s with heap:=h',toks:=tk }) :
  codeAny (model prog w) A (.call (.builtin "set.__init__") ⟨[.ref o,.ref l],[]⟩) (wants Q E) s:=by
 have hT:s.TypeIs (.ref o) "set":=⟨_,ho,rfl⟩
 refine codeAny_call_builtin F.called_set.init.plain F.entry_set_init (check_set_init_1 hT ?_)
 obtain⟨ol,e1,e2,nl,e3⟩:=id hl
 cases ol with
 |mk ZQ Yj Yk WN=>
 simp only at e2 e3
 subst e2 e3
 have h1:=F.sub_list_set
 have h2:=F.sub_list_frozenset
 have h3:(Value.type "list" == Value.type "dict")=false:=by decide
 have ZR:l≠o:=by
  rintro rfl;rw[e1] at ho;have z:=congrArg Obj.cls (aS ho);simp at z
 have lo:o<s.heap.objs.size:=Heap.lt_size ho
 have ll:l<s.heap.objs.size:=Heap.lt_size e1
 unfold Builtin.«set.__init__» noKeywords Builtin.Frozenset.updateFrom
 generalize hq:pyIter=it
 wp_walk
 subst hq
 refine wpAny_pyIter_list hl (wpAny_bind (wpAny_runValue ?_))
 have W:=Walks.list (prog:=prog) (w:=w) (A:=A.in1.in1) (by simp[hh]) s.heap.objs.size l (aV ll) items
 refine Dh (knd:=knd) W (S:=o) (λ z=>?_) ?_ kl hlen hn (λ i h3 st=>?_) items.size 0 _ (by omega) (aZ _) ?_ ?_ ?_ ?_
 ·simp only[aB,dg,or_false] at z
  rcases z with z | z
  ·exact absurd z (aV lo)
  ·exact ZR z.symm
 ·show A.units+1+1<cLine
  omega
 ·obtain⟨⟨oi,f1,_,f3⟩,_⟩:=st
  exact⟨oi,_,f1,f3⟩
 ·exact⟨⟨_,Heap.get?_push_size _ rfl,rfl,rfl⟩,hl.push _⟩
 ·exact qe.fresh led (Heap.get?_push_of_some _ ho)
 ·intro j v _ hv
  obtain⟨b,q,g1,g2,g3⟩:=hk j v hv;exact⟨b,q,g1,g2,AI g3 λ u e=>Heap.get?_push_of_some _ e⟩
 ·intro h' tk k1 k2
  refine wpAny_pure (wpAny_pure ?_);exact h h' tk k2 λ b u hb e=>k1 b u hb (aV (Heap.lt_size e)) (Heap.get?_push_of_some _ e)
theorem MJ{l:Addr}{items:Array Value}{E:Value->Shared->Prop}{Q:Value->Shared->Prop}{kl:List (List K)}(hh:A.handled=none)(hu:A.units+16<cLine)
  (hl:s.heap.IsList l items) (hlen:kl.length=items.size) (hn:items.size<=32768)
  (hk:∀(i:Nat) (v:Value),items[i]? = some v->∃b q,v=.ref b/\kl[i]? = some q/\IsTupleKey knd s.heap q b)
  (h:∀(h':Heap) (tk:Nat),qe knd h' s.heap.objs.size (dd kl)->(∀b u,s.heap.get? b=some u->h'.get? b=some u)->Q (.ref s.heap.objs.size) { s with heap:=h',toks:=tk }) :
  wpAny (model prog w) A (call (.type "set") [.ref l]) Q E s:=by
 have F0:=F.called_set
 obtain⟨c,tl,hm⟩:=F0.mro
 have f1:=F0.made
 have f2:=F0.sub
 have f3:=F0.notType
 have f4:=F0.canCreate
 have f5:=F.typeCall_set_1 (.ref l)
 refine wpAny_call (codeAny_of_tree ?_)
 show wpAny _ _ (callAny (.type "set") ⟨[.ref l],[]⟩) _ _ _
 refine wpAny_pure ⟨Code.quiet_builtin _ (by decide +kernel),codeAny_builtin F.entry_type_call ?_⟩
 rw[Around.under_plain (weight_type_call_type "set" [.ref l] []) rfl]
 (repeat (any_goals (first | assumption | wp_step)));skip
 refine codeAny_mono (code_set_new_1 (.ref l) (E:=E) (Q₁:=λ v s1=>∃led:Bool,v=.ref s.heap.objs.size /\
  s1 = { s with heap:=s.heap.push { cls:=.type "set",dict:=none,data:=.set #[] 0 (.fresh 0 0 led) } }) λ led=>⟨led,rfl,rfl⟩) λ r s1 hr=>?_
 cases r with
 |error e=>exact hr
 |ok fl=>
  cases fl with
  |ret v=>
   obtain⟨led,rfl,rfl⟩:=hr;have g0:=Heap.get?_push_size s.heap (o:={ cls:=.type "set",dict:=none,data:=.set #[] 0 (.fresh 0 0 led) }) rfl;have g1:Shared.TypeIs { s with heap:=s.heap.push { cls:=.type "set",dict:=none,data:=.set #[] 0 (.fresh 0 0 led) } } (.ref s.heap.objs.size) "set":=⟨_,g0,rfl⟩
   have g2:=F0.init.lookup;have g3:=F0.init.bind (.ref s.heap.objs.size)
   (repeat (any_goals (first | assumption | wp_step)));skip
   refine codeAny_mono (Km (knd:=knd) (Q:=λ v s2=>v=.none/\∃h' tk,s2 = { s with heap:=h',toks:=tk }/\qe knd h' s.heap.objs.size (dd kl)/\∀b u,s.heap.get? b=some u->h'.get? b=some u)
    (E:=E) (by simpa using hh) (by simp only[Around.in1];omega) (hl.push _) g0 hlen hn (λ i v hv=>?_) λ h' tk a1 a2=>?_) λ r2 s2 hr2=>?_
   ·obtain⟨b,q,q1,q2,q3⟩:=hk i v hv;exact⟨b,q,q1,q2,AI q3 λ u e=>Heap.get?_push_of_some _ e⟩
   ·exact⟨rfl,h',tk,rfl,a1,λ b u e=>a2 b u (aV (Heap.lt_size e)) (Heap.get?_push_of_some _ e)⟩
   ·cases r2 with
    |error e=>exact hr2
    |ok WO=>
     cases WO with
     |ret r=>
      obtain⟨rfl,h',tk,rfl,a1,a2⟩:=hr2
      (repeat (any_goals (first | assumption | wp_step)));skip
      exact h h' tk a1 a2
     |_=>exact hr2.elim
  |_=>exact hr.elim
end
end St
end
noncomputable section
namespace L2
open PySem PySem.Spec PyProof.Rows
def wU(P:Program)(w:World):OV:=λ outer H s E e s'=>
 ∃(a C:Addr) (a0:Value) (B h1:Heap) (H1:Hp),e=.ref a/\s'.os=s.os/\AllBare s'.gens/\Heap.FlyingW B outer a (.ref C) a0 s'.heap /\
  Un (frs outer) [] H H1 s.heap h1/\yK P w H1 h1/\h1.UpToSlots s'.heap /\
  (∀b o,h1.get? b=some o->(b<s.heap.objs.size\/H1 b≠none)->b ∉ frs outer->B.get? b=some o)/\E (.ref C) none H1
theorem jF{P:Program}{w:World}{X:Cx}:pD (wU P w) X E0:=λ _ _ _ _ _ _ _ h=>by
 obtain⟨_,_,_,_,_,_,_,_,_,_,_,_,_,_,z⟩:=h
 exact z.elim
structure XL(X:Cx)(E:XK):Prop where
 OF:X.stack=X.env::X.outer
 fr:X.env.frame=some X.env.locals
 ex:X.ex=[]
 calm:X.calm=true
 to:∀e s',wpAny (model X.prog X.w) X.A (leaving X.env e) (λ _ s''=>wU X.prog X.w X.outer X.QF X.Cq E e s'') (λ e' s''=>wU X.prog X.w X.outer X.QF X.Cq E e' s'') s'->X.xe e s'
theorem jA{X:Cx}{E:XK}(L:XL X E):pD (wU X.prog X.w) X E:=by
 intro pins σ H s e s' I h
 obtain⟨a,C,a0,B,h1,H1,rfl,os,bare,fl,un,hok,sl,cond,hE⟩:=h
 have J:=I.call (h':=h1) (g':=s.gens) (t':=s.toks) (d':=s.drawn) (ch:=[]) un hok I.bare (λ b z=>absurd z (by simp))
 refine L.to _ _ ?_
 rw[L.OF] at fl
 refine wpAny_leaves_onW (I.ok.frames.trans (congrArg some L.OF)) L.fr fl λ h' ZS VG=>?_
 refine⟨a,C,a0,B,h1,H1,rfl,os.trans I.os,bare,ZS,?_,hok,sl.trans VG,λ b o e hb hn=>cond b o e ?_ λ hm=>?_,hE⟩
 ·have u:=J.base
  rw[L.ex] at u;exact u
 ·rcases hb with hb | hb
  ·exact .inl (aI hb I.sz)
  ·exact .inr hb
 ·rcases aB.mp (I.Ai b hm) with z | z
  ·rcases hb with hb | hb
   ·exact absurd (aI hb I.ok.above) (by rw[z];exact bJ _)
   ·rw[z] at hb;exact hb J.free
  ·exact hn z
theorem rO{K:ai}{h:Heap}{mg:Str->Option Value}{x:Str}{C:Addr}{bmB:List Value}{newId:String}(KX:K.In h)(hm:mg x=some (.ref C))
  (q:iK K C bmB newId=true):OwnCls x C bmB newId mg h:=by
 constructor
 ·exact hm
 ·revert q
  rw[iK]
  split
  ·rename_i dd cd sl ho
   split
   ·rename_i C' bm k0 k1 k2 k3 n k5 e1 e2
    intro q;simp only[beq_iff_eq,aR,Bool.not_eq_true'] at q
    obtain⟨⟨⟨⟨⟨q1,q2⟩,q3⟩,q4⟩,q5⟩,q6⟩:=q;subst q1 q2;obtain⟨nm,bs,mro,ns,qn,hd,sn,sub,ab,col,del⟩:=cd;dsimp only at e1 q3 q5 q6;subst e1 q3;obtain rfl:sl = #[k0,k1,k2,k3,some (.builtin n),k5]:=by
     cases sl;exact congrArg Array.mk e2
    exact⟨bm,ns,nm,qn,bs,hd,sn,sub,ab,col,dd,k0,k1,k2,k3,k5,_,KX _ _ ho,.of_isNs (PySem.W.isNs_of_in KX q5),
     PySem.W.nsMap_none_of_in KX q5 q6,PySem.W.tail_of_in KX q4⟩
   ·intro z;cases z
  ·intro z;cases z
theorem xJ{X:Cx}{x:Str}{C:Addr}{B newId initId:String}{bm:List Value}{np cpos pos:Pos}{E:XK}(L:XL X E)(hg:Gl X x)(O:OwnCls x C bm newId X.mg X.base)
  (FB:ExcBaseFacts B newId initId bm) (hd:(x==("__debug__":Str))=false:=by decide) :
  PS X (.Raise (some (.Call (.Name x np) [] [] cpos)) none pos) (λ _ _ H=>E (.ref C) none H):=by
 intro pins s σ H D I hE
 obtain⟨tl,N,nm,q,bs,hdct,sn,sub,ab,col,dd,k0,k1,k2,k3,k5,mN,hC,hN,hni,T⟩:=O.obj
 refine wpAny_Raise_call_subT (nm:=nm) (q:=q) (C:=C) (N:=N) (bs:=bs) (bm:=tl) (hdct:=hdct) (sn:=sn) (sub:=sub) (ab:=ab) (col:=col) (dd:=dd) (k0:=k0)
  (k1:=k1) (k2:=k2) (k3:=k3) (k5:=k5) FB (mN:=mN) (T.hasType FB.hasBase) (I.ok.hd L.calm) rfl hni (sY I hg O.bound ⟨rfl,?_⟩ hd)
 refine evalArgs_empty ⟨rfl,aZ _,I.bk _ _ hC,hN.keeps I.bk,T.keeps I.bk,λ h' e hm=>?_⟩
 refine L.to _ _ ?_
 have hin:∀env∈X.stack,∀a,env.frame=some a->a∈frs X.stack:=λ env he a ha=>eY.mpr ⟨env,he,ha⟩
 have ff:=PySem.W.funFrames_hide I.stack hin
 rw[L.OF] at ff
 refine wpAny_leaves_madeW (I.ok.frames.trans (congrArg some L.OF)) L.fr (λ b o z=>iM _ z) ff hm λ h'' t fl _ _ sl=>?_
 refine⟨e,C,.ref t,_,s.heap,H,rfl,I.os,I.bare,fl,?_,I.hok,(Heap.UpToSlots.of_keeps hm.keeps).trans sl,λ b o eb hb hn=>iH _ eb λ z=>?_,hE⟩
 ·have u:=I.base
  rw[L.ex] at u;exact u
 ·rw[<-L.OF] at z
  rcases aB.mp (I.Ai b z) with y | y
  ·rcases hb with hb | hb
   ·exact absurd (aI hb I.ok.above) (by rw[y];exact bJ _)
   ·rw[y] at hb;exact hb I.free
  ·exact hn y
end L2
end
noncomputable section
namespace L2
open PySem PySem.Spec PyProof.Rows
def MK(a:Addr)(n:Nat)(h:Heap):Prop:=∃o es ep t,h.get? a=some o/\o.ExactSet/\o.data=.set es ep t/\t.fits es.size=true/\es.size=n/\n<=32768
structure pU(K:ai)(H:Hp)(as:List Addr)(kl:List (List Int)):Prop where
 len:as.length=kl.length
 at_:∀(i:Nat) (a:Addr) (k:List Int),as[i]? = some a->kl[i]? = some k->rH K H a (k.map V.int)
def ky(k:List Int):List Key:=k.map Sum.inl
theorem El:∀{a b:List Int},ky a=ky b->a=b
 |[],[],_=>rfl
 |[],_::_,h=>by cases h
 |_::_,[],h=>by cases h
 |x::a,y::b,h=>by
  have h':Sum.inl x::ky a=(Sum.inl y::ky b:List Key):=h
  injection h' with h1 h2
  injection h1 with h1
  rw[h1,El h2]
section
variable{X:Cx}{pins:List (Addr×Obj)}{σ:St}{H:Hp}{s:Shared}
theorem xK{a:Addr}{k:List Int}(I:Inv X pins σ H s)(h:rH X.K H a (k.map V.int)):IsTupleKey (kX X.prog X.w) s.heap (ky k) a:=by
 obtain⟨its,r,⟨o,ho,hc,n,hd⟩,_⟩:=I.tuple h
 refine⟨o,_,n,ho,hc,hd,?_⟩
 have q:Vals ((ky k).map kV) its:=by
  unfold ky;rw[eF];exact r
 simpa using C5 q
theorem Kn(hc:X.calm=true)(hu:X.A.units+64<cLine):uv X (.type "set") (λ vs H Q=>∃(l:Addr) (as:List Addr) (kl:List (List Int)),vs=[.ref l]/\jE X.K H l (as.map V.ref)/\pU X.K H as kl/\kl.length<=32768 /\
  ∀p,H p=none->Q (.ref p) (upd H p (.ext (MK p (St.dd (kl.map ky)).length)))):=by
 intro pins s σ H xs us Q I r h
 obtain⟨l,as,kl,rfl,hq,T,hn,q⟩:=h
 obtain rfl:=Vals.JK r
 obtain⟨its,r',pl,hz⟩:=I.list hq
 have hlen:=r'.length
 rw[ah] at hlen
 refine St.MJ (knd:=kX X.prog X.w) (kl:=kl.map ky) (items:=its.toArray) (I.ok.hd hc) (by omega) pl.isList (by simp;rw[<-T.len,hlen]) (by simp;rw[<-hlen,T.len];exact hn) (λ i v hv=>?_) λ h' tk S kp=>?_
 ·have hv:its[i]? = some v:=by simpa using hv
  have hi:i<its.length:=(ao.mp hv).1;have ea:as[i]? = some as[i]:=af (by omega);obtain⟨u,e1,e2⟩:=r'.get (x:=V.ref as[i]) (by rw[aj,ea];rfl);rw[hv] at e1
  cases e1;have hik:i<kl.length:=by rw[<-T.len];omega
  have ek:kl[i]? = some kl[i]:=af hik;exact⟨as[i],ky kl[i],e2,by rw[aj,ek];rfl,xK I (T.at_ i _ _ ea ek)⟩
 ·have hf:H s.heap.objs.size=none:=I.fresh
  have ob:MK s.heap.objs.size (St.dd (kl.map ky)).length h':=by
   obtain⟨o,es,ep,t,ho,hx,hd,B⟩:=S;refine⟨o,es,ep,t,ho,hx,hd,B.fits,B.len.symm,?_⟩;have:=(St.G8 (kl.map ky)).1;simp at this;omega
  refine⟨.ref s.heap.objs.size,_,I.laid (t':=tk) kp (aq _) (o:=.ext (MK s.heap.objs.size (St.dd (kl.map ky)).length)) ?_,rfl,q _ hf⟩;refine⟨ob,?_,λ h1 h2 a b=>?_⟩
  ·obtain⟨o,_,_,_,ho,_⟩:=ob;exact⟨o,ho⟩
  ·obtain⟨o,es,ep,t,ho,rest⟩:=a;exact⟨o,es,ep,t,b o ho,rest⟩
theorem FH:uv X (.builtin "len") (λ vs H Q=>∃p n,vs=[.ref p]/\H p=some (.ext (MK p n))/\Q (.int n) H):=by
 intro pins s σ H xs us Q I r h
 obtain⟨p,n,rfl,e,q⟩:=h
 obtain rfl:=Vals.JK r
 obtain⟨⟨o,es,ep,t,ho,hx,hd,hf,en,hn⟩,_⟩:=I.hok p _ e
 subst en
 refine call_len_set ho hx hd hf (by omega) ⟨.int es.size,H,I.tok _,⟨_,rfl⟩,q⟩
end
end L2
end
noncomputable section
namespace L2
open PySem PySem.Spec PyProof.Rows
theorem Di{P P':Program}{w w':World}:∀{ks:List Key}{vs:List Value},ItemsAre (kX P w) ks vs->ItemsAre (kX P' w') ks vs
 |_,_,.nil=>.nil
 |_,_,.cons h t=>.cons h (Di t)
theorem Iw{P P':Program}{w w':World}{h:Heap}{k:List Key}{a:Addr}(x:IsTupleKey (kX P w) h k a):IsTupleKey (kX P' w') h k a:=
 let ⟨o,items,n,a1,a2,a3,a4⟩:=x;⟨o,items,n,a1,a2,a3,Di a4⟩
open Classical in
def Tr(P:Program)(w:World)(h:Heap)(k:List Key)(u:Value):Bool:=decide (∃b,u=.ref b/\IsTupleKey (kX P w) h k b)
theorem AJ{P:Program}{w:World}{h:Heap}{k k':List Key}{b:Addr}(x:IsTupleKey (kX P w) h k' b):Tr P w h k (.ref b)=decide (k'=k):=by
 rw[aT]
 simp only[Tr,decide_eq_true_eq]
 constructor
 ·rintro⟨b',q,y⟩
  cases q;exact x.inj y
 ·rintro rfl
  exact⟨b,rfl,x⟩
theorem FI{P:Program}{w:World}{A:Around}{s:Shared}{a b:Addr}{k k':List Key}(hu:A.units<cLine)(x:IsTupleKey (kX P w) s.heap k' b)(y:IsTupleKey (kX P w) s.heap k a) :
  SeqAt.EqAt A s (.ref b) (.ref a) (Tr P w s.heap k (.ref b)):=by
 intro prog w' E Q q
 rw[AJ x] at q
 exact wpAny_eqBool_tuple (knd:=kX prog w') hu (Iw x) (Iw y) q
section
variable{X:Cx}{pins:List (Addr×Obj)}{σ:St}{H:Hp}{s:Shared}
theorem rP{as:List Addr}{kl:List (List Int)}{its:List Value}(I:Inv X pins σ H s)(T:pU X.K H as kl)(r:Vals (as.map V.ref) its){i:Nat}{u:Value}(h:its[i]? = some u) :
  ∃b k,u=.ref b/\as[i]? = some b/\kl[i]? = some k/\IsTupleKey (kX X.prog X.w) s.heap (ky k) b:=by
 have hlen:=r.length
 rw[ah] at hlen
 have hi:i<its.length:=(ao.mp h).1
 have ha:i<as.length:=by omega
 have hk:i<kl.length:=by rw[<-T.len];exact ha
 have ea:as[i]? = some as[i]:=af ha
 have ek:kl[i]? = some kl[i]:=af hk
 obtain⟨u',e1,e2⟩:=r.get (x:=V.ref as[i]) (by rw[aj,ea];rfl)
 rw[h] at e1
 cases e1
 exact⟨as[i],kl[i],e2,ea,ek,xK I (T.at_ i _ _ ea ek)⟩
theorem R8(hu:X.A.units+64<cLine):vB X (compareOp .In) (λ x y H Q=>∃(a l:Addr) (k:List Int) (as:List Addr) (kl:List (List Int)),x=.ref a/\rH X.K H a (k.map V.int)/\y=.ref l/\jE X.K H l (as.map V.ref)/\pU X.K H as kl /\
  Q (.bl (decide (k∈kl))) H):=by
 intro pins s σ H x y v u Q I rx ry h
 obtain⟨a,l,k,as,kl,rfl,ha,rfl,hl,T,q⟩:=h
 cases rx
 cases ry
 have hk:=xK I ha
 obtain⟨its,r,pl,hz⟩:=I.list hl
 have hlen:=r.length
 rw[ah] at hlen
 refine SeqAt.in_listAt (Tr X.prog X.w s.heap (ky k)) pl.isList (λ w hw=>?_) ⟨.bl _,H,I,rfl,?_⟩
 ·have hw:w∈its:=by simpa using hw
  obtain⟨i,hi⟩:=cF hw;obtain⟨b,k',rfl,_,_,z⟩:=rP I T r hi;exact FI (by simp only[Around.in1];omega) z hk
 ·have e:its.toArray.any (Tr X.prog X.w s.heap (ky k))=decide (k∈kl):=by
   rw[aT,decide_eq_true_eq];simp only[List.any_toArray,gP]
   constructor
   ·rintro⟨u,RY,e⟩;obtain⟨i,hi⟩:=cF RY;obtain⟨b,k',rfl,_,ek,z⟩:=rP I T r hi;rw[AJ z,decide_eq_true_eq] at e;rw[<-El e];exact au ek
   ·intro hm;obtain⟨i,hi⟩:=cF hm;have hil:i<its.length:=by rw[<-hlen,T.len];exact (ao.mp hi).1
    obtain⟨b,k',e1,_,ek,z⟩:=rP I T r (af hil);rw[hi] at ek
    cases ek;exact⟨its[i],aW hil,by rw[e1,AJ z];exact decide_eq_true rfl⟩
  rw[e];exact q
theorem Ko(hu:X.A.units+64<cLine):VN X "list.index" (λ x xs H Q=>∃(a l:Addr) (k:List Int) (as:List Addr) (kl:List (List Int)) (j:Nat),x=.ref l/\xs=[.ref a]/\rH X.K H a (k.map V.int)/\jE X.K H l (as.map V.ref)/\pU X.K H as kl /\
  kl[j]? = some k/\(∀m,m<j->kl[m]?≠some k)/\Q (.int (j:Nat)) H):=by
 intro pins s σ H x xs v us Q I rx ZT h
 obtain⟨a,l,k,as,kl,j,rfl,rfl,ha,hl,T,ej,hno,q⟩:=h
 cases rx
 obtain rfl:=Vals.JK ZT
 have hk:=xK I ha
 obtain⟨its,r,⟨⟨cls,dct,data,sl⟩,n,ho,hc,hdn,hd⟩,hz⟩:=I.list hl
 simp only at hc hd
 subst hc hd
 have hlen:=r.length
 rw[ah] at hlen
 have hjk:j<kl.length:=(ao.mp ej).1
 have hji:j<its.length:=by rw[<-hlen,T.len];exact hjk
 have hsl:=sizeLine_eq
 rw[ah] at hz
 refine call_meets gQ ⟨_,ho,rfl⟩ PySem.F.entry_list_index (PySem.F.args_list_index_2 _ _)
  (SeqAt.list_indexAt l its.toArray n dct sl (.ref a) (Tr X.prog X.w s.heap (ky k)) j (by simpa using hji) (by omega) ?_ ?_) ⟨ho,λ u' RY=>?_,⟨.int (j:Nat),H,I.tok _,⟨_,rfl⟩,q⟩⟩
 ·obtain⟨b,k',e1,_,ek,z⟩:=rP I T r (af hji)
  rw[ej] at ek
  cases ek;have e2:its.toArray[j]'(by simpa using hji)=.ref b:=by simpa using e1
  rw[e2,AJ z];exact decide_eq_true rfl
 ·intro m hm ZU
  have hml:m<its.length:=by simpa using hm
  obtain⟨b,k',e1,_,ek,z⟩:=rP I T r (af hml);have e2:its.toArray[m]'hm=.ref b:=by simpa using e1
  rw[e2,AJ z];refine decide_eq_false λ e=>hno m ZU ?_
  rw[ek,El e]
 ·have RY:u'∈its:=by simpa using RY
  obtain⟨i,hi⟩:=cF RY;obtain⟨b,k',rfl,_,_,z⟩:=rP I T r hi;exact FI (by simp only[Around.in1];omega) z hk
end
end L2
end
noncomputable section
namespace L2
open PySem PySem.Spec PyProof.Rows
structure wV(K:ai)(mg:Str->Option Value)(x qual:Str)(st:Stmt)(ps:List Str)(f:Addr)(fd:FuncData):Prop where
 fn:RQ K x qual st f fd
 bd:Binds K fd ps []
 mg:mg x=some (.ref f)
structure Met(K:ai)(x qual:Str)(st:Stmt)(ps:List Str)(C f:Addr)(fd:FuncData):Prop where
 fn:RQ K x qual st f fd
 bd:Binds K fd ps []
 me:Meth K C x f
structure QU(K:ai)(mg:Str->Option Value)(x:Str)(C:Addr):Prop where
 cl:Lq K C
 mg:mg x=some (.ref C)
 makes:g7 K C=true
 kp:dS K (.ref C)=true
structure Exc(K:ai)(mg:Str->Option Value)(x:Str)(C:Addr):Prop where
 mg:mg x=some (.ref C)
 ex:iK K C [.type "Exception",.type "BaseException",.type "object"] "Exception.__new__" = true
def wW(mg:Str->Option Value)(x:Str)(v:V):Prop:=∃u,mg x=some u/\RelV v u
def lB(K:ai)(C D:Addr):Prop:=∃c d cd sl,K.lookup C=some ⟨c,d,.cls cd,sl⟩/\cd.mro.contains (.ref D)=false
theorem xl_of{P:Program}{w:World}{K:ai}{mg:Str->Option Value}{base:Heap}{N:List Str}{qual:Str}{scope:Scope}{f:Addr}{cd:Value}{A:Around}{outer:List Env}{s:Shared}{H:Hp}{E:XK} :
  XL (Ay (wU P w) P w K mg base N qual scope f cd A outer s H E) E:=⟨rfl,rfl,rfl,rfl,λ _ _ h=>h⟩
theorem mW{P:Program}{w:World}{K:ai}{mg:Str->Option Value}{base:Heap}{N:List Str}{qual:Str}{scope:Scope}{f:Addr}{cd:Value}{A:Around}{outer:List Env}{s:Shared}{H:Hp}{E:XK} :
  PassesOwn (model P w) (A.deeper (envOfC qual scope s.heap.objs.size f cd)) (envOfC qual scope s.heap.objs.size f cd) (Ay (wU P w) P w K mg base N qual scope f cd A outer s H E).xe:=
 PassesOwn.leaving (Q₁:=λ e s''=>wU P w outer H s E e s'') (E₁:=λ e s''=>wU P w outer H s E e s'')
section
variable{P:Program}{w:World}{K:ai}{mg:Str->Option Value}{base:Heap}
theorem RQ.qD{x qual:Str}{st:Stmt}{f:Addr}{fd:FuncData}{N ps:List Str}{k:Nat}{sp:Sp}(F:RQ K x qual st f fd)(S:jr N ps (jk st))(len:∀vs H Q E,sp vs H Q E->vs.length=ps.length)
  (hbody:∀(cdv:Value) (A:Around) (outer:List Env) (s:Shared) (H:Hp) (vs:List V) (Q:VK) (E:XK),mQ k (A.deeper (envOfC qual (jk st) s.heap.objs.size f cdv))->sp vs H Q E ->
   ∃t,Lz (Ay (wU P w) P w K mg base N qual (jk st) f cdv A outer s H E) (qE st) t/\t { nx:=λ _ H'=>Q .pZ H',rt:=Q } (start N vs) H):yN P w K mg base (wU P w) (k+1) f fd ps sp:=by
 obtain⟨oc,od,kV,doc,pm,an,cdv,ct,osl,rfl,lk,hcd⟩:=F.ex
 exact Uj lk hcd S len λ A outer s H vs Q E hr VM=>hbody cdv A outer s H vs Q E hr VM
end
section
variable{X:Cx}{x:Str}{pos p:Pos}{C f:Addr}{fd:FuncData}{qual:Str}{st:Stmt}{ps:List Str}{k:Nat}{sp:Sp}{E:XK}{e o:Expr}{es:List Expr}{t:TA}{ta:TE}{apos:Pos}
theorem kh{v:V}(h:wW X.mg x v)(hg:Gl X x)(hd:(x==("__debug__":Str))=false:=by decide):PE X (.Name x pos) (tC v):=let ⟨_,a,b⟩:=h;OI hg a b hd
theorem jI(G:wV X.K X.mg x qual st ps f fd)(F:yN X.prog X.w X.K X.mg X.base (wU X.prog X.w) k f fd ps sp)(hr:mQ k X.A)(hg:Gl X x)(hx:pD (wU X.prog X.w) X E)(ha:PA X (e::es) t)(hdb:(x==("__debug__":Str))=false:=by decide)
  (he:starEach (e::es) X.env=(false,eval e X.env)::starEach es X.env:=by rfl) (hpl:(backTo pos (starEach es X.env)).any (·.1)=false:=by rfl):PE X (.Call (.Name x p) (e::es) [] pos) (Ic sp [] E t):=
 OX F hr hg G.mg G.fn.kp G.bd .nil hx ha hdb he hpl
theorem rQ{pl:Sem Bool}(L:QU X.K X.mg x C){m:Str}(M:Met X.K m qual st ps C f fd)(F:yN X.prog X.w X.K X.mg X.base (wU X.prog X.w) k f fd ps sp)(hr:mQ k X.A)(hx:pD (wU X.prog X.w) X E)(ho:PE X o ta)(ha:PA X (e::es) t)
  (hst:starEach (e::es) X.env=(false,eval e X.env)::starEach es X.env:=by rfl) (hpl:(backTo pos (starEach es X.env)).any (·.1)=false:=by rfl)
  (ht:eval (.Call (.Attribute o m apos) (e::es) [] pos) X.env=(do
   let ov <-eval o X.env
   standAt apos.atName
   let (f,first) <-holding [ov] (getMethod ov m pl)
   callWith pos f first (backTo pos (starEach (e::es) X.env)) (backToKw pos (keywordEach [] X.env))):=by rfl) :
  PE X (.Call (.Attribute o m apos) (e::es) [] pos) (Ie C m sp [] E ta t):=OY ho L.cl M.me F hr M.bd .nil hx ha hst hpl ht
theorem lC{pl:Sem Bool}(L:QU X.K X.mg x C){m:Str}(M:Met X.K m qual st ps C f fd)(F:yN X.prog X.w X.K X.mg X.base (wU X.prog X.w) k f fd ps sp)(hr:mQ k X.A)(hx:pD (wU X.prog X.w) X E)(ho:PE X o ta)
  (ht:eval (.Call (.Attribute o m apos) [] [] pos) X.env=(do
   let ov <-eval o X.env
   standAt apos.atName
   let (f,first) <-holding [ov] (getMethod ov m pl)
   callWith pos f first (backTo pos (starEach [] X.env)) (backToKw pos (keywordEach [] X.env))):=by rfl) :
  PE X (.Call (.Attribute o m apos) [] [] pos) (Ie C m sp [] E ta E5):=LY ho L.cl M.me F hr M.bd .nil hx ht
theorem Dj(L:QU X.K X.mg x C)(M:Met X.K "__init__" qual st ps C f fd)(F:yN X.prog X.w X.K X.mg X.base (wU X.prog X.w) k f fd ps sp)(hr:mQ (k+1) X.A)(hg:Gl X x)(hx:pD (wU X.prog X.w) X E)(ha:PA X (e::es) t)
  (hdb:(x==("__debug__":Str))=false:=by decide) (he:starEach (e::es) X.env=(false,eval e X.env)::starEach es X.env:=by rfl) (hpl:(backTo pos (starEach es X.env)).any (·.1)=false:=by rfl) :
  PE X (.Call (.Name x p) (e::es) [] pos) (QN C sp [] E t):=OZ ⟨L.makes,M.me.at_,M.me.fn,L.kp⟩ F hr hg L.mg M.bd .nil hx ha hdb he hpl
end
end L2
end
noncomputable section
namespace L2
open PySem PySem.Spec PyProof.Rows
open PySem.W (kla_fn envX)
def FJ(P:Program)(w:World)(K:ai)(mg:Str->Option Value)(base:Heap)(N:List Str)(qual:Str)(scope:Scope)(f:Addr)(cd:Value)(cl:List (Str×Addr))(A:Around)(outer:List Env)(s:Shared)(H:Hp)(E:XK):Cx where
 prog:=P
 w:=w
 K:=K
 mg:=mg
 base:=base
 A:=A.deeper (envX qual scope s.heap.objs.size f cd cl)
 N:=N
 Cq:=s
 QF:=H
 env:=envX qual scope s.heap.objs.size f cd cl
 outer:=outer
 stack:=envX qual scope s.heap.objs.size f cd cl::outer
 ex:=[]
 calm:=true
 fn:=λ _=>false
 pn:=[]
 xe:=λ e s'=>wpAny (model P w) (A.deeper (envX qual scope s.heap.objs.size f cd cl)) (leaving (envX qual scope s.heap.objs.size f cd cl) e) (λ _ s''=>wU P w outer H s E e s'') (λ e' s''=>wU P w outer H s E e' s'') s'
theorem Sa{P:Program}{w:World}{K:ai}{mg:Str->Option Value}{base:Heap}{N:List Str}{qual:Str}{scope:Scope}{f:Addr}{cd:Value}{cl:List (Str×Addr)}{A:Around}{outer:List Env}{s:Shared}{H:Hp}{E:XK} :
  XL (FJ P w K mg base N qual scope f cd cl A outer s H E) E:=⟨rfl,rfl,rfl,rfl,λ _ _ h=>h⟩
structure UH(scope:Scope)(cl:List (Str×Addr))(H:Hp)(h:Heap)(N:List Str)(vs:List V):Prop where
 kind:scope.kind=.function
 ML:∀x∈scope.names,x.2≠.cell
 inj:∀x y c,cl.lookup x=some c->cl.lookup y=some c->x=y
 has:∀x,scope.names.lookup x=some .free->∃c,cl.lookup x=some c
 cell:∀x c,cl.lookup x=some c->(∃v,h.IsCell c v)/\H c=none
 len:vs.length=N.length
 val:∀(i:Nat) (x:Str) (v:V),N[i]? = some x->vs[i]? = some v->scope.names.lookup x=some .free/\∃u c,RelV v u/\cl.lookup x=some c/\h.IsCell c (some u)
section
variable{P:Program}{w:World}{K:ai}{mg:Str->Option Value}{base:Heap}
theorem Ph{N:List Str}{qual:Str}{scope:Scope}{f:Addr}{cd:Value}{cl:List (Str×Addr)}{A:Around}{outer:List Env}{s:Shared}{H:Hp}{E:XK}{vs:List V}{h1:Heap}{tk:Tok}
  (C:UH scope cl H s.heap N vs) (hd:A.handled=none) (e0:yM P w K mg base A outer s H) (hns:h1.Ns s.heap.objs.size λ _=>none) (hk:∀b o,s.heap.get? b=some o->h1.get? b=some o) :
  Inv (FJ P w K mg base N qual scope f cd cl A outer s H E) [] (vs.map some) H { s with heap:=h1,toks:=tk }:=by
 have O0:∀b:Addr,b ∉ (FJ P w K mg base N qual scope f cd cl A outer s H E).ex:=λ b z=>absurd (show b∈([]:List Addr) from z) (by simp)
 have ck:∀c v,s.heap.IsCell c v->h1.IsCell c v:=λ c v ⟨o,ho,hd⟩=>⟨o,hk _ _ ho,hd⟩
 refine⟨⟨e0.mod,C.kind,rfl,rfl,aq _,λ y z c h1 h2=>C.inj y z c h1 h2,λ y hy=>?_,λ y c h=>absurd (show false=true from h) aN,λ _=>hd,Around.frames_deeper e0.frames,.inr ⟨rfl,rfl⟩,λ b z=>absurd z (O0 b),e0.bs,e0.Ou,λ b _ _=>O0 b,λ b z=>absurd z (O0 b),e0.zQ,e0.Rn⟩,
  rfl,e0.bare,Un.kept hk,⟨_,hns,λ i y v h1 h2 h3=>?_⟩,λ y c h=>?_,e0.hok.fresh (aq _),λ y c h=>(C.cell y c h).2,λ p hp=>absurd (show p∈([]:List (Addr×Obj)) from hp) (by simp),e0.hok.kept hk,?_⟩
 ·have hy:scope.names.lookup y=some .cell\/scope.names.lookup y=some .free:=hy
  rcases hy with hy | hy
  ·exact absurd rfl (C.ML _ (aQ hy))
  ·exact C.has y hy
 ·rw[aj] at h2
  cases e:vs[i]? with
  |none=>rw[e] at h2;cases h2
  |some v'=>
   rw[e] at h2
   cases h2;obtain⟨a,u,c,r,b,d⟩:=C.val i y v h1 e;exact⟨u,r,.inr ⟨.inr a,c,b,ck _ _ d⟩⟩
 ·obtain⟨⟨v,z⟩,_⟩:=C.cell y c h
  exact⟨v,ck _ _ z⟩
 ·rw[ah];exact C.len
theorem Pj{N:List Str}{name qual:Str}{params:Arguments}{body:Expr}{scope:Scope}{f:Addr}{pm cd ct:Value}{cl:List (Str×Addr)}{A:Around}{outer:List Env}{s:Shared}{H:Hp}{Q:VK}{E:XK}{vs:List V}{k:Nat}{o:Obj}{t:TE}
  (hr:mQ (k+1) A) (C:UH scope cl H s.heap N vs) (e0:yM P w K mg base A outer s H) (ho:s.heap.get? f=some o) (hdt:o.data=.func (kla_fn name qual params body scope cl pm cd ct)) (hcd:s.heap.CodeRec cd qual)
  (hco:scope.isCoroutine=false) (hgen:scope.isGenerator=false) (hbind:bindArgs (kla_fn name qual params body scope cl pm cd ct) ⟨[],[]⟩=pure [])
  (ht:mQ k (A.deeper (envX qual scope s.heap.objs.size f cd cl))->PE (FJ P w K mg base N qual scope f cd cl A outer s H E) body t) (hq:t (vs.map some) H Q) :
  codeAny (model P w) A (.call (.ref f) ⟨[],[]⟩) (CR (wU P w) outer P w H s Q E) s:=by
 have lim:s.heap.NoLimit:=e0.mod.nolimit.keeps λ b o e=>(e0.bs b o e).1
 refine PySem.W.kla_callFunE hr.depth ho hdt hco hgen rfl hcd ?_
 rw[hbind]
 refine wpAny_pure (wpAny_newFunctionEnv C.ML (λ x hx=>nomatch hx) (λ h1 hns Yl=>⟨lim.fresh _ Yl,?_⟩) C.kind)
 have hk:∀b o,s.heap.get? b=some o->h1.get? b=some o:=λ b o e=>Yl.extBut b o (aV (Heap.lt_size e)) (Heap.get?_push_of_some _ e)
 have I:Inv (FJ P w K mg base N qual scope f cd cl A outer s H E) [] (vs.map some) H { s with heap:=h1,toks:=s.toks+0 }:=Ph C hr.hd e0 hns hk
 exact PySem.W.kla_codeExpr (wpAny_mono (ht (hr.deeper _) [] _ _ H Q I hq) (λ v s' ⟨x,H',J,rv,q⟩=>⟨x,H',J.os,J.bare,J.base,J.hok,rv,q⟩) λ _ _ h=>h)
theorem MM{k:Nat}{f:Addr}{name qual:Str}{params:Arguments}{body:List Stmt}{scope:Scope}{dV kV doc pm cdv ct oc:Value}{an od:Option Addr}{osl:Array (Option Value)}{N ps:List Str}
  {A:Around} {outer:List Env} {s:Shared} {H:Hp} {args:Args} {us:List Value} {vs:List V} {R:Result->Shared->Prop} {E:XK}
  (lk:K.lookup f=some ⟨oc,od,.func (dj name qual params body scope dV kV doc pm an cdv ct),osl⟩) (hcd:gi K cdv qual=true) (S:jr N ps scope)
  (hl:vs.length=ps.length) (hr:mQ (k+1) A) (e0:yM P w K mg base A outer s H) (hb:BindsTo s (dj name qual params body scope dV kV doc pm an cdv ct) args (ps.zip us)) (r:Vals vs us)
  (hbody:∀s1,mQ k (A.deeper (envOfC qual scope s.heap.objs.size f cdv))->Inv (Ay (wU P w) P w K mg base N qual scope f cdv A outer s H E) [] (start N vs) H s1->(∀b o,s.heap.get? b=some o->s1.heap.get? b=some o) ->
   wpAny (model P w) (A.deeper (envOfC qual scope s.heap.objs.size f cdv)) (execs body (envOfC qual scope s.heap.objs.size f cdv)) (λ fl s'=>match fl with
    |.ret u=>R (.ok (.ret u)) s'
    |.next=>R (.ok (.ret .none)) s'
    |_=>False) (λ e s'=>wpAny (model P w) (A.deeper (envOfC qual scope s.heap.objs.size f cdv)) (leaving (envOfC qual scope s.heap.objs.size f cdv) e) (λ _ s''=>R (.error e) s'') (λ e' s''=>R (.error e') s'') s') s1) :
  codeAny (model P w) A (.call (.ref f) args) R s:=by
 have KX:K.In s.heap:=e0.mod.QD.keeps λ b o e=>(e0.bs b o e).1
 have lim:s.heap.NoLimit:=e0.mod.nolimit.keeps λ b o e=>(e0.bs b o e).1
 have hkind:∀y∈ps.zip us,scope.names.lookup y.1=some .local\/(scope.names.lookup y.1=some .cell/\((cellsFrom (s.heap.objs.size+1) scope.names []).lookup y.1).isSome=true):=λ⟨n,v⟩ hy=>by
  rcases S.Wt n (fU hy).1 with q | q
  ·exact .inl q
  ·exact .inr ⟨q,fk _ _ _ (.inl q)⟩
 refine codeAny_call_function hr.depth (KX _ _ lk) rfl S.co S.gen rfl (iO KX hcd) (hb _ _ _ _ ?_)
 refine wpAny_newFunctionEnv_cells S.kind hkind λ env he s1 x=>?_
 subst he
 refine⟨lim.keeps x.toInCall.keep,codeAny_func ?_⟩
 have I:Inv (Ay (wU P w) P w K mg base N qual scope f cdv A outer s H E) [] (start N vs) H s1:=C3 S hr.hd e0 hl r x
 refine wpAny_mono (hbody s1 (hr.deeper _) I x.toInCall.keep) (λ fl s' hs=>?_) λ e s' hs=>hs
 cases fl with
 |ret u=>exact hs
 |next=>exact hs
 |brk=>exact False.elim hs
 |cont=>exact False.elim hs
end
end L2
end
noncomputable section
namespace L2
open PySem PySem.Spec PyProof.Rows
section
variable{M:Model}{A:Around}{E:Value->Shared->Prop}
theorem MN{h:Heap}{g:Array GenState}{dr:Drawn}{tk:Nat}{os:OsState}{e C D N N':Addr}{oe:Obj}{nm q UI q':Str}{bs bm bs' bm' sub sub':List Value}{hdct QV ab Ym:Bool}{sn sn':List Str}{col col':Option Bool}{dd Yn:Option Addr}{k0 k1 k2 k3 k5 l0 l1 l2 l3 l5:Option Value}{ni ZV:String}{Q:Bool->Shared->Prop}{b:Bool}
  (hC:h.get? C=some (excClassObj nm q C N bs bm hdct sn sub ab col dd k0 k1 k2 k3 k5 ni)) (hD:h.get? D=some (excClassObj UI q' D N' bs' bm' QV sn' sub' Ym col' Yn l0 l1 l2 l3 l5 ZV))
  (he:h.get? e=some oe) (hcls:oe.cls=.ref C) (hbase:bm'.contains (.type "BaseException")=true) (hb:(Value.ref C::bm).contains (.ref D)=b)
  (hq:Q b ⟨h,g,dr,tk,os⟩):wpAny M A (excMatches (.ref e) (.ref D)) Q E ⟨h,g,dr,tk,os⟩:=by
 have hB:(Value.ref D::bm').contains (.type "BaseException")=true:=by rw[List.contains_cons,hbase,Bool.or_true]
 have f:=tc_notTuple
 unfold excMatches
 repeat (first
  | (with_reducible refine wpAny_loadPart_at he ?_;rw[hcls])
  |with_reducible refine wpAny_loadPart_at hD ?_
  | (with_reducible refine wpAny_isSubtype_exc hD ?_;rw[hB])
  | (with_reducible refine wpAny_isSubtype_exc hC ?_;rw[hb])
  |wp_step)
 cases b<;>(wp_walk;exact hq)
end
section
variable{X:Cx}{pins:List (Addr×Obj)}{σ:St}{H H1:Hp}{s s':Shared}
theorem Inv.Sd{a:Addr}{cls a0:Value}{B h1 h6:Heap}{tk:Tok}(I:Inv X pins σ H s)(os:s'.os=s.os)(bare:AllBare s'.gens)(fl:Heap.FlyingW B X.stack a cls a0 h6)
  (un:Un (frs X.stack) [] H H1 s.heap h1) (hok:yK X.prog X.w H1 h1) (sl:h1.UpToSlots h6)
  (cond:∀b o,h1.get? b=some o->(b<s.heap.objs.size\/H1 b≠none)->b ∉ frs X.stack->B.get? b=some o):Inv X pins σ H1 { s' with heap:=h6,toks:=tk }:=by
 have fr:∀b o,b∈frs X.stack->s.heap.get? b=some o->∀vs,o.data≠.fields vs:=λ b o hb e=>by
  obtain⟨_,o',ho,hd⟩:=I.stack.mem hb;rw[e] at ho
  cases ho;exact hd
 have ZW:∀b∈frs X.stack,H1 b=none:=λ b hb=>by
  obtain⟨_,o',ho,hd⟩:=I.stack.mem hb;exact un.free b o' ho (I.z6 b hb) (by simp)
 have u6:Un (frs X.stack) [] H H1 s.heap h6:=by
  refine⟨λ b o e n hb hx=>?_,λ b o e n hb hx=>?_,un.free,λ b o e hx=>?_,un.tups,un.Co,un.Cp⟩
  ·exact fl.1 b o (cond b o (un.keep b o e n hb hx) (.inl (Heap.lt_size e)) hb)
  ·obtain⟨ZX,e1⟩:=un.slot b o e n hb hx;obtain⟨sl2,e2⟩:=sl b _ e1 (fr b o hb e);exact⟨sl2,e2⟩
  ·by_cases hb:b∈frs X.stack
   ·obtain⟨ZX,e1⟩:=un.slot b o e (I.z6 b hb) hb hx;obtain⟨sl2,e2⟩:=sl b _ e1 (fr b o hb e);exact⟨_,e2⟩
   ·obtain⟨o',e1⟩:=un.there b o e hx;exact⟨o',fl.1 b o' (cond b o' e1 (.inl (Heap.lt_size e)) hb)⟩
 have WQ:yK X.prog X.w H1 h6:=λ b o e=>(hok b o e).stay (λ c v hc q=>by
  have nn:H1 c≠none:=by
   rcases hc with rfl | hc
   ·rw[e];simp
   ·rw[hc];simp
  exact fl.1 c v (cond c v q (.inr nn) λ hm=>nn (ZW c hm))) (λ _ q=>q) λ _ _ q=>q
 have J:=I.call (h':=h6) (g':=s'.gens) (t':=tk) (d':=s'.drawn) (ch:=[]) u6 WQ bare (λ b z=>absurd z (by simp))
 obtain⟨hh,g,d,t,os'⟩:=s'
 obtain rfl:os'=s.os:=os
 exact J
abbrev Cx.held(X:Cx)(e:Value)(E:Value->Shared->Prop):Cx:={ X with A:=X.A.mark (some e),calm:=false,xe:=E }
theorem Inv.held(I:Inv X pins σ H s)(e:Value)(E:Value->Shared->Prop):Inv (X.held e E) pins σ H s:=
 ⟨⟨I.ok.mod,I.ok.kind,I.ok.glob,I.ok.blt,I.ok.above,I.ok.inj,I.ok.has,I.ok.VE,λ z=>absurd (show false=true from z) aN,I.ok.frames,I.ok.OF,I.ok.V6,I.ok.bs,I.ok.Ou,I.ok.OG,I.ok.OH,I.ok.zQ,I.ok.Rn⟩,
  I.os,I.bare,I.base,I.loc,I.cell,I.free,I.tZ,I.pin,I.hok,I.len⟩
theorem Inv.yS{e:Value}{E:Value->Shared->Prop}(ok:X.Ok)(I:Inv (X.held e E) pins σ H s):Inv X pins σ H s:=
 ⟨ok,I.os,I.bare,I.base,I.loc,I.cell,I.free,I.tZ,I.pin,I.hok,I.len⟩
theorem SP.yS{e:Value}{E:Value->Shared->Prop}{D:Ends}{f:Flow}(ok:X.Ok)(h:SP (X.held e E) pins D f s'):SP X pins D f s':=by
 cases f with
 |next=>obtain⟨σ',H',I,q⟩:=h;exact⟨σ',H',I.yS ok,q⟩
 |brk=>obtain⟨σ',H',I,q⟩:=h;exact⟨σ',H',I.yS ok,q⟩
 |cont=>obtain⟨σ',H',I,q⟩:=h;exact⟨σ',H',I.yS ok,q⟩
 |ret u=>obtain⟨v,σ',H',I,rv,q⟩:=h;exact⟨v,σ',H',I.yS ok,rv,q⟩
theorem Pk{K:ai}{h:Heap}{C D N:Addr}{nm q:Str}{bs bm sub:List Value}{hdct ab:Bool}{sn:List Str}{col:Option Bool}{dd:Option Addr}{k0 k1 k2 k3 k5:Option Value}{ni:String}(KX:K.In h)(n:lB K C D)
  (hC:h.get? C=some (excClassObj nm q C N bs bm hdct sn sub ab col dd k0 k1 k2 k3 k5 ni)):(Value.ref C::bm).contains (.ref D)=false:=by
 obtain⟨c,d,cd,sl,e1,e2⟩:=n
 have e3:=KX _ _ e1
 rw[hC] at e3
 have e4:=aS e3
 unfold excClassObj at e4
 injection e4 with _ _ e5 _
 injection e5 with e6
 rw[<-e6] at e2
 exact e2
section
variable{e C D:Addr}{x y:Str}{np pos:Pos}{b0:Stmt}{suite:List Stmt}{rest:List ExceptHandler}{Ds:Ends}{B1 B2 n1 n2 i1 i2:String}{WR Yo:List Value}{B:Heap}{a0:Value}
theorem miss(I:Inv X pins σ H s)(fl:Heap.FlyingW B X.stack e (.ref C) a0 s.heap)(hg:Gl X x)(OC:OwnCls y C WR n1 X.mg X.base)(OD:OwnCls x D Yo n2 X.mg X.base)(FD:ExcBaseFacts B2 n2 i2 Yo)(hn:lB X.K C D)
  (h:wpAny (model X.prog X.w) X.A (handleBy (.ref e) X.env rest) (SP X pins Ds) X.xe s) (hd:(x==("__debug__":Str))=false:=by decide) :
  wpAny (model X.prog X.w) X.A (handleBy (.ref e) X.env (.ExceptHandler (some (.Name x np)) none (b0::suite) pos::rest)) (SP X pins Ds) X.xe s:=by
 obtain⟨oe,he,hcls⟩:=fl.there
 obtain⟨tl,N,nm,q,bs,hdct,sn,sub,ab,col,dd,k0,k1,k2,k3,k5,mN,hC,_,_,_⟩:=OC.obj
 obtain⟨tl',N',UI,q',bs',QV,sn',sub',Ym,col',Yn,l0,l1,l2,l3,l5,mN',hD,_,_,T'⟩:=OD.obj
 refine wpAny_handleBy_cons (codeAny_handlers_test ?_) (by intro z;cases z)
 refine sY (I.held (.ref e) λ _ _=>True) hg OD.bound ?_ hd
 obtain⟨hp,g,dr,tk,os⟩:=s
 exact MN (I.bk _ _ hC) (I.bk _ _ hD) he hcls (T'.hasType FD.hasBase) (Pk I.GC hn (I.bk _ _ hC)) h
theorem hit{t:TS}(I:Inv X pins σ H s)(fl:Heap.FlyingW B X.stack e (.ref C) a0 s.heap)(hg:Gl X x)(OC:OwnCls x C WR n1 X.mg X.base)(FC:ExcBaseFacts B1 n1 i1 WR)
  (hs:∀E,Lz (X.held (.ref e) E) (b0::suite) t) (h:t Ds σ H) (again:∀h6,Heap.FlyingW B X.stack e (.ref C) a0 h6->s.heap.UpToSlots h6->Inv X pins σ H { s with heap:=h6 }) (hd:(x==("__debug__":Str))=false:=by decide) :
  wpAny (model X.prog X.w) X.A (handleBy (.ref e) X.env (.ExceptHandler (some (.Name x np)) none (b0::suite) pos::rest)) (SP X pins Ds) X.xe s:=by
 obtain⟨oe,he,hcls⟩:=fl.there
 obtain⟨tl,N,nm,q,bs,hdct,sn,sub,ab,col,dd,k0,k1,k2,k3,k5,mN,hC,_,_,T⟩:=OC.obj
 refine wpAny_handleBy_cons (codeAny_handlers_test ?_) (by intro z;cases z)
 refine sY (I.held (.ref e) λ _ _=>True) hg OC.bound ?_ hd
 obtain⟨hp,g,dr,tk,os⟩:=s
 refine MN (b:=true) (I.bk _ _ hC) (I.bk _ _ hC) he hcls (T.hasType FC.hasBase) (by simp) (codeAny_handlers_suite (lands_againW fl λ h6 WS WT=>?_))
 have J:=again h6 WS WT
 exact wpAny_mono (hs _ pins _ σ H Ds (J.held (.ref e) _) h) (λ f s2 z=>z.yS I.ok) λ _ _ z=>z
end
theorem Pn{E:Value->Shared->Prop}{i:Nat}{x:Str}{v:V}{pos:Pos}{Q:Value->Shared->Prop}(I:Inv X pins σ H s)(hN:X.N[i]? = some x)(hv:OE X.env.scope x)(hσ:σ[i]? = some (some v))(h:∀u,RelV v u->Q u s)
  (hd:(x==("__debug__":Str))=false) (hcd:(x==("__classdict__":Str))=false):wpAny (model X.prog X.w) X.A (eval (.Name x pos) X.env) Q E s:=by
 obtain⟨m,hn,hl⟩:=I.loc
 obtain⟨u,r,l⟩:=hl i x v hN hσ hv
 rcases l with ⟨k,hm⟩ | ⟨k | k,c,hc,z⟩
 ·exact wpAny_Name (wpAny_loadName_local I.ok.kind k hn hm (h u r)) hd
 ·exact wpAny_Name (wpAny_loadName_cell I.ok.kind k hc z (h u r)) hd
 ·exact wpAny_Name (wpAny_loadName_free I.ok.kind k hc z (h u r) hcd) hd
theorem MO{Ds:Ends}{x:Str}{np cp rp pos:Pos}{h0:ExceptHandler}{hs:List ExceptHandler}{i:Nat}{p:Addr}{o:Obj}{fd:FuncData}{E:XK}(I:Inv X pins σ H s)(hL:X.stack=X.env::X.outer)(hfr:X.env.frame=some X.env.locals)(hN:X.N[i]? = some x)
  (hv:OE X.env.scope x) (hσ:σ[i]? = some (some (.ref p))) (ho:s.heap.get? p=some o) (hd:o.data=.func fd)
  (run:codeAny (model X.prog X.w) X.A (.call (.ref p) ⟨[],[]⟩) (CR (wU X.prog X.w) X.stack X.prog X.w H s Ds.rt E) s)
  (land:∀(a C:Addr) (a0:Value) (B h3:Heap) (s':Shared) (H1:Hp),Heap.FlyingW B X.stack a (.ref C) a0 h3->(∀h6,Heap.FlyingW B X.stack a (.ref C) a0 h6->h3.UpToSlots h6->Inv X pins σ H1 { s' with heap:=h6 })->E (.ref C) none H1 ->
   wpAny (model X.prog X.w) X.A (handleBy (.ref a) X.env (h0::hs)) (SP X pins Ds) X.xe { s' with heap:=h3 })
  (hdb:(x==("__debug__":Str))=false:=by decide) (hcd:(x==("__classdict__":Str))=false:=by decide) :
  wpAny (model X.prog X.w) X.A (exec (.Try [.Return (some (.Call (.Name x np) [] [] cp)) rp] (h0::hs) [] [] pos) X.env) (SP X pins Ds) X.xe s:=by
 refine wpAny_Try_except (wpAny_execs_cons (wpAny_Return_some ?_))
 refine wpAny_Call_Name_kw ?_
 refine Pn I hN hv hσ (λ u ru=>?_) hdb hcd
 obtain rfl:u=Value.ref p:=ru
 refine callWith_meth0 hd ho (wpAny_call (codeAny_mono run λ r s' hq=>?_))
 cases r with
 |ok f=>
  cases f with
  |ret u=>
   obtain⟨v,H',I',rv,q⟩:=I.after hq;exact⟨v,σ,H',I',rv,q⟩
  |next=>exact False.elim hq
  |brk=>exact False.elim hq
  |cont=>exact False.elim hq
 |error e=>
  obtain⟨a,C,a0,B,h1,H1,rfl,os,bare,fl,un,hok,sl,cond,hE⟩:=hq;have hst:X.A.frames=some (X.env::X.outer):=I.ok.frames.trans (congrArg some hL);rw[hL] at fl;refine wpAny_looks_onW hst hfr fl λ h2 WO sl2=>wpAny_landsW WO λ h3 Yp ZY=>?_
  rw[<-hL] at Yp;exact land a C a0 B h3 s' H1 Yp (λ h6 WS WT=>Inv.Sd (tk:=s'.toks) I os bare WS un hok (((sl.trans sl2).trans ZY).trans WT) cond) hE
end
end L2
end
noncomputable section
namespace L2
open PySem PySem.Spec PyProof.Rows
open PySem.W (kla_fn kla_obj envX CodeHd tabObj)
section
variable{X:Cx}{pins:List (Addr×Obj)}{σ:St}{H:Hp}{s:Shared}
theorem Inv.grown{T:Addr}{ps more:Array Value}{h':Heap}{tk:Tok}(I:Inv X pins σ H s)(hT:H T=some (.D0 ps))(ext:Heap.ExtBut T s.heap h')(new:h'.get? T=some (tabObj (ps++more))) :
  Inv X pins σ (upd H T (.D0 (ps++more))) { s with heap:=h',toks:=tk }:=by
 have ne:∀b,H b=none->b≠T:=λ b e z=>by rw[z,hT] at e;cases e
 have nx:∀b u,H b=some u->(∀q,u≠.D0 q)->b≠T:=λ b u e hu z=>by rw[z,hT] at e;cases e;exact hu _ rfl
 refine I.step (g':=s.gens) (d':=s.drawn) (ch:=[]) (λ _ z=>nomatch z) (λ b o _ _ _ e n=>ext b o (ne b n) e) (λ b o _ _ _ e n=>⟨o.slots,ext b o (ne b n) e⟩) (λ b o _ e n=>by rw[je (ne b n)];exact n) (λ b o _ e=>?_)
  (λ b xs e=>by rw[je (nx b _ e λ _ z=>by cases z)];exact e) (λ b o u e=>by rw[je (nx b _ e λ _ z=>by cases z)];exact e) (λ b q e=>?_) (λ m hm=>hm.extBut ext (ne _ I.free)) (λ b o e=>?_) I.bare
 ·by_cases z:b=T
  ·exact⟨_,by rw[z];exact new⟩
  ·exact⟨o,ext b o z e⟩
 ·by_cases z:b=T
  ·subst z;rw[hT] at e
   cases e;exact⟨more,jb⟩
  ·exact⟨#[],by rw[je z,e];simp⟩
 ·by_cases z:b=T
  ·subst z;rw[jb] at e
   cases e;exact new
  ·rw[je z] at e;refine (I.hok b o e).stay (λ c v hc q=>ext c v (λ y=>?_) q) (λ c q=>by rw[je (nx c _ q λ _ y=>by cases y)];exact q) λ c xs q=>by rw[je (nx c _ q λ _ y=>by cases y)];exact q
   rcases hc with hc | hc
   ·exact z (hc.symm.trans y)
   ·rw[y,hT] at hc;cases hc
theorem MP{E:Value->Shared->Prop}{Q:Value->Shared->Prop}{params:Arguments}{body:Expr}{scope:Scope}{pos:Pos}{c T:Addr}(I:Inv X pins σ H s)(hcode:X.env.code=.ref c)(C:CodeHd X.base c T)(hT:H T=some (.D0 #[]))(hB:∀T,X.base.get? T=none->X.base.BuiltinsAt X.mg T)
  (hcl:∀y∈scope.names,y.2=.free->∃c,X.env.cells.lookup y.1=some c) (hdef:defaultsOf params X.env=([],[]))
  (h:∀(p c':Addr) (pm ctv:Value) (s2:Shared) (H2:Hp),s2.heap.get? p=some (kla_obj "<lambda>" (X.env.qual ++ "<lambda>") params body scope (jY X.env.cells scope.names []) pm c' ctv)->s2.heap.CodeRec (.ref c') (X.env.qual ++ "<lambda>") ->
   (∀b o,s.heap.get? b=some o->b≠T->s2.heap.get? b=some o)->Inv X pins σ H2 s2->(∀b,b≠T->H2 b=H b)->(∃more,H2 T=some (.D0 more))->Q (.ref p) s2) :
  wpAny (model X.prog X.w) X.A (eval (.Lambda params body scope pos) X.env) Q E s:=by
 have hP:s.heap.get? T=some (tabObj #[]):=I.hok T _ hT
 have bT:X.base.get? T=none:=by
  cases e:X.base.get? T with
  |none=>rfl
  |some o=>rw[(I.bs T o e).2] at hT;cases hT
 have hgP:mainGlobals≠T:=λ z=>by
  obtain⟨o,es,ep,e,_⟩:=I.mod.glob;rw[z,bT] at e
  cases e
 have ZZ:s.heap.BuiltinsAt X.mg T:=by
  obtain⟨bm,o,b1,b2,b3,b4,b5,b6,b7,b8⟩:=hB T bT;exact⟨bm,o,b1,b2,b3,b4,I.bk _ _ b5,b6,b7,b8⟩
 refine PySem.W.kla_eval hdef (PySem.W.kla_makeFunction (mg:=X.mg) (ps:=#[]) (AA hcl) I.ok.glob (I.mod.glob.keeps I.bk) hcode (C.keeps I.bk) hP trivial rfl hgP ZZ λ c' ctv h' tk ext hge hlt Se tab=>?_)
 have push:∀{b o} (q:Obj),h'.get? b=some o->(h'.push q).get? b=some o:=λ q e=>Heap.get?_push_of_some _ e
 refine h h'.objs.size c' _ ctv _ (upd H T (.D0 (#[] ++ #[rawInt pos.line,rawInt pos.col,.ref c']))) (Heap.get?_push_size _ rfl) ?_ (λ b o e z=>push _ (ext b o z e)) (I.grown (more:=#[rawInt pos.line,rawInt pos.col,.ref c']) hT (λ b o z e=>push _ (ext b o z e)) (push _ tab)) (λ b z=>je z) ⟨_,jb⟩
 obtain⟨c2,oc,vs,tq,e1,e2,e3,e4⟩:=Se
 exact⟨c2,oc,vs,tq,e1,push _ e2,e3,e4⟩
theorem lookup_some{α β:Type}[BEq α][LawfulBEq α]:∀{l:List (α×β)}{x:α}{c:β},(x,c)∈l->∃d,l.lookup x=some d
 |[],_,_,h=>by simp at h
 | (y,d)::r,x,c,h=>by
  rw[cC]
  cases e:x==y with
  |true=>exact⟨d,rfl⟩
  |false=>
   rcases aB.mp h with z | z
   ·cases z;simp at e
   ·exact lookup_some z
theorem uC{cells:List (Str×Addr)}{names:List (Str×NameKind)}(hcl:∀y∈names,y.2=.free->∃c,cells.lookup y.1=some c){x:Str}{c:Addr}(h:(jY cells names []).lookup x=some c):cells.lookup x=some c:=by
 rcases oU (aQ h) with z | ⟨z,e⟩
 ·simp at z
 ·obtain⟨d,hd⟩:=hcl _ z rfl
  have hd:cells.lookup x=some d:=hd;rw[hd] at e;rw[hd,e];rfl
theorem UH.of{scope:Scope}{vs:List V}{h':Heap}(I:Inv X pins (vs.map some) H s)(hk:scope.kind=.function)(hc:∀x∈scope.names,x.2≠.cell)(hcl:∀y∈scope.names,y.2=.free->∃c,X.env.cells.lookup y.1=some c)
  (hfree:∀x∈X.N,scope.names.lookup x=some .free) (hnl:∀x∈X.N,X.env.kindOf x=some .cell) (keep:∀b o,s.heap.get? b=some o->h'.get? b=some o):UH scope (jY X.env.cells scope.names []) H h' X.N vs:=by
 have ck:∀c v,s.heap.IsCell c v->h'.IsCell c v:=λ c v ⟨o,ho,hd⟩=>⟨o,keep _ _ ho,hd⟩
 refine⟨hk,hc,λ x y c a b=>I.ok.inj x y c (uC hcl a) (uC hcl b),λ x e=>?_,λ x c e=>?_,?_,λ i x v e1 e2=>?_⟩
 ·exact lookup_some (oV (aQ e))
 ·obtain⟨v,z⟩:=I.cell x c (uC hcl e)
  exact⟨⟨v,ck _ _ z⟩,I.tZ x c (uC hcl e)⟩
 ·have:=I.len;rw[ah] at this;exact this
 ·have hx:=au e1
  refine⟨hfree x hx,?_⟩;obtain⟨m,hn,hl⟩:=I.loc;have Wm:OE X.env.scope x:=.inr (.inl (hnl x hx));obtain⟨u,r,lk⟩:=hl i x v e1 (by rw[aj,e2];rfl) Wm
  rcases lk with ⟨k,_⟩ | ⟨_,c,e,z⟩
  ·rw[hnl x hx] at k;cases k
  ·obtain⟨d,hd⟩:=lookup_some (oV (cells:=X.env.cells) (acc:=[]) (aQ (hfree x hx)));have h2:=uC hcl hd;rw[e] at h2
   cases h2;exact⟨u,c,r,hd,ck _ _ z⟩
theorem Po{M:Model}{A:Around}{E:Value->Shared->Prop}{env:Env}{e:Expr}{pos:Pos}{Q:List Value->Shared->Prop}{s:Shared}(h:wpAny M A (eval e env) (λ v s1=>Q [v] s1) E s)(hs:starEach [e] env=[(false,eval e env)]:=by rfl) :
  wpAny M A (spliced (backTo pos (starEach [e] env))) Q E s:=by
 rw[hs]
 show wpAny M A (spliced ((false,eval e env)::backTo pos [])) Q E s
 exact Calls.spliced_cons (lQ h λ v s1 q=>Calls.spliced_nil q)
end
end L2
end
noncomputable section
namespace L2
open PySem PySem.Spec PyProof.Rows
open PySem.W (tabObj CodeHd ReadsAllW ReadsW WData)
structure Sf(P:Program)(w:World)(K:ai)(mg:Str->Option Value)(s:Shared)(l T:Addr)(ns:List Int)(base:Heap)(H:Hp):Prop where
 env:yM P w K mg base callerA [] s H
 QD:K.In base
 txt:jE K H l (ns.map V.int)
 tab:H T=some (.D0 #[])
 Tt:∀b o,s.heap.get? b=some o->H b=none->base.get? b=some o
 only:∀b,H b=none\/(b=T)\/∃o xs,H b=some (.Lp o (.lst xs))/\b=l
theorem WU{P:Program}{w:World}{K:ai}{mg mb:Str->Option Value}{s:Shared}{l T:Addr}{vs:List Value}{ns:List Int}
  (KX:K.In s.heap) (hns:s.heap.Ns mainGlobals mg) (hb:s.heap.Ns builtinsNs mb) (Z0:∀x:Str,x≠"__name__"->mb x=bootBuiltins x) (hlim:s.heap.NoLimit) (hg:s.gens = #[])
  (ha:s.heap.get? l=some { cls:=.type "list",data:=.seq vs.toArray }) (hi:IntsAre vs ns) (hl:ns.length<=sizeLine) (hT:s.heap.get? T=some (tabObj #[])) (Z1:K.lookup T=none) :
  ∃base H,Sf P w K mg s l T ns base H:=by
 have rv:=C7 hi
 have WV:=hi.length
 have Yq:l≠T:=λ z=>by rw[z,hT] at ha;cases ha
 have core:∀H:Hp,jE K H l (ns.map V.int)->yK P w H s.heap->H T=some (.D0 #[])->(∀b,H b=none\/(b=T)\/∃o xs,H b=some (.Lp o (.lst xs))/\b=l)->(H l≠none->K.lookup l=none)->∃base H,Sf P w K mg s l T ns base H:=by
  intro H hS hok tT hA hK;have Tt:∀b o,s.heap.get? b=some o->H b=none->(EZ s.heap H).get? b=some o:=λ b o e n=>Ly e n
  have O0:∀{b:Addr} {o:Obj} {es:Array DictEntry} {ep:Nat},s.heap.get? b=some o->o.data=.dict es ep->H b=none:=λ {b o es ep} e d=>by
   rcases hA b with z | z | ⟨_,_,_,z⟩
   ·exact z
   ·rw[z,hT] at e;cases e;cases d
   ·rw[z,ha] at e;cases e;cases d
  have WW:∀{b:Addr} {m:Str->Option Value},s.heap.Ns b m->(EZ s.heap H).Ns b m:=λ {b m} ⟨o,es,ep,e,d,r⟩=>⟨o,es,ep,Tt _ _ e (O0 e d),d,r⟩
  have Yr:K.In (EZ s.heap H):=λ b o e=>Tt b o (KX b o e) (by
   rcases hA b with z | z | ⟨o',xs,q,z⟩
   ·exact z
   ·rw[z,Z1] at e;cases e
   ·rw[z] at e q;rw[hK (by rw[q];simp)] at e;cases e)
  have hM:Mod K mg (EZ s.heap H):=⟨Yr,WW hns,⟨mb,WW hb,Z0⟩,let ⟨mc,h1,h2⟩:=hlim;⟨mc,WW h1,h2⟩⟩
  exact⟨_,H,⟨rfl,hM,λ b o e=>OB e,gS (JB _ _),trivial,λ b hb=>absurd (show b∈([]:List Addr) from hb) (by simp),hok,.of_eq hg⟩,Yr,hS,tT,Tt,hA⟩
 cases hk:K.lookup l with
 |some o=>
  have e:=KX l o hk;rw[ha] at e
  cases e;refine core (upd (λ _=>none) T (.D0 #[])) (.inr ⟨_,vs.toArray,_,hk,rfl,rfl,rfl,by rw[aC,WV];exact hl,by simpa using rv⟩) (λ b u z=>?_) jb (λ b=>?_) λ z=>absurd (by rw[je Yq]) z
  ·by_cases hb:b=T
   ·subst hb;rw[jb] at z
    cases z;exact hT
   ·rw[je hb] at z;cases z
  ·by_cases hb:b=T
   ·exact .inr (.inl hb)
   ·exact .inl (by rw[je hb])
 |none=>
  refine core (upd (upd (λ _=>none) T (.D0 #[])) l (.Lp { cls:=.type "list",data:=.seq vs.toArray } (.lst (ns.map V.int)))) (.inl (.inr ⟨{ cls:=.type "list",data:=.seq vs.toArray },jb⟩)) (λ b u z=>?_) (by rw[je Yq.symm];exact jb) (λ b=>?_) λ _=>hk
  ·by_cases hb:b=l
   ·subst hb;rw[jb] at z
    cases z;exact⟨ha,by rw[ah];exact hl,vs,_,rv,ha⟩
   ·rw[je hb] at z
    by_cases hb2:b=T
    ·subst hb2;rw[jb] at z
     cases z;exact hT
    ·rw[je hb2] at z;cases z
  ·by_cases hb:b=l
   ·exact .inr (.inr ⟨_,_,by rw[hb];exact jb,hb⟩)
   ·by_cases hb2:b=T
    ·exact .inr (.inl hb2)
    ·exact .inl (by rw[je hb,je hb2])
theorem AK{cl:Str->Option Addr}{h:Heap}:∀{its:List Value}{zs:List Int},Vals (zs.map V.int) its->ReadsAllW [] cl h its (zs.map WData.int) []
 |_,[],r=>by cases r;exact .nil
 |_,z::zs,r=>by
  cases r with
  |cons a b=>
   obtain⟨t,rfl⟩:=a;exact ReadsAllW.cons (as:=[]) (bs:=[]) (.int z t) (AK b)
theorem Kq{r:PySem.W.OpenSpec}{P:Program}{w:World}{K:ai}{mg:Str->Option Value}{s s':Shared}{l T c:Addr}{ns zs:List Int}{base:Heap}{H:Hp}{cl:Str->Option Addr}{mean:ExcName->Option Value}{args:List WData}{u:Value}
  (L:Sf P w K mg s l T ns base H) (hT:s.heap.TableAt c T #[]) (hc:CE [] P w H s (λ v H'=>∃p,v=.ref p/\H' p=some (.lst (zs.map V.int))) u s') (post:r.claim.post args (.list (zs.map .int)) args=true) :
  PySem.W.GoodWG r.claim cl mean args s (.ok (.ret u)) s':=by
 obtain⟨v,H',os,bare,un,hok,rv,p,rfl,hp⟩:=hc
 obtain rfl:u=Value.ref p:=rv
 obtain⟨z,its,n,r1,e⟩:=hok p _ hp
 have UJ:∀b o,s.heap.get? b=some o->H b=none->s'.heap.get? b=some o:=λ b o e n=>un.keep b o e n (by intro z;exact absurd (show b∈([]:List Addr) from z) (by simp)) (by simp)
 have old:∀b o,s.heap.get? b=some o->b≠T->s'.heap.get? b=some o:=λ b o e hb=>by
  rcases L.only b with q | q | ⟨ob,xs,q,_⟩
  ·exact UJ b o e q
  ·exact absurd q hb
  ·have z2:=un.Co b ob _ q;obtain⟨e1,_⟩:=L.env.hok b _ q;obtain⟨e2,_⟩:=hok b _ z2;rw[e] at e1;cases e1;exact e2
 obtain⟨more,hm⟩:=un.Cp T #[] L.tab
 have Ys:s'.heap.get? T=some { cls:=.none,data:=.fields (#[]++more) }:=hok T _ hm
 have Z2:s.heap.get? T=some { cls:=.none,data:=.fields #[] }:=L.env.hok T _ L.tab
 refine⟨.inl ⟨.ref p,_,[p],rfl,PySem.W.osNone,ReadsW.list e rfl rfl (by rw[List.toList_toArray];exact AK r1),post,λ z=>absurd (show false=true from z) aN⟩,⟨λ b o e=>?_,λ b o e=>?_⟩,os,bare⟩
 ·by_cases hb:b=T
  ·subst hb;rw[Z2] at e
   cases e;exact .inr (.inl ⟨hT.isCodeTable,rfl,#[],more,rfl,Ys⟩)
  ·exact .inl (old b o e hb)
 ·by_cases hb:b=T
  ·subst hb;exact⟨_,Ys⟩
  ·exact⟨o,old b o e hb⟩
end L2
end
noncomputable section
namespace L2
open PySem PySem.Spec PyProof.Rows
section
variable{K:ai}{a b:Addr}{xs ys:List V}{g:TG}
theorem G9{tt:TT}{te:TE}{vs:List Nat}{σ:St}{H1:Hp}{D:Addr}{Qd:Hp->Prop}(hlen:xs.length=ys.length)(Pv:Nat->Hp->Prop)(h0:Pv 0 (upd H1 D (.lst [])))(hl:∀i H,i<=xs.length->Pv i H->jE K H a xs/\jE K H b ys)
  (hs:∀i x y H T,xs[i]? = some x->ys[i]? = some y->H T=none->Pv i H->g (.ref T) (wipe σ vs) (upd H T (.tup [x,y])) λ σ2 H2=>wipe σ2 vs=wipe σ vs/\tt σ2 H2 λ c H3=>
   if c=true then te σ2 H3 λ z H4=>∃acc,H4 D=some (.lst acc)/\acc.length<sizeLine/\Pv (i+1) (upd H4 D (.lst (acc++[z]))) else Pv (i+1) H3) (hd:∀H,Pv xs.length H->Qd H) :
  ∃W:Nat->Nat->Hp->Prop,(∃m,W 0 m (upd H1 D (.lst [])))/\∀i m H,W i m H ->
   ((QS K a b).stop i H/\Qd H)\/((QS K a b).go i H/\∃Nx:Hp->Prop,(∀H',Nx H'->∃m',m'<m/\W (i+1) m' H')/\∀x H',(QS K a b).LI i H x H'->g x (wipe σ vs) H' λ σ2 H2=>wipe σ2 vs=wipe σ vs/\tt σ2 H2 λ c H3=>
    if c=true then te σ2 H3 λ z H4=>∃acc,H4 D=some (.lst acc)/\acc.length<sizeLine/\Nx (upd H4 D (.lst (acc++[z]))) else Nx H3):=by
 refine⟨λ i m H=>m=xs.length-i/\i<=xs.length/\Pv i H,⟨xs.length,by simp,aZ _,h0⟩,?_⟩
 rintro i m H ⟨rfl,hi,p⟩
 obtain⟨q1,q2⟩:=hl i H hi p
 by_cases hlt:i<xs.length
 ·have Sg:i<ys.length:=by omega
  refine .inr ⟨⟨xs,ys,xs[i],ys[i],q1,q2,by simp[hlt],by simp[Sg]⟩,Pv (i+1),λ H' p'=>⟨xs.length-(i+1),by omega,rfl,hlt,p'⟩,λ v H' yy=>?_⟩;obtain⟨T,x,y,rfl,hT,rfl,e1,e2⟩:=yy;exact hs i x y H T (e1 xs q1) (e2 ys q2) hT p
 ·obtain rfl:i=xs.length:=by omega
  exact .inl ⟨⟨xs,ys,q1,q2,.inl (aq _)⟩,hd H p⟩
theorem Pq{tt:TT}{te:TE}{vs:List Nat}{σ:St}{H1:Hp}{D:Addr}{Qd:Hp->Prop}(Pv:Nat->Hp->Prop)(h0:Pv 0 (upd H1 D (.lst [])))(hl:∀i H,i<=xs.length->Pv i H->jE K H a xs)
  (hs:∀i x H T,xs[i]? = some x->H T=none->Pv i H->g (.ref T) (wipe σ vs) (upd H T (.tup [.int (i:Nat),x])) λ σ2 H2=>wipe σ2 vs=wipe σ vs/\tt σ2 H2 λ c H3=>
   if c=true then te σ2 H3 λ z H4=>∃acc,H4 D=some (.lst acc)/\acc.length<sizeLine/\Pv (i+1) (upd H4 D (.lst (acc++[z]))) else Pv (i+1) H3) (hd:∀H,Pv xs.length H->Qd H) :
  ∃W:Nat->Nat->Hp->Prop,(∃m,W 0 m (upd H1 D (.lst [])))/\∀i m H,W i m H ->
   ((QR K a).stop i H/\Qd H)\/((QR K a).go i H/\∃Nx:Hp->Prop,(∀H',Nx H'->∃m',m'<m/\W (i+1) m' H')/\∀x H',(QR K a).LI i H x H'->g x (wipe σ vs) H' λ σ2 H2=>wipe σ2 vs=wipe σ vs/\tt σ2 H2 λ c H3=>
    if c=true then te σ2 H3 λ z H4=>∃acc,H4 D=some (.lst acc)/\acc.length<sizeLine/\Nx (upd H4 D (.lst (acc++[z]))) else Nx H3):=by
 refine⟨λ i m H=>m=xs.length-i/\i<=xs.length/\Pv i H,⟨xs.length,by simp,aZ _,h0⟩,?_⟩
 rintro i m H ⟨rfl,hi,p⟩
 have q1:=hl i H hi p
 by_cases hlt:i<xs.length
 ·refine .inr ⟨⟨xs,xs[i],q1,by simp[hlt]⟩,Pv (i+1),λ H' p'=>⟨xs.length-(i+1),by omega,rfl,hlt,p'⟩,λ v H' yy=>?_⟩
  obtain⟨T,x,rfl,hT,rfl,e1⟩:=yy;exact hs i x H T (e1 xs q1) hT p
 ·obtain rfl:i=xs.length:=by omega
  exact .inl ⟨⟨xs,q1,aq _⟩,hd H p⟩
theorem Pr{tb:TS}{Ds:Ends}{σ:St}{H:Hp}(hlen:xs.length=ys.length)(Pv:Nat->St->Hp->Prop)(h0:Pv 0 σ H)(hl:∀i σ H,i<=xs.length->Pv i σ H->jE K H a xs/\jE K H b ys)
  (hs:∀i x y σ H T,xs[i]? = some x->ys[i]? = some y->H T=none->Pv i σ H->g (.ref T) σ (upd H T (.tup [x,y])) λ σ2 H2=>tb { Ds with nx:=Pv (i+1),ct:=Pv (i+1),bk:=Ds.nx } σ2 H2) (hd:∀σ H,Pv xs.length σ H->Ds.nx σ H) :
  ∃W:Nat->Nat->St->Hp->Prop,(∃m,W 0 m σ H)/\∀i m σ H,W i m σ H ->
   ((QS K a b).stop i H/\Ds.nx σ H)\/((QS K a b).go i H/\∃N:St->Hp->Prop,(∀σ' H',N σ' H'->∃m',m'<m/\W (i+1) m' σ' H')/\∀x H',(QS K a b).LI i H x H'->g x σ H' λ σ2 H2=>tb { Ds with nx:=N,ct:=N,bk:=Ds.nx } σ2 H2):=by
 refine⟨λ i m σ H=>m=xs.length-i/\i<=xs.length/\Pv i σ H,⟨xs.length,by simp,aZ _,h0⟩,?_⟩
 rintro i m σ H ⟨rfl,hi,p⟩
 obtain⟨q1,q2⟩:=hl i σ H hi p
 by_cases hlt:i<xs.length
 ·have Sg:i<ys.length:=by omega
  refine .inr ⟨⟨xs,ys,xs[i],ys[i],q1,q2,by simp[hlt],by simp[Sg]⟩,Pv (i+1),λ σ' H' p'=>⟨xs.length-(i+1),by omega,rfl,hlt,p'⟩,λ v H' yy=>?_⟩;obtain⟨T,x,y,rfl,hT,rfl,e1,e2⟩:=yy;exact hs i x y σ H T (e1 xs q1) (e2 ys q2) hT p
 ·obtain rfl:i=xs.length:=by omega
  exact .inl ⟨⟨xs,ys,q1,q2,.inl (aq _)⟩,hd σ H p⟩
theorem xM{tb:TS}{Ds:Ends}{σ:St}{H:Hp}(Pv:Nat->St->Hp->Prop)(h0:Pv 0 σ H)(hl:∀i σ H,i<=xs.length->Pv i σ H->jE K H a xs)
  (hs:∀i x σ H T,xs[i]? = some x->H T=none->Pv i σ H->g (.ref T) σ (upd H T (.tup [.int (i:Nat),x])) λ σ2 H2=>tb { Ds with nx:=Pv (i+1),ct:=Pv (i+1),bk:=Ds.nx } σ2 H2) (hd:∀σ H,Pv xs.length σ H->Ds.nx σ H) :
  ∃W:Nat->Nat->St->Hp->Prop,(∃m,W 0 m σ H)/\∀i m σ H,W i m σ H ->
   ((QR K a).stop i H/\Ds.nx σ H)\/((QR K a).go i H/\∃N:St->Hp->Prop,(∀σ' H',N σ' H'->∃m',m'<m/\W (i+1) m' σ' H')/\∀x H',(QR K a).LI i H x H'->g x σ H' λ σ2 H2=>tb { Ds with nx:=N,ct:=N,bk:=Ds.nx } σ2 H2):=by
 refine⟨λ i m σ H=>m=xs.length-i/\i<=xs.length/\Pv i σ H,⟨xs.length,by simp,aZ _,h0⟩,?_⟩
 rintro i m σ H ⟨rfl,hi,p⟩
 have q1:=hl i σ H hi p
 by_cases hlt:i<xs.length
 ·refine .inr ⟨⟨xs,xs[i],q1,by simp[hlt]⟩,Pv (i+1),λ σ' H' p'=>⟨xs.length-(i+1),by omega,rfl,hlt,p'⟩,λ v H' yy=>?_⟩
  obtain⟨T,x,rfl,hT,rfl,e1⟩:=yy;exact hs i x σ H T (e1 xs q1) hT p
 ·obtain rfl:i=xs.length:=by omega
  exact .inl ⟨⟨xs,q1,aq _⟩,hd σ H p⟩
end
end L2
end
noncomputable section
namespace L2
open PySem PySem.Spec PyProof.Rows
section
variable{X:Cx}
def zT(K:ai)(i j:Nat):TG:=TZ K 2 (LH (CV i) (LH (CV j) TY))
theorem tF(K:ai){i j:Nat}{x y:Str}{k:Nat}{pos p1 p2:Pos}(hc:X.calm=true)(hN:X.N.Nodup)(hi:X.N[i]? = some x)(hj:X.N[j]? = some y)(hx:Loc X.env.scope x)(hy:Loc X.env.scope y)
  (hf:X.fn x=true\/X.env.scope.names.lookup x=some .local:=by first | exact .inl rfl | exact .inr rfl | assumption) (hf2:X.fn y=true\/X.env.scope.names.lookup y=some .local:=by first | exact .inl rfl | exact .inr rfl | assumption) (eK:X.K=K:=by rfl) :
  PG X (.Tuple [.Name x p1,.Name y p2] k pos) (zT K i j):=
 eK ▸ Rw hc (E1 (j0 hN hi hx hf) (E1 (j0 hN hj hy hf2) OL))
theorem zT.at{K:ai}{i j:Nat}{T:Addr}{a b:V}{σ:St}{H:Hp}{Q:St->Hp->Prop}(hT:H T=some (.tup [a,b]))(h:Q ((σ.set i (some a)).set j (some b)) H):zT K i j (.ref T) σ H Q:=
 ⟨T,[a,b],rfl,.inl (.inl hT),rfl,a,[b],rfl,b,[],rfl,rfl,h⟩
theorem Em(K:ai){a:Expr}{ta:TE}(ha:PE X a ta)(he:∀whole,isTrue a X.env whole=(do let v <-whole;standAt a.pos;holding [v] (truthy v)):=by intro _;rfl)(eK:X.K=K:=by rfl) :
  PT X a (λ σ H Q=>ta σ H λ x H'=>∃k,OR K x H' k/\Q k H'):=eK ▸ LR ha he
theorem Iz:vB X (binaryOp .Mult) (rI IntMulOk λ i j=>.int (i*j)):=RD λ _ _ _ _ _ _ _ hc q=>mul_int q hc
theorem QW{a b:Int}{m n:Nat}(ha:a.natAbs<2^m)(hb:b.natAbs<2^n)(h:m+n<=134217728):IntMulOk a b:=by
 refine IntMulOk.of_le (m:=m) (n:=n) ?_ ?_ h
 ·exact intBits_le ha
 ·exact intBits_le hb
theorem FL(hN:X.base.NoSeer)(ht:X.prog.given.tree=none)(hst:X.stack=X.env::X.outer)(hg:X.env.scope.isGenerator=false)(hc:X.env.scope.isCoroutine=false)(hd:X.A.depth+Builtin.pylongFrames<recursionLimit) :
  vB X (binaryOp .FloorDiv) (rI (λ _ j=>0<j) λ i j=>.int (i/j)):=by
 intro pins s σ H x y v u Q I rx ry h
 obtain⟨i,j,rfl,rfl,hj,q⟩:=h
 obtain⟨t,rfl⟩:=rx
 obtain⟨t',rfl⟩:=ry
 have h1:(0:Int)<j:=hj
 exact floordiv_int (by omega) (by rw[cO i (by omega)];exact⟨.int (i/j),H,I.tok _,⟨_,rfl⟩,q⟩) (.inr (PylongRoom.of I.nolimit hd (SeerAt.of (hN.keeps I.bk) ht (by rw[I.ok.frames,hst]) hg hc I.ok.blt I.ok.glob)))
end
end L2
end
noncomputable section
namespace L2
open PySem PySem.Spec PyProof.Rows
theorem Pu:typeLookup (.type "list_reverseiterator") "__len__" = pure none:=by
 rw[typeLookup_type,builtinLookup_eq_fast]
 kernel_rfl
theorem MQ:typeLookup (.type "list_reverseiterator") "__length_hint__" = pure (some (.builtin "list_reverseiterator.__length_hint__")):=by
 rw[typeLookup_type,builtinLookup_eq_fast]
 kernel_rfl
section
variable{prog:Program}{w:World}{A:Around}{E:Value->Shared->Prop}{s:Shared}
theorem MR{I l:Addr}{i:Int}{Q:Bool->Shared->Prop}(x:s.heap.IsRevIter I l i)(h:Q false s):wpAny (model prog w) A (Builtin.List.listLengthHint (.ref I)) Q E s:=by
 unfold Builtin.List.listLengthHint
 refine wpAny_bind (wpAny_specialOf x.typeIs Pu ?_)
 show wpAny _ A (specialOf (Value.ref I) (Str.ofString "__length_hint__") >>= _) _ _ _
 refine wpAny_bind (wpAny_specialOf x.typeIs MQ ?_)
 generalize hid:("list_reverseiterator.__length_hint__":String)=Z3
 wp_delta
 rw[show splitId Z3=some ("list_reverseiterator","__length_hint__") by subst hid;decide +kernel]
 subst hid
 refine wpAny_bind (wpAny_isInstance (b:=true) x.typeIs (by rw[isSubtype_type];kernel_rfl) ?_)
 exact wpAny_pure h
theorem MT{I l:Addr}{items:Array Value}{Q:Value->Shared->Prop}(hh:A.handled=none)(x:s.heap.IsRevIter I l ((items.size:Int)-1))(hl:s.heap.IsList l items)(hne:l≠I)(hn:items.size<=sizeLine)
  (hQ:∀h' tk acc c,(∀b o,b≠I->s.heap.get? b=some o->h'.get? b=some o)->h'.get? s.heap.objs.size=some { cls:=.type "list",dict:=none,data:=.seq acc c,slots:=#[] } ->
   ItemsOf (λ i v=>items[items.size-1-i]? = some v) acc items.size->Q (.ref s.heap.objs.size) { s with heap:=h',toks:=tk }) :
  wpAny (model prog w) A (call (.type "list") [.ref I]) Q E s:=by
 refine callType_codes (Q₁:=λ ob s₁=>ob=.ref s.heap.objs.size/\s₁ = { s with heap:=s.heap.push { cls:=.type "list",data:=.seq #[] } }) F.called_list (F.typeCall_list_1 _) F.entry_list_init (code_list_new _ ⟨rfl,rfl⟩) ?_
 rintro ob s₁ ⟨rfl,rfl⟩
 have hS:(s.heap.push { cls:=.type "list",data:=.seq #[] }).get? s.heap.objs.size=some { cls:=.type "list",data:=.seq #[] }:=Heap.get?_push_size _ rfl
 refine⟨⟨_,hS,rfl⟩,F.args_list_init_2 _ _,?_⟩
 generalize hs:s.heap.objs.size=S at *
 have hIS:I<S:=by obtain⟨o,ho,_⟩:=x;rw[<-hs];exact Heap.lt_size ho
 have hlS:l<S:=by obtain⟨o,ho,_⟩:=hl;rw[<-hs];exact Heap.lt_size ho
 show wpAny _ _ (Builtin.List.listItems (.ref S) >>= λ old=>Builtin.List.listUpdate (.ref S) (λ _=>#[]) >>= λ _=>letGo old.toList.reverse >>= λ _=>Builtin.List.listExtendWith (.ref S) (.ref I) .none) _ _ _
 refine wpAny_bind ?_
 unfold Builtin.List.listItems
 refine wpAny_bind (wpAny_seqItems hS rfl (wpAny_pure ?_))
 refine wpAny_bind (m:=updateSeq S (λ _=>#[])) (wpAny_updateSeq hS rfl ?_)
 have WK:=Heap.get?_update_self (Obj.mapSeq (λ _=>(#[]:Array Value))) hS rfl
 generalize Z4:(s.heap.push { cls:=.type "list",data:=.seq #[] }).update S (Obj.mapSeq λ _=>(#[]:Array Value))=h2 at *
 have WX:∀b o,b≠S->s.heap.get? b=some o->h2.get? b=some o:=λ b o hb e=>by
  rw[<-Z4,Heap.get?_update_other _ _ (Ne.symm hb)];exact Heap.get?_push_of_some _ e
 have x2:h2.IsRevIter I l ((items.size:Int)-1):=x.at λ o e=>WX I o (aV hIS) e
 have hl2:h2.IsList l items:=hl.at λ o e=>WX l o (aV hlS) e
 refine wpAny_bind (wpAny_letGo ?_)
 unfold Builtin.List.listExtendWith
 refine wpAny_bind (wpAny_typeOf (T:="list_reverseiterator") (Heap.IsRevIter.typeIs (s:={ s with heap:=h2 }) x2) ?_)
 have d1:Builtin.List.listSameRef (.ref S) (.ref I)=false:=by simp[Builtin.List.listSameRef,fi hIS]
 rw[if_neg (by rw[d1];decide)]
 refine wpAny_bind (wpAny_pyIter_revIter (s:={ s with heap:=h2 }) x2 ?_)
 refine wpAny_bind (wpAny_holding (MR (s:={ s with heap:=h2 }) x2 ?_))
 rw[if_neg (by decide)]
 have W:=(Walks.listRev (prog:=prog) (w:=w) (A:=A.in1.in1) hh I l hne items).toS
 have hSf:S ∉ [I,l]:=λ z=>by
  rcases aB.mp z with e | z
  ·exact fi hIS e
  ·exact fi hlS (List.mem_singleton.mp z)
 refine wpAny_pure ⟨plainId_quiet F.plain_extend_loop _,codeAny_extend_loopS W hn S hSf .none items.size 0 _ #[] _ rfl (aZ _) ⟨aZ _,by simpa using x2,hl2⟩ WK (ItemsOf.nil _) λ s' acc c hm hS' hacc=>?_⟩
 rw[Moved.eq_with hm]
 refine⟨rfl,hQ s'.heap s'.toks acc c (λ b o hb e=>?_) hS' hacc⟩
 have bS:b≠S:=by rw[<-hs];exact aV (Heap.lt_size e)
 exact hm.heap b o (by simp[bS,hb]) (WX b o bS e)
end
section
variable{X:Cx}
def UK(K:ai)(t:TE):TE:=λ σ H Q=>t σ H λ v H1=>∃a xs,v=.ref a/\jE K H1 a xs/\∀D,H1 D=none->Q (.ref D) (upd H1 D (.lst xs.reverse))
theorem Hg{e:Expr}{te:TE}{p p2 pos pos2:Pos}(hc:X.calm=true)(hg:Gl X "list")(hm:X.mg "list" = none)(Z5:Gl X "reversed")(hm2:X.mg "reversed" = none)(he:PE X e te)
  (s1:starEach [.Call (.Name "reversed" p2) [e] [] pos2] X.env=[(false,eval (.Call (.Name "reversed" p2) [e] [] pos2) X.env)]:=by rfl) (s2:starEach [e] X.env=[(false,eval e X.env)]:=by rfl) :
  PE X (.Call (.Name "list" p) [.Call (.Name "reversed" p2) [e] [] pos2] [] pos) (UK X.K te):=by
 intro pins s σ H Q I h
 refine Call_ (wL I hg hm (show bootBuiltins "list" = some (.type "list") by decide +kernel) (PyProof.Rows.callWith_type1 ?_ s1 rfl))
 rw[s1]
 refine Calls.spliced_cons (lQ (Q:=λ v s'=>∃(a it:Addr) (xs:List V) (its:List Value) (H1:Hp) (s0:Shared),v=.ref it/\it=s0.heap.objs.size/\Inv X pins σ H1 s0/\jE X.K H1 a xs/\Vals xs its/\s0.heap.IsList a its.toArray/\s' = { s0 with heap:=s0.heap.push (revObj a ((its.toArray.size:Int)-1)) }/\(∀D,H1 D=none->Q (.ref D) (upd H1 D (.lst xs.reverse)))/\xs.length<=sizeLine) ?_ ?_)
 ·refine Call_ (wL I Z5 hm2 AD (PyProof.Rows.callWith_type1 ?_ s2 rfl))
  rw[s2];refine Calls.spliced_cons (lQ (he pins s σ H _ I h) λ u s0 ⟨x,H1,I1,r1,a,xs,ex,hq,q⟩=>?_);subst ex
  cases r1;obtain⟨its,rv,p',hz⟩:=I1.list hq;refine Calls.spliced_nil ?_;exact call_reversed_list p'.isList ⟨a,_,xs,its,H1,s0,rfl,rfl,I1,hq,rv,p'.isList,rfl,q,hz⟩
 ·rintro v s' ⟨a,it,xs,its,H1,s0,rfl,rfl,I1,hq,rv,hl,rfl,q,hz⟩
  refine Calls.spliced_nil ?_;have hla:a<s0.heap.objs.size:=by obtain⟨o,ho,_⟩:=hl;exact Heap.lt_size ho
  have hsz:its.toArray.size<=sizeLine:=by rw[aC,<-rv.length];exact hz
  refine MT (l:=a) (items:=its.toArray) (I1.ok.hd hc) ⟨_,Heap.get?_push_size _ rfl,rfl,rfl⟩ (hl.at λ o e=>Heap.get?_push_of_some _ e) (aV hla) hsz λ h' tk acc c k e hit=>?_
  have kk:∀b u,s0.heap.get? b=some u->h'.get? b=some u:=λ b u q1=>k b u (aV (Heap.lt_size q1)) (Heap.get?_push_of_some _ q1)
  have ea:acc=its.reverse.toArray:=by
   refine Array.ext (by rw[hit.1];simp) λ i h1 h2=>?_
   have Ye:i<its.length:=by have:=hit.1;simp at this;omega
   have q1:=hit.2 i _ (bw h1);dsimp only at q1;rw[aC] at q1;have q2:its.toArray[its.length-1-i]? = some its[its.length-1-i]:=by rw[List.getElem?_toArray];exact af (by omega)
   rw[q2] at q1;have q3:=aS q1;rw[<-q3];simp
  have vr:Vals xs.reverse its.reverse:=rv.reverse;have big:s0.heap.objs.size<=(s0.heap.push (revObj a ((its.toArray.size:Int)-1))).objs.size:=by simp[Heap.push]
  refine⟨.ref _,upd H1 _ (.lst xs.reverse),I1.laid (t':=tk) (a:=(s0.heap.push (revObj a ((its.toArray.size:Int)-1))).objs.size) kk big ⟨by rw[List.length_reverse];exact hz,its.reverse,c,vr,?_⟩,rfl,q _ (I1.hok.fresh big)⟩;rw[e,ea]
end
end L2
end
noncomputable section
namespace L2
open PySem PySem.W PySem.Calls PyProof.Rows
theorem Kr{tb:String->Option Builtin}{p:Program}{w:World}{n₀:Nat}{ann:Option Value}{env:Env}{q:Pos}{n N:Nat}{s s' r:Shared}{l:List Stmt}{c c':Code}{pos p':Pos}{f:Flow}
  (h:segRun tb p w n₀ ann 1 n s (piecesOf l env c pos [topFrame q])=some (f,s',c',p')) (k:topRun tb p w n₀ ann N s' ⟨doneF f,c',p',[topFrame q]⟩=some r):topRun tb p w n₀ ann (n+N) s (restOf l env c pos [topFrame q])=some r:=by
 obtain⟨a,ha,hN⟩:=seg_top (res:=id) (K':=doneF) (H':=leaveH env) (B:=[topFrame q]) rfl n s (piecesOf l env c pos [topFrame q])
  ⟨(execs l env).wrap doneF (leaveH env) id id,c,pos,[topFrame q]⟩ _ _ _ _ ⟨rfl,rfl,.inl ⟨rfl,rfl,_,rfl,rfl⟩⟩ h
 obtain rfl:a=f:=ha
 exact hN N r k
def Ks(p:Program)(w:World)(m₀:Nat)(ann:Option Value)(M Mf:Nat)(S:SharedT)(b:List Stmt)(env:Env)(pos fp:Pos):Option Shared:=
 (segRunT treeTable p w m₀ ann 1 M S (piecesOf b env (.body b env) pos [topFrame fp])).bind λ x=>topRun treeTable p w m₀ ann Mf x.2.1.abs ⟨doneF x.1,x.2.2.1,x.2.2.2,[topFrame fp]⟩
theorem Kv{p q:Program}{loose:List Str}{Xt:Shared->Bool}{α:Type}{Yf:Shared->α}{Ya:World->α}{N n0 kb M Mf:Nat}{H₀:Params->Heap}{gs:Array GenState}{d₀:Drawn}{k₀ m₀:Nat}{ann:Option Value}{Sb:Params->OsState->SharedT}
  {b:List Stmt} {env:Env} {pos pos' fp:Pos}
  (open_:∀w:World,(fencedOpening treeTable p w N).map (λ s=>(s.heap,s.gens,s.drawn,s.toks))=some (H₀ w.params,gs,d₀,k₀))
  (size:∀w:World,((H₀ w.params).isNs mainGlobals&&gs.size==0,(H₀ w.params).objs.size,(H₀ w.params).nsMap mainGlobals "__annotations__")=(true,m₀,ann))
  (pre:∀w:World,(λ os=>(topGo treeTable p w m₀ ann n0 ⟨H₀ w.params,gs,d₀,k₀,os⟩ (topStub p)).map (·.2))=λ _=>some ⟨denote treeTable (.body b env),.body b env,pos,[topFrame fp]⟩)
  (Cu:∀w:World,(λ os=>(topGo treeTable p w m₀ ann n0 ⟨H₀ w.params,gs,d₀,k₀,os⟩ (topStub p)).bind λ x=>segRun treeTable p w m₀ ann 1 kb x.1 (blockOf b env (.body b env) pos [topFrame fp]))=λ os=>some (.next,(Sb w.params os).abs,.body b env,pos'))
  (m1:∀w:World,(λ os=>(Ks p w m₀ ann M Mf (Sb w.params os) b env pos' fp).map λ s=>(staticsOk (importedModules p.main.body) (H₀ w.params) s.heap&&namesBound p s.heap&&gensDone s&&laidKept (H₀ w.params) s.heap,s.heap.bltView,tabsOk q s,pinSeenD q (drecsOf q) s,Yf s))=λ _=>some (true,bltViewBooted,true,pinGoodD (drecsOf q),Ya w))
  (m2:∀w:World,(λ os=>(Ks p w m₀ ann M Mf (Sb w.params os) b env pos' fp).map λ s=>seen ((recsOf q).map (·.name)) (ownsOf q) [] { s with gens:=#[] })=λ _=>some (expectedOf q))
  (m3:∀w:World,(λ os=>(Ks p w m₀ ann M Mf (Sb w.params os) b env pos' fp).map λ s=>s.heap.keysOk (looseW q loose) ((recsOf q).map (·.name)) ((litsOf q).map (·.1)) ((clssOf q (looseW q loose)).map (·.name))&&s.heap.accountedOkI (importedModules p.main.body))=λ _=>some true)
  (m4:∀w:World,(λ os=>(Ks p w m₀ ann M Mf (Sb w.params os) b env pos' fp).map λ s=>s.heap.isNs mainGlobals&&s.heap.isNs builtinsNs&&tablesOk q s.heap&&Xt s&&(s.gens.size==0))=λ _=>some true)
  (m5:∀w:World,(λ os=>(Ks p w m₀ ann M Mf (Sb w.params os) b env pos' fp).map λ s=>(plainSeenE q (looseW q loose) s,plainSeenD q loose s,wideSeen q s,clsSeenW q loose s))=λ _=>some (plainGoodE q (looseW q loose),plainGoodD q loose,wideGood q,clsGoodW q loose))
  (le:Nat.ble (n0+(kb+(M+Mf))) N=true):LeftO p q loose Xt Yf Ya N:=λ w=>by
 obtain⟨⟨h,gs',d,k,os⟩,e,e'⟩:=dm.mp (open_ w)
 obtain⟨rfl,rfl,rfl,rfl⟩:h=H₀ w.params/\gs'=gs/\d=d₀/\k=k₀:=by simpa using e'
 obtain⟨z1,z2,z3⟩:_/\_/\_:=by simpa only[Prod.mk.injEq] using size w
 obtain⟨s₁,m0,l0⟩:=dm.mp (congrFun (m1 w) os)
 obtain⟨l1,lb,lt,lp,l3⟩:_/\_/\_/\_/\_:=by simpa only[Prod.mk.injEq] using l0
 have x2:seen ((recsOf q).map (·.name)) (ownsOf q) [] { s₁ with gens:=#[] } = expectedOf q:=by
  have:=congrFun (m2 w) os;rw[m0] at this;exact aS this
 have x3:(s₁.heap.keysOk (looseW q loose) ((recsOf q).map (·.name)) ((litsOf q).map (·.1)) ((clssOf q (looseW q loose)).map (·.name))&&s₁.heap.accountedOkI (importedModules p.main.body))=true:=by
  have:=congrFun (m3 w) os;rw[m0] at this;exact aS this
 have x4:(s₁.heap.isNs mainGlobals&&s₁.heap.isNs builtinsNs&&tablesOk q s₁.heap&&Xt s₁&&(s₁.gens.size==0))=true:=by
  have:=congrFun (m4 w) os;rw[m0] at this;exact aS this
 have x5:(plainSeenE q (looseW q loose) s₁,plainSeenD q loose s₁,wideSeen q s₁,clsSeenW q loose s₁)=(plainGoodE q (looseW q loose),plainGoodD q loose,wideGood q,clsGoodW q loose):=by
  have:=congrFun (m5 w) os;rw[m0] at this;exact aS this
 have l2:openSeen q loose (importedModules p.main.body) Xt true s₁ = openGood q loose:=by
  unfold openSeen openGood;rw[x2,lb,lt,lp];refine iB rfl (iB rfl (iB ?_ (iB rfl (iB rfl x5))));simp only[aR] at x3 x4 ⊢
  exact⟨⟨⟨⟨⟨x3,x4.1.1.1.1⟩,x4.1.1.1.2⟩,x4.1.1.2⟩,x4.1.2⟩,x4.2⟩
 obtain⟨⟨f,sT,c',p'⟩,y1,y3⟩:=Option.bind_eq_some_iff.mp m0
 obtain⟨⟨sa,ta⟩,a1,a2⟩:=dm.mp (congrFun (pre w) os)
 have b1:=congrFun (Cu w) os
 rw[a1] at b1
 have b2:segRun treeTable p w m₀ ann 1 kb sa (blockOf b env (.body b env) pos [topFrame fp])=some (.next,(Sb w.params os).abs,.body b env,pos'):=b1
 obtain rfl:ta=⟨denote treeTable (.body b env),.body b env,pos,[topFrame fp]⟩:=a2
 have r1:=Kr (segRun_of y1) y3
 have r2:=piece_block b2 r1
 have r3:=go_top a1 r2
 have r:=topRun_mono (N-(n0+(kb+(M+Mf)))) _ _ _ _ r3
 rw[show n0+(kb+(M+Mf))+(N-(n0+(kb+(M+Mf))))=N by have:=Nat.le_of_ble_eq_true le;omega] at r
 have t:topFrom treeTable p w N ⟨H₀ w.params,gs',d,k,os⟩=some s₁:=by
  unfold topFrom;dsimp only;rw[z1,z2,z3,r];show (match staticsOk (importedModules p.main.body) (H₀ w.params) s₁.heap&&namesBound p s₁.heap&&gensDone s₁&&laidKept (H₀ w.params) s₁.heap with | true=>_ | false=>_)=_;rw[l1]
 unfold openEnds
 rw[e]
 show (topFrom treeTable p w N _).map _=_
 rw[t]
 exact congrArg some (iB l2 l3)
end L2
end
noncomputable section
namespace L2
open PySem PySem.Spec PyProof.Rows
section
variable{X:Cx}
def UL(_ j:Int):Prop:=0<j/\j.natAbs<2^1000
theorem MU:vB X (binaryOp .FloorDiv) (rI UL λ i j=>.int (i.fdiv j)):=RD λ i j _ _ _ _ _ hc q=>by
 have h1:(0:Int)<j:=hc.1
 refine floordiv_int (by omega) q (.inl (PyProof.noPylong_of_log2 ?_))
 have h0:j.natAbs≠0:=by omega
 have:=(Nat.log2_lt h0).mpr hc.2
 omega
def UM(K:ai):V->V->Hp->VK->Prop:=λ x y H Q=>∃(p:Addr) (xs:List V) (i:Nat) (v:V),x=.ref p/\y=.int (i:Int)/\jE K H p xs/\xs[i]? = some v/\Q v H
theorem MV:T4 X (UM X.K):=by
 intro pins s σ H x y v u Q I rx ry h
 obtain⟨p,xs,i,z,rfl,rfl,hq,he,q⟩:=h
 cases rx
 obtain⟨t,rfl⟩:=ry
 obtain⟨its,r,pl,hz⟩:=I.list hq
 obtain⟨w,ew,rw'⟩:=r.get he
 have hi:i<xs.length:=(ao.mp he).1
 refine wpAny_getItem_list pl.isList (by omega) ?_ ?_ ⟨z,H,I,rw',q⟩
 ·rw[sizeLine_eq] at hz
  omega
 ·rw[bP]
  simpa using ew
theorem ints_get:∀{ns:List Int}{us:List Value},IntsAre us ns->∀{i:Nat}{v:Value},us[i]? = some v->∃t,v=.int (ns.getD i 0) t
 |_,_,.nil,i,v,h=>by cases h
 |_,_,.cons n t h,0,v,e=>by cases e;exact⟨t,rfl⟩
 |_,_,.cons n t h,i+1,v,e=>ints_get h (i:=i) e
theorem Hh{prog:Program}{w:World}{A:Around}{ns:List Int}{its:List Value}(e:IntsAre its ns) :
  TruthOf prog w A (λ i v=>its.toArray[i]? = some v) (λ i=>(ns.map λ n=>(n != 0)).getD i false):=λ i v s Q E hv hq=>by
 have hv':its[i]? = some v:=by simpa using hv
 obtain⟨t,rfl⟩:=ints_get e hv'
 have hi:i<ns.length:=by
  have:=(ao.mp hv').1;rw[<-e.length];exact this
 have hq':Q ((ns.map λ n=>(n != 0)).getD i false) s:=hq
 have hg:(ns.map λ n=>(n != 0)).getD i false=(ns.getD i 0 != 0):=by
  rw[aa,aj,af hi,aa,af hi];rfl
 rw[hg] at hq'
 exact iN hq'
def UN(K:ai):List V->Hp->VK->Prop:=λ vs H Q=>∃(a:Addr) (ns:List Int),vs=[V.ref a]/\jE K H a (ns.map V.int)/\Q (.bl ((ns.map λ n=>(n != 0)).any id)) H
theorem Pw(hc:X.calm=true):uv X (.builtin "any") (UN X.K):=by
 intro pins s σ H vs us Q I r h
 obtain⟨a,ns,rfl,hs,q⟩:=h
 obtain⟨its,rv,hl,_⟩:=I.list hs
 rw[Vals.JK r]
 have hb:=rv.ints
 refine call_any_walk (Fg hl.isList λ s₂ e2 st hne=>?_)
 subst e2
 refine⟨_,_,_,_,_,_,_,rfl,Walks.list (A:=X.A.in1) (I.ok.hd hc) _ a hne its.toArray,st,Hh hb,λ h' tk hk=>?_⟩
 refine⟨.bl _,H,I.kept λ b o eo=>hk b o (λ hmem=>?_) (Heap.get?_push_of_some _ eo),?_,q⟩
 ·rcases aB.mp hmem with e1 | hmem
  ·exact absurd (e1 ▸ Heap.lt_size eo) (bJ _)
  ·cases hmem
 ·show Value.bool _=Value.bool _
  rw[<-any_range,aC,hb.length,ah]
end
end L2
end
noncomputable section
namespace Rd
open Ra61
def skip:Bool->B->B
 |_,[]=>[]
 |false,c::r=>if c<=32 then skip false r else if c=35 then skip true r else c::r
 |true,c::r=>if c=10 then skip false r else skip true r
def here(b:B):Nat:=b.headD 256
def passes(m:Nat)(b:B):Bool×B:=if here (skip false b)=m then (true,(skip false b).tail) else (false,skip false b)
def jP(b:B):Option (B×B):=
 let c:=skip false b
 if isLetter (here c)=true then
  let w:=c.takeWhile isWord
  if w.length<=16 then some (w,c.drop w.length) else none
 else none
def jW(b:B):Option (Nat×B):=
 let c:=skip false b
 let d:=c.takeWhile isDigit
 if 1<=d.length/\d.length<=7 then if value d<=1000000 then some (value d,c.drop d.length) else none else none
def oW(b:B):Option (Int×B):=
 (some (passes 45 b)).bind λ x=>(jW x.2).bind λ n=>if n.1<=1000 then some (if x.1=true then -(n.1:Int) else (n.1:Int),n.2) else none
def nj(b:B):Option ((B×Nat)×B):=
 (jP b).bind λ x=>(some (passes 47 x.2)).bind λ y=>
  (if y.1=true then jW y.2 else some (1,y.2)).bind λ n=>if 1<=n.1/\n.1<=1000 then some ((x.1,n.1),n.2) else none
def mF:Nat->B->Option (List (B×Nat)×B)
 |0,_=>none
 |n+1,b=>(some (passes 44 b)).bind λ x=>
  if x.1=true then (nj x.2).bind λ w=>(mF n w.2).map λ r=>(w.1::r.1,r.2) else some ([],x.2)
def kR(b:B):Option (RawChoice×B):=
 (jP b).bind λ x=>(oW x.2).bind λ g=>(some (passes 58 g.2)).bind λ u=>
  if u.1=true then (nj u.2).bind λ w=>(mF (w.2.length+1) w.2).bind λ r=>(some (passes 59 r.2)).bind λ v=>
   if v.1=true then if ((w.1::r.1).map λ w=>w.1).Nodup then some (⟨x.1,g.1,w.1::r.1⟩,v.2) else none else none
  else none
def kD:Nat->B->Option (List RawChoice×B)
 |0,_=>none
 |n+1,b=>(some (passes 125 b)).bind λ x=>
  if x.1=true then some ([],x.2) else (kR x.2).bind λ c=>(kD n c.2).map λ r=>(c.1::r.1,r.2)
def readState(b:B):Option (RawState×B):=
 (jP b).bind λ k=>if k.1=[115,116,97,116,101] then (jP k.2).bind λ x=>(some (passes 123 x.2)).bind λ u=>
  if u.1=true then (kD (u.2.length+1) u.2).bind λ c=>
   if c.1.length<=8 then if (c.1.map λ c=>c.name).Nodup then some (⟨x.1,c.1⟩,c.2) else none else none
  else none
 else none
def lR:Nat->B->Option (List RawState)
 |0,_=>none
 |n+1,b=>if skip false b=[] then some [] else (readState (skip false b)).bind λ s=>(lR n s.2).map λ r=>s.1::r
def placeOf(names:List B)(x:B):Nat:=(names.findIdx? λ y=>y==x).getD 0
def placed(raw:List RawState):Net:=
 let names:=raw.map λ s=>s.name
 raw.map λ s=>⟨s.name,s.choices.map λ c=>⟨c.name,c.gain,c.ways.map λ w=>(placeOf names w.1,w.2)⟩⟩
def ku(b:B):Option Net:=
 (lR (b.length+1) b).bind λ raw=>
  if 1<=raw.length/\raw.length<=16 then
   if (raw.map λ s=>s.name).Nodup then
    if raw.all λ s=>s.choices.all λ c=>c.ways.all λ w=>(raw.map λ s=>s.name).contains w.1 then some (placed raw) else none
   else none
  else none
theorem kE:∀(q:Bool) (b:B),(skip q b).length<=b.length
 |q,[]=>by cases q<;>simp[skip]
 |false,c::r=>by
  unfold skip;split
  ·have:=kE false r;simp;omega
  ·split
   ·have:=kE true r;simp;omega
   ·simp
 |true,c::r=>by
  unfold skip;split
  ·have:=kE false r;simp;omega
  ·have:=kE true r;simp;omega
theorem oX:∀(q:Bool) (b:B),skip q b <:+ b
 |q,[]=>by cases q<;>simp[skip]
 |false,c::r=>by
  unfold skip;split
  ·exact (oX false r).trans (fK c r)
  ·split
   ·exact (oX true r).trans (fK c r)
   ·exact fL _
 |true,c::r=>by
  unfold skip;split
  ·exact (oX false r).trans (fK c r)
  ·exact (oX true r).trans (fK c r)
theorem Dk:∀b:B,skip true b=skip false (b.dropWhile λ x=>x != 10)
 |[]=>by simp[skip]
 |c::r=>by
  by_cases h:c=10
  ·subst h;simp[skip]
  ·rw[bH (by simp[h]),<-Dk r];simp[skip,h]
theorem rR:∀(q:Bool) (b:B),skip false (skip q b)=skip q b
 |q,[]=>by cases q<;>simp[skip]
 |false,c::r=>by
  by_cases h:c<=32
  ·simp[skip,h,rR false r]
  ·by_cases h2:c=35
   ·subst h2;simp[skip,rR true r]
   ·simp[skip,h,h2]
 |true,c::r=>by
  by_cases h:c=10
  ·simp[skip,h,rR false r]
  ·simp[skip,h,rR true r]
theorem yT(q:Bool)(b:B):skip q b=[]\/∃c r,skip q b=c::r/\32<c/\c≠35:=by
 have h:=rR q b
 cases e:skip q b with
 |nil=>exact .inl rfl
 |cons c r=>
  right
  rw[e] at h;refine⟨c,r,rfl,?_,?_⟩
  ·by_cases hc:c<=32
   ·simp[skip,hc] at h
    have:=kE false r;have h2:=congrArg dU h;simp at h2;omega
   ·omega
  ·intro hc;subst hc;simp[skip] at h
   have:=kE true r;have h2:=congrArg dU h;simp at h2;omega
theorem dropWhile_len(p:Nat->Bool)(r:B):(r.dropWhile p).length<=r.length:=(dM p).length_le
theorem oY:∀(n m:Nat) (b:B),b.length<n->b.length<m->tokens n b=tokens m b
 |0,_,_,h,_=>by omega
 |_,0,_,_,h=>by omega
 |n+1,m+1,[],_,_=>by simp[tokens]
 |n+1,m+1,c::r,h1,h2=>by
  have hl:r.length<n/\r.length<m:=by simp at h1 h2;omega
  have d1:=dropWhile_len (λ x=>x != 10) r;simp only[tokens]
  rw[oY n m r hl.1 hl.2,oY n m (r.dropWhile λ x=>x != 10) (by omega) (by omega)];have w1:isLetter c=true->((c::r).drop ((c::r).takeWhile isWord).length).length<=r.length:=λ h=>by
   rw[bz (by simp[isWord,h])];simp
  have w2:isDigit c=true->((c::r).drop ((c::r).takeWhile isDigit).length).length<=r.length:=λ h=>by
   rw[bz h];simp
  by_cases hL:isLetter c=true
  ·have:=w1 hL;rw[oY n m ((c::r).drop ((c::r).takeWhile isWord).length) (by omega) (by omega)];simp[hL]
  ·by_cases hD:isDigit c=true
   ·have:=w2 hD;rw[oY n m ((c::r).drop ((c::r).takeWhile isDigit).length) (by omega) (by omega)];simp[hL,hD]
   ·simp[hL,hD]
def lex(b:B):Option (List Tok):=tokens (b.length+1) b
theorem Hi{n:Nat}{b:B}(h:b.length<n):tokens n b=lex b:=oY _ _ _ h (aD _)
theorem Dl{c:Nat}{r:B}(h:c<=32):lex (c::r)=lex r:=by
 unfold lex;simp only[tokens,h,if_true,aK]
theorem MX{r:B}:lex (35::r)=lex (r.dropWhile λ x=>x != 10):=by
 unfold lex;simp only[tokens,aK]
 rw[if_neg (by decide),if_pos trivial]
 exact Hi (dQ (dropWhile_len _ _))
theorem uD(n c:Nat)(r:B):tokens (n+1) (c::r)=if c<=32 then tokens n r else if c=35 then tokens n (r.dropWhile λ x=>x != 10)
  else if isLetter c=true then (if 16<((c::r).takeWhile isWord).length then none else (tokens n ((c::r).drop ((c::r).takeWhile isWord).length)).map λ l=>.name ((c::r).takeWhile isWord)::l)
  else if isDigit c=true then (if 7<((c::r).takeWhile isDigit).length\/1000000<value ((c::r).takeWhile isDigit) then none else (tokens n ((c::r).drop ((c::r).takeWhile isDigit).length)).map λ l=>.num (value ((c::r).takeWhile isDigit))::l)
  else if signs.contains c=true then (tokens n r).map λ l=>.sign c::l else none:=rfl
theorem AL{c:Nat}{r:B}(h:isLetter c=true)(h1:32<c)(h2:c≠35) :
  lex (c::r)=if 16<((c::r).takeWhile isWord).length then none else (lex ((c::r).drop ((c::r).takeWhile isWord).length)).map λ l=>.name ((c::r).takeWhile isWord)::l:=by
 have w1:((c::r).drop ((c::r).takeWhile isWord).length).length<r.length+1:=by
  rw[bz (by simp[isWord,h])];simp;omega
 have e:lex (c::r)=tokens (r.length+1+1) (c::r):=rfl
 rw[e,uD,if_neg (by omega),if_neg h2,if_pos h,Hi w1]
theorem Dm{c:Nat}{r:B}(h:isDigit c=true)(h1:32<c)(h2:c≠35)(hL:isLetter c=false) :
  lex (c::r)=if 7<((c::r).takeWhile isDigit).length\/1000000<value ((c::r).takeWhile isDigit) then none else (lex ((c::r).drop ((c::r).takeWhile isDigit).length)).map λ l=>.num (value ((c::r).takeWhile isDigit))::l:=by
 have w1:((c::r).drop ((c::r).takeWhile isDigit).length).length<r.length+1:=by
  rw[bz h];simp;omega
 have e:lex (c::r)=tokens (r.length+1+1) (c::r):=rfl
 rw[e,uD,if_neg (by omega),if_neg h2,if_neg (by simp[hL]),if_pos h,Hi w1]
theorem FN{c:Nat}{r:B}(h1:32<c)(h2:c≠35)(hL:isLetter c=false)(hD:isDigit c=false) :
  lex (c::r)=if signs.contains c=true then (lex r).map λ l=>.sign c::l else none:=by
 have e:lex (c::r)=tokens (r.length+1+1) (c::r):=rfl
 rw[e,uD,if_neg (by omega),if_neg h2,if_neg (by simp[hL]),if_neg (by simp[hD])]
 rfl
theorem uE:∀(q:Bool) (b:B),lex (skip q b)=if q=true then lex (b.dropWhile λ x=>x != 10) else lex b
 |q,[]=>by cases q<;>simp[skip]
 |false,c::r=>by
  by_cases h:c<=32
  ·have:=uE false r;simp only[skip,h,if_true,Dl h];simpa using this
  ·by_cases h2:c=35
   ·subst h2;have:=uE true r;simp only[skip,MX];simpa using this
   ·simp[skip,h,h2]
 |true,c::r=>by
  by_cases h:c=10
  ·subst h;have:=uE false r;have e:lex (10::r)=lex r:=Dl (by decide);simp only[skip,if_true];simpa [e] using this
  ·have:=uE true r;rw[bH (by simp[h])];simp only[skip,h,if_false];simpa using this
theorem oq(b:B):lex (skip false b)=lex b:=by simpa using uE false b
end Rd
end
noncomputable section
namespace Rd
open Ra61
def jt{α:Type}(r:Option (α×B))(p:List Tok->Option (α×List Tok))(b:B):Prop:=
 (∀l,lex b=some l->match r with
  |none=>p l=none
  |some x=>∃l',p l=some (x.1,l')/\lex x.2=some l') /\
 (lex b=none->∀x,r=some x->lex x.2=none)
theorem jt.no{α:Type}{p:List Tok->Option (α×List Tok)}{b:B}(h:∀l,lex b=some l->p l=none):jt none p b:=⟨h,λ _ _ e=>by cases e⟩
theorem jt.bind{α β:Type}{r:Option (α×B)}{p:List Tok->Option (α×List Tok)}{b:B}{S:α×B->Option (β×B)}{q:α->List Tok->Option (β×List Tok)}
  (h:jt r p b) (k:∀x,r=some x->jt (S x) (q x.1) x.2):jt (r.bind S) (λ l=>(p l).bind λ x=>q x.1 x.2) b:=by
 cases r with
 |none=>exact .no λ l hl=>by rw[h.1 l hl];rfl
 |some x=>
  have k:=k x rfl;refine⟨λ l hl=>?_,λ hl y hy=>?_⟩
  ·obtain⟨l',h1,h2⟩:=h.1 l hl;have:=k.1 l' h2;simp only[ak,h1]
   exact this
  ·exact k.2 (h.2 hl x rfl) y hy
theorem jt.bnd{α β:Type}{r:Option (α×B)}{p:List Tok->Option (α×List Tok)}{b:B}{S:α×B->Option (β×B)}{Q:α×List Tok->Option (β×List Tok)}
  (h:jt r p b) (k:∀x,r=some x->jt (S x) (λ l=>Q (x.1,l)) x.2):jt (r.bind S) (λ l=>(p l).bind Q) b:=
 jt.bind (q:=λ x l=>Q (x,l)) h k
theorem jt.congr{α:Type}{r:Option (α×B)}{p q:List Tok->Option (α×List Tok)}{b:B}(h:jt r p b)(e:∀l,lex b=some l->p l=q l):jt r q b:=by
 refine⟨λ l hl=>?_,h.2⟩
 rw[<-e l hl];exact h.1 l hl
theorem jt.pure{α:Type}(v:α)(b:B):jt (some (v,b)) (λ l=>some (v,l)) b:=⟨λ l hl=>⟨l,rfl,hl⟩,λ hl x e=>by cases e;exact hl⟩
theorem jt.guard{α:Type}{c:Prop}[Decidable c]{r:Option (α×B)}{p:List Tok->Option (α×List Tok)}{b:B}(h:c->jt r p b):jt (if c then r else none) (λ l=>if c then p l else none) b:=by
 by_cases hc:c
 ·simp only[hc,if_true];exact h hc
 ·simp only[hc,if_false];exact .no λ _ _=>rfl
theorem jt.ite{α:Type}{c:Prop}[Decidable c]{r r':Option (α×B)}{p p':List Tok->Option (α×List Tok)}{b:B}(h:c->jt r p b)(h':¬c->jt r' p' b):jt (if c then r else r') (λ l=>if c then p l else p' l) b:=by
 by_cases hc:c
 ·simp only[hc,if_true];exact h hc
 ·simp only[hc,if_false];exact h' hc
theorem jt.map{α β:Type}{r:Option (α×B)}{p:List Tok->Option (α×List Tok)}{b:B}{f:α->β}(h:jt r p b):jt (r.map λ x=>(f x.1,x.2)) (λ l=>(p l).map λ x=>(f x.1,x.2)) b:=by
 cases r with
 |none=>exact .no λ l hl=>by rw[h.1 l hl];rfl
 |some x=>exact⟨λ l hl=>let ⟨l',h1,h2⟩:=h.1 l hl;⟨l',by simp only[h1];rfl,h2⟩,λ hl y hy=>by cases hy;exact h.2 hl x rfl⟩
theorem Hj{m:Nat}(h:m∈signs):32<m/\m≠35/\isLetter m=false/\isDigit m=false/\signs.contains m=true/\m≠256:=by
 simp only[signs,aB,dg,or_false] at h
 rcases h with rfl | rfl | rfl | rfl | rfl | rfl | rfl<;>decide
def kO(m:Nat)(l:List Tok):Option (Bool×List Tok):=some (if l.head? = some (.sign m) then (true,l.drop 1) else (false,l))
theorem rS(b:B)(c:Nat)(r:B)(e:Rd.skip false b=c::r)(l:List Tok)(hl:lex b=some l) :
  (isLetter c=true/\((c::r).takeWhile isWord).length<=16/\∃l',l=.name ((c::r).takeWhile isWord)::l'/\lex ((c::r).drop ((c::r).takeWhile isWord).length)=some l') \/
  (isLetter c=false/\isDigit c=true/\((c::r).takeWhile isDigit).length<=7/\value ((c::r).takeWhile isDigit)<=1000000/\∃l',l=.num (value ((c::r).takeWhile isDigit))::l'/\lex ((c::r).drop ((c::r).takeWhile isDigit).length)=some l') \/
  (isLetter c=false/\isDigit c=false/\signs.contains c=true/\∃l',l=.sign c::l'/\lex r=some l'):=by
 obtain⟨h1,h2⟩:32<c/\c≠35:=by
  rcases yT false b with h | ⟨c',r',h,a,b'⟩
  ·rw[e] at h;cases h
  ·rw[e] at h;cases h;exact⟨a,b'⟩
 rw[<-oq,e] at hl
 by_cases hL:isLetter c=true
 ·left
  rw[AL hL h1 h2] at hl
  split at hl
  ·cases hl
  ·cases e2:lex ((c::r).drop ((c::r).takeWhile isWord).length) with
   |none=>rw[e2] at hl;cases hl
   |some l'=>rw[e2] at hl;cases hl;exact⟨hL,by omega,l',rfl,rfl⟩
 ·have hL':isLetter c=false:=by simpa using hL
  right
  by_cases hD:isDigit c=true
  ·left
   rw[Dm hD h1 h2 hL'] at hl
   split at hl
   ·cases hl
   ·cases e2:lex ((c::r).drop ((c::r).takeWhile isDigit).length) with
    |none=>rw[e2] at hl;cases hl
    |some l'=>rw[e2] at hl;cases hl;exact⟨hL',hD,by omega,by omega,l',rfl,rfl⟩
  ·have Yt:isDigit c=false:=by simpa using hD
   right
   rw[FN h1 h2 hL' Yt] at hl
   split at hl
   ·cases e2:lex r with
    |none=>rw[e2] at hl;cases hl
    |some l'=>rw[e2] at hl;cases hl;exact⟨hL',Yt,by assumption,l',rfl,rfl⟩
   ·cases hl
theorem z9{b:B}(e:Rd.skip false b=[]):lex b=some []:=by rw[<-oq,e];rfl
theorem nB{m:Nat}(hm:m∈signs)(b:B):jt (some (passes m b)) (kO m) b:=by
 obtain⟨a1,a2,a3,a4,a5,a6⟩:=Hj hm
 cases e:Rd.skip false b with
 |nil=>
  have hp:passes m b=(false,[]):=by unfold passes;rw[e];simp[here];exact λ h=>absurd h.symm a6
  have hl:=z9 e;rw[hp];refine⟨λ l h=>?_,λ h=>by rw[hl] at h;cases h⟩;rw[hl] at h;cases h;exact⟨[],by simp[kO],rfl⟩
 |cons c r=>
  by_cases hc:c=m
  ·subst hc;have hp:passes c b=(true,r):=by unfold passes;rw[e];simp[here]
   rw[hp];have el:lex b=(lex r).map λ l=>.sign c::l:=by rw[<-oq,e,FN a1 a2 a3 a4,if_pos a5]
   refine⟨λ l h=>?_,λ h x ex=>?_⟩
   ·rw[el] at h
    cases e2:lex r with
    |none=>rw[e2] at h;cases h
    |some l'=>rw[e2] at h;cases h;exact⟨l',by simp[kO],e2⟩
   ·cases ex;rw[el] at h
    cases e2:lex r with
    |none=>rfl
    |some l'=>rw[e2] at h;cases h
  ·have hp:passes m b=(false,c::r):=by unfold passes;rw[e];simp[here,hc]
   rw[hp];have el:lex (c::r)=lex b:=by rw[<-e,oq]
   refine⟨λ l h=>⟨l,?_,by rw[<-h];exact el⟩,λ h x ex=>by cases ex;rw[<-h];exact el⟩;have:l.head?≠some (.sign m):=by
    rcases rS b c r e l h with ⟨_,_,l',rfl,_⟩ | ⟨_,_,_,_,l',rfl,_⟩ | ⟨_,_,_,l',rfl,_⟩
    ·simp
    ·simp
    ·simp;exact hc
   simp[kO,this]
theorem xN(b:B):jt (jP b) name b:=by
 cases e:Rd.skip false b with
 |nil=>
  have hp:jP b=none:=by
   unfold jP;rw[e];rfl
  rw[hp];refine .no λ l h=>?_
  rw[z9 e] at h;cases h;rfl
 |cons c r=>
  by_cases hL:isLetter c=true
  ·obtain⟨h1,h2⟩:32<c/\c≠35:=by
    rcases yT false b with h | ⟨c',r',h,a,b'⟩
    ·rw[e] at h;cases h
    ·rw[e] at h;cases h;exact⟨a,b'⟩
   have el:lex b=if 16<((c::r).takeWhile isWord).length then none else (lex ((c::r).drop ((c::r).takeWhile isWord).length)).map λ l=>.name ((c::r).takeWhile isWord)::l:=by
    rw[<-oq,e,AL hL h1 h2]
   have hp:jP b=if ((c::r).takeWhile isWord).length<=16 then some ((c::r).takeWhile isWord,(c::r).drop ((c::r).takeWhile isWord).length) else none:=by
    unfold jP;rw[e];simp only[here,List.headD_cons,hL,if_true]
   rw[hp]
   by_cases hw:((c::r).takeWhile isWord).length<=16
   ·rw[if_pos hw];rw[if_neg (by omega)] at el;refine⟨λ l h=>?_,λ h x ex=>?_⟩
    ·rw[el] at h
     cases e2:lex ((c::r).drop ((c::r).takeWhile isWord).length) with
     |none=>rw[e2] at h;cases h
     |some l'=>rw[e2] at h;cases h;exact⟨l',rfl,e2⟩
    ·cases ex;rw[el] at h
     cases e2:lex ((c::r).drop ((c::r).takeWhile isWord).length) with
     |none=>rfl
     |some l'=>rw[e2] at h;cases h
   ·rw[if_neg hw];rw[if_pos (by omega)] at el;exact .no λ l h=>by rw[el] at h;cases h
  ·have hp:jP b=none:=by
    unfold jP;rw[e];simp[here,hL]
   rw[hp];refine .no λ l h=>?_
   rcases rS b c r e l h with ⟨h',_⟩ | ⟨_,_,_,_,l',rfl,_⟩ | ⟨_,_,_,l',rfl,_⟩
   ·exact absurd h' hL
   ·rfl
   ·rfl
theorem En{c:Nat}(h:isDigit c=true):isLetter c=false:=by
 simp only[isDigit,isLetter,aR,decide_eq_true_eq] at h ⊢
 simp;omega
theorem AM(b:B):jt (jW b) number b:=by
 cases e:Rd.skip false b with
 |nil=>
  have hp:jW b=none:=by
   unfold jW;rw[e];rfl
  rw[hp];refine .no λ l h=>?_
  rw[z9 e] at h;cases h;rfl
 |cons c r=>
  by_cases hD:isDigit c=true
  ·obtain⟨h1,h2⟩:32<c/\c≠35:=by
    rcases yT false b with h | ⟨c',r',h,a,b'⟩
    ·rw[e] at h;cases h
    ·rw[e] at h;cases h;exact⟨a,b'⟩
   have el:lex b=if 7<((c::r).takeWhile isDigit).length\/1000000<value ((c::r).takeWhile isDigit) then none else (lex ((c::r).drop ((c::r).takeWhile isDigit).length)).map λ l=>.num (value ((c::r).takeWhile isDigit))::l:=by
    rw[<-oq,e,Dm hD h1 h2 (En hD)]
   have h0:1<=((c::r).takeWhile isDigit).length:=by rw[bz hD];simp
   have hp:jW b=if ((c::r).takeWhile isDigit).length<=7 then if value ((c::r).takeWhile isDigit)<=1000000 then some (value ((c::r).takeWhile isDigit),(c::r).drop ((c::r).takeWhile isDigit).length) else none else none:=by
    unfold jW;rw[e];simp only[h0,true_and]
   rw[hp]
   by_cases hw:((c::r).takeWhile isDigit).length<=7/\value ((c::r).takeWhile isDigit)<=1000000
   ·rw[if_pos hw.1,if_pos hw.2];rw[if_neg (by omega)] at el;refine⟨λ l h=>?_,λ h x ex=>?_⟩
    ·rw[el] at h
     cases e2:lex ((c::r).drop ((c::r).takeWhile isDigit).length) with
     |none=>rw[e2] at h;cases h
     |some l'=>rw[e2] at h;cases h;exact⟨l',rfl,e2⟩
    ·cases ex;rw[el] at h
     cases e2:lex ((c::r).drop ((c::r).takeWhile isDigit).length) with
     |none=>rfl
     |some l'=>rw[e2] at h;cases h
   ·rw[if_pos (by omega)] at el;have:(if ((c::r).takeWhile isDigit).length<=7 then if value ((c::r).takeWhile isDigit)<=1000000 then some (value ((c::r).takeWhile isDigit),(c::r).drop ((c::r).takeWhile isDigit).length) else none else none)=none:=by
     split
     ·split
      ·exact absurd ⟨by assumption,by assumption⟩ hw
      ·rfl
     ·rfl
    rw[this];exact .no λ l h=>by rw[el] at h;cases h
  ·have hp:jW b=none:=by
    unfold jW;simp only[e,dX hD];rfl
   rw[hp];refine .no λ l h=>?_
   rcases rS b c r e l h with ⟨_,_,l',rfl,_⟩ | ⟨_,h',_⟩ | ⟨_,_,_,l',rfl,_⟩
   ·rfl
   ·exact absurd h' hD
   ·rfl
theorem jw(m:Nat)(b:B):(passes m b).2.length<=b.length:=by
 unfold passes;have:=kE false b;split<;>simp<;>omega
theorem vE{m:Nat}{b:B}(hm:m≠256)(h:(passes m b).1=true):(passes m b).2.length<b.length:=by
 unfold passes at h ⊢
 have:=kE false b
 split
 ·rename_i e
  cases q:Rd.skip false b with
  |nil=>rw[q] at e;simp[here] at e;exact absurd e.symm hm
  |cons c r=>rw[q] at this;simp at this ⊢;omega
 ·rename_i e;rw[if_neg e] at h;cases h
theorem kF{b:B}{x:B×B}(h:jP b=some x):x.2.length<b.length:=by
 unfold jP at h
 have:=kE false b
 cases q:Rd.skip false b with
 |nil=>rw[q] at h;simp[here,isLetter] at h
 |cons c r=>
  rw[q] at h this;have h:(if isLetter c=true then (if ((c::r).takeWhile isWord).length<=16 then some ((c::r).takeWhile isWord,(c::r).drop ((c::r).takeWhile isWord).length) else none) else none)=some x:=h
  by_cases hL:isLetter c=true
  ·rw[if_pos hL] at h
   by_cases hw:((c::r).takeWhile isWord).length<=16
   ·rw[if_pos hw] at h
    cases h;rw[bz (by simp[isWord,hL])];simp at this ⊢;omega
   ·rw[if_neg hw] at h;cases h
  ·rw[if_neg hL] at h;cases h
theorem vR{b:B}{x:Nat×B}(h:jW b=some x):x.2.length<b.length:=by
 unfold jW at h
 have:=kE false b
 simp only at h
 split at h
 ·rename_i h1
  split at h
  ·cases h;have hl:((Rd.skip false b).takeWhile isDigit).length<=(Rd.skip false b).length:=(List.takeWhile_prefix _).length_le;simp;omega
  ·cases h
 ·cases h
end Rd
end
noncomputable section
namespace Rd
open Ra61
def Dn(l:List Tok):Option (Int×List Tok):=(kO 45 l).bind λ x=>(number x.2).bind λ n=>if n.1<=1000 then some (if x.1=true then -(n.1:Int) else (n.1:Int),n.2) else none
def zU(l:List Tok):Option ((B×Nat)×List Tok):=(name l).bind λ x=>(kO 47 x.2).bind λ y=>(if y.1=true then number y.2 else some (1,y.2)).bind λ n=>if 1<=n.1/\n.1<=1000 then some ((x.1,n.1),n.2) else none
def zq:Nat->List Tok->Option (List (B×Nat)×List Tok)
 |0,_=>none
 |n+1,l=>(kO 44 l).bind λ x=>if x.1=true then (zU x.2).bind λ w=>(zq n w.2).map λ r=>(w.1::r.1,r.2) else some ([],x.2)
def PM(l:List Tok):=zq (l.length+1) l
def qF(l:List Tok):Option (RawChoice×List Tok):=(name l).bind λ x=>(Dn x.2).bind λ g=>(kO 58 g.2).bind λ u=>if u.1=true then (zU u.2).bind λ w=>(PM w.2).bind λ r=>
 (kO 59 r.2).bind λ v=>if v.1=true then if ((w.1::r.1).map λ w=>w.1).Nodup then some (⟨x.1,g.1,w.1::r.1⟩,v.2) else none else none else none
def AN:Nat->List Tok->Option (List RawChoice×List Tok)
 |0,_=>none
 |n+1,l=>(kO 125 l).bind λ x=>if x.1=true then some ([],x.2) else (qF x.2).bind λ c=>(AN n c.2).map λ r=>(c.1::r.1,r.2)
def PC(l:List Tok):=AN (l.length+1) l
def pState(l:List Tok):Option (RawState×List Tok):=(name l).bind λ k=>if k.1=[115,116,97,116,101] then (name k.2).bind λ x=>(kO 123 x.2).bind λ u=>if u.1=true then (PC u.2).bind λ c=>
 if c.1.length<=8 then if (c.1.map λ c=>c.name).Nodup then some (⟨x.1,c.1⟩,c.2) else none else none else none else none
def Eo:Nat->List Tok->Option (List RawState)
 |0,_=>none
 |n+1,l=>if l.isEmpty=true then some [] else (pState l).bind λ s=>(Eo n s.2).map λ r=>s.1::r
theorem qG{l:List Tok}{x:B×List Tok}(h:name l=some x):x.2.length<l.length:=by
 unfold name at h;split at h
 ·cases h;simp
 ·cases h
theorem rT{l:List Tok}{x:Nat×List Tok}(h:number l=some x):x.2.length<l.length:=by
 unfold number at h;split at h
 ·cases h;simp
 ·cases h
theorem nP{m:Nat}{l:List Tok}{x:Bool×List Tok}(h:kO m l=some x):x.2.length<=l.length:=by
 unfold kO at h;cases h;split<;>simp
theorem FO{m:Nat}{l:List Tok}{x:Bool×List Tok}(h:kO m l=some x)(hx:x.1=true):x.2.length<l.length:=by
 unfold kO at h;cases h
 split at hx
 ·rename_i e;rw[if_pos e]
  cases l with
  |nil=>simp at e
  |cons a b=>simp
 ·cases hx
theorem bind_some{α β:Type}{o:Option α}{f:α->Option β}{y:β}(h:o.bind f=some y):∃x,o=some x/\f x=some y:=by
 cases o with
 |none=>cases h
 |some x=>exact⟨x,rfl,h⟩
theorem jl{α:Type}{c:Prop}[Decidable c]{o:Option α}{y:α}(h:(if c then o else none)=some y):c/\o=some y:=by
 by_cases hc:c
 ·rw[if_pos hc] at h;exact⟨hc,h⟩
 ·rw[if_neg hc] at h;cases h
theorem map_some{α β:Type}{o:Option α}{f:α->β}{y:β}(h:o.map f=some y):∃x,o=some x/\y=f x:=by
 cases o with
 |none=>cases h
 |some x=>cases h;exact⟨x,rfl,rfl⟩
theorem MY{l:List Tok}{x}(h:Dn l=some x):x.2.length<l.length:=by
 obtain⟨a,h1,h⟩:=bind_some h
 obtain⟨b,h2,h⟩:=bind_some h
 obtain⟨_,h⟩:=jl h
 cases h
 have:=nP h1;have:=rT h2;simp only;omega
theorem Aa{l:List Tok}{x}(h:zU l=some x):x.2.length<l.length:=by
 obtain⟨a,h1,h⟩:=bind_some h
 obtain⟨b,h2,h⟩:=bind_some h
 obtain⟨c,h3,h⟩:=bind_some h
 obtain⟨_,h⟩:=jl h
 cases h
 have:=qG h1;have:=nP h2
 split at h3
 ·have:=rT h3;simp only;omega
 ·cases h3;simp only;omega
theorem FP:∀{n:Nat}{l:List Tok} {x},zq n l=some x->x.2.length<=l.length
 |0,_,_,h=>by cases h
 |n+1,l,x,h=>by
  obtain⟨a,h1,h⟩:=bind_some h;have:=nP h1
  split at h
  ·obtain⟨b,h2,h⟩:=bind_some h;obtain⟨c,h3,h⟩:=map_some h;subst h;have:=Aa h2;have:=FP h3;simp only;omega
  ·cases h;simp only;omega
theorem AO:∀(n m:Nat) (l:List Tok),l.length<n->l.length<m->zq n l=zq m l
 |0,_,_,h,_=>by omega
 |_,0,_,_,h=>by omega
 |n+1,m+1,l,h1,h2=>by
  simp only[zq]
  cases e:kO 44 l with
  |none=>rfl
  |some x=>
   simp only[ak]
   split
   ·have:=FO e (by assumption)
    cases e2:zU x.2 with
    |none=>rfl
    |some w=>
     have:=Aa e2;simp only[ak]
     rw[AO n m w.2 (by omega) (by omega)]
   ·rfl
theorem Ep(l:List Tok):PM l=(kO 44 l).bind λ x=>if x.1=true then (zU x.2).bind λ w=>(PM w.2).map λ r=>(w.1::r.1,r.2) else some ([],x.2):=by
 conv=>lhs;unfold PM;unfold zq
 cases e:kO 44 l with
 |none=>rfl
 |some x=>
  simp only[ak]
  split
  ·have:=FO e (by assumption)
   cases e2:zU x.2 with
   |none=>rfl
   |some w=>
    have:=Aa e2;simp only[ak]
    rw[show PM w.2=zq l.length w.2 from AO _ _ _ (aD _) (by omega)]
  ·rfl
theorem wX{l:List Tok}{x}(h:qF l=some x):x.2.length<l.length:=by
 obtain⟨a,h1,h⟩:=bind_some h
 obtain⟨b,h2,h⟩:=bind_some h
 obtain⟨c,h3,h⟩:=bind_some h
 obtain⟨_,h⟩:=jl h
 obtain⟨d,h4,h⟩:=bind_some h
 obtain⟨e,h5,h⟩:=bind_some h
 obtain⟨f,h6,h⟩:=bind_some h
 obtain⟨_,h⟩:=jl h
 obtain⟨_,h⟩:=jl h
 cases h
 have:=qG h1;have:=MY h2;have:=nP h3;have:=Aa h4;have:=FP h5;have:=nP h6
 simp only;omega
theorem IA:∀{n:Nat}{l:List Tok} {x},AN n l=some x->x.2.length<=l.length
 |0,_,_,h=>by cases h
 |n+1,l,x,h=>by
  obtain⟨a,h1,h⟩:=bind_some h;have:=nP h1
  split at h
  ·cases h;simp only;omega
  ·obtain⟨b,h2,h⟩:=bind_some h;obtain⟨c,h3,h⟩:=map_some h;subst h;have:=wX h2;have:=IA h3;simp only;omega
theorem yU:∀(n m:Nat) (l:List Tok),l.length<n->l.length<m->AN n l=AN m l
 |0,_,_,h,_=>by omega
 |_,0,_,_,h=>by omega
 |n+1,m+1,l,h1,h2=>by
  simp only[AN]
  cases e:kO 125 l with
  |none=>rfl
  |some x=>
   simp only[ak]
   split
   ·rfl
   ·have:=nP e
    cases e2:qF x.2 with
    |none=>rfl
    |some w=>
     have:=wX e2;simp only[ak]
     rw[yU n m w.2 (by omega) (by omega)]
theorem Px(l:List Tok):PC l=(kO 125 l).bind λ x=>if x.1=true then some ([],x.2) else (qF x.2).bind λ c=>(PC c.2).map λ r=>(c.1::r.1,r.2):=by
 conv=>lhs;unfold PC;unfold AN
 cases e:kO 125 l with
 |none=>rfl
 |some x=>
  simp only[ak]
  split
  ·rfl
  ·have:=nP e
   cases e2:qF x.2 with
   |none=>rfl
   |some w=>
    have:=wX e2;simp only[ak]
    rw[show PC w.2=AN l.length w.2 from yU _ _ _ (aD _) (by omega)]
theorem Dq{l:List Tok}{x}(h:pState l=some x):x.2.length<l.length:=by
 obtain⟨a,h1,h⟩:=bind_some h
 obtain⟨_,h⟩:=jl h
 obtain⟨b,h2,h⟩:=bind_some h
 obtain⟨c,h3,h⟩:=bind_some h
 obtain⟨_,h⟩:=jl h
 obtain⟨d,h4,h⟩:=bind_some h
 obtain⟨_,h⟩:=jl h
 obtain⟨_,h⟩:=jl h
 cases h
 have:=qG h1;have:=qG h2;have:=nP h3;have:=IA h4
 simp only;omega
theorem Dr:∀(n m:Nat) (l:List Tok),l.length<n->l.length<m->Eo n l=Eo m l
 |0,_,_,h,_=>by omega
 |_,0,_,_,h=>by omega
 |n+1,m+1,l,h1,h2=>by
  simp only[Eo]
  split
  ·rfl
  ·cases e2:pState l with
   |none=>rfl
   |some w=>
    have:=Dq e2;simp only[ak]
    rw[Dr n m w.2 (by omega) (by omega)]
theorem MZ(b:B):jt (oW b) Dn b:=by
 refine jt.bnd (nB (m:=45) (by decide) b) λ x _=>?_
 dsimp only
 show jt _ (λ l=>(number l).bind λ n=>if n.1<=1000 then some (if x.1=true then -(n.1:Int) else (n.1:Int),n.2) else none) _
 refine jt.bnd (AM x.2) λ n _=>?_
 dsimp only
 exact jt.guard λ _=>jt.pure _ _
theorem IB(b:B):jt (nj b) zU b:=by
 refine jt.bnd (xN b) λ x _=>?_
 dsimp only
 refine jt.bnd (nB (m:=47) (by decide) x.2) λ y _=>?_
 dsimp only
 refine jt.bnd (jt.ite (λ _=>AM y.2) λ _=>jt.pure _ _) λ n _=>?_
 dsimp only
 exact jt.guard λ _=>jt.pure _ _
theorem qH{b:B}{x}(h:oW b=some x):x.2.length<b.length:=by
 obtain⟨x,h1,h⟩:=bind_some h
 cases h1
 obtain⟨n,h2,h⟩:=bind_some h
 obtain⟨_,h⟩:=jl h
 cases h
 have:=jw 45 b;have:=vR h2;simp only;omega
theorem kT{b:B}{x}(h:nj b=some x):x.2.length<b.length:=by
 obtain⟨a,h1,h⟩:=bind_some h
 obtain⟨y,h2,h⟩:=bind_some h
 cases h2
 obtain⟨c,h3,h⟩:=bind_some h
 obtain⟨_,h⟩:=jl h
 cases h
 have:=kF h1;have:=jw 47 a.2
 split at h3
 ·have:=vR h3;simp only;omega
 ·cases h3;simp only;omega
theorem FQ:∀(n:Nat) (b:B),b.length<n->jt (mF n b) PM b
 |0,b,h=>by omega
 |n+1,b,h=>by
  refine jt.congr (p:=λ l=>_) ?_ λ l _=>(Ep l).symm
  refine jt.bnd (nB (m:=44) (by decide) b) λ x hx=>?_
  dsimp only;refine jt.ite (λ hf=>?_) λ _=>jt.pure _ _
  refine jt.bnd (IB x.2) λ w hw=>?_
  dsimp only;have e:x=passes 44 b:=(aS hx).symm;have:=jw 44 b;have:=kT hw;rw[e] at this;exact (FQ n w.2 (by omega)).map (f:=λ r=>w.1::r)
theorem uF:∀{n:Nat}{b:B} {x},mF n b=some x->x.2.length<=b.length
 |0,_,_,h=>by cases h
 |n+1,b,x,h=>by
  simp only[mF,ak] at h
  have:=jw 44 b
  split at h
  ·obtain⟨w,h2,h⟩:=bind_some h;obtain⟨c,h3,h⟩:=map_some h;subst h;have:=kT h2;have:=uF h3;simp only;omega
  ·cases h;simp only;omega
theorem Hl(b:B):jt (kR b) qF b:=by
 refine jt.bnd (xN b) λ x _=>?_
 dsimp only
 refine jt.bnd (MZ x.2) λ g _=>?_
 dsimp only
 refine jt.bnd (nB (m:=58) (by decide) g.2) λ u _=>?_
 dsimp only
 refine jt.guard λ _=>?_
 refine jt.bnd (IB u.2) λ w _=>?_
 dsimp only
 show jt _ (λ l=>(PM l).bind λ r=>(kO 59 r.2).bind λ v=>if v.1=true then if ((w.1::r.1).map λ w=>w.1).Nodup then some ((⟨x.1,g.1,w.1::r.1⟩:RawChoice),v.2) else none else none) _
 refine jt.bnd (FQ (w.2.length+1) w.2 (aD _)) λ r _=>?_
 dsimp only
 show jt _ (λ l=>(kO 59 l).bind λ v=>if v.1=true then if ((w.1::r.1).map λ w=>w.1).Nodup then some ((⟨x.1,g.1,w.1::r.1⟩:RawChoice),v.2) else none else none) _
 refine jt.bnd (nB (m:=59) (by decide) r.2) λ v _=>?_
 dsimp only
 exact jt.guard λ _=>jt.guard λ _=>jt.pure _ _
theorem lS{b:B}{x}(h:kR b=some x):x.2.length<b.length:=by
 obtain⟨a,h1,h⟩:=bind_some h
 obtain⟨g,h2,h⟩:=bind_some h
 obtain⟨y,h3,h⟩:=bind_some h
 cases h3
 obtain⟨_,h⟩:=jl h
 obtain⟨w,h4,h⟩:=bind_some h
 obtain⟨r,h5,h⟩:=bind_some h
 obtain⟨y,h3,h⟩:=bind_some h
 cases h3
 obtain⟨_,h⟩:=jl h
 obtain⟨_,h⟩:=jl h
 cases h
 have:=kF h1;have:=qH h2;have:=jw 58 g.2;have:=kT h4;have:=uF h5;have:=jw 59 r.2
 simp only;omega
theorem IC:∀(n:Nat) (b:B),b.length<n->jt (kD n b) PC b
 |0,b,h=>by omega
 |n+1,b,h=>by
  refine jt.congr (p:=λ l=>_) ?_ λ l _=>(Px l).symm
  refine jt.bnd (nB (m:=125) (by decide) b) λ x hx=>?_
  dsimp only;refine jt.ite (λ hf=>jt.pure _ _) λ _=>?_
  refine jt.bnd (Hl x.2) λ w hw=>?_
  dsimp only;have e:x=passes 125 b:=(aS hx).symm;have:=jw 125 b;have:=lS hw;rw[e] at this;exact (IC n w.2 (by omega)).map (f:=λ r=>w.1::r)
theorem uG:∀{n:Nat}{b:B} {x},kD n b=some x->x.2.length<=b.length
 |0,_,_,h=>by cases h
 |n+1,b,x,h=>by
  simp only[kD,ak] at h
  have:=jw 125 b
  split at h
  ·cases h;simp only;omega
  ·obtain⟨w,h2,h⟩:=bind_some h;obtain⟨c,h3,h⟩:=map_some h;subst h;have:=lS h2;have:=uG h3;simp only;omega
theorem Kw(b:B):jt (readState b) pState b:=by
 refine jt.bnd (xN b) λ k _=>?_
 dsimp only
 refine jt.guard λ _=>?_
 refine jt.bnd (xN k.2) λ x _=>?_
 dsimp only
 refine jt.bnd (nB (m:=123) (by decide) x.2) λ u _=>?_
 dsimp only
 refine jt.guard λ _=>?_
 refine jt.bnd (IC (u.2.length+1) u.2 (aD _)) λ c _=>?_
 dsimp only
 exact jt.guard λ _=>jt.guard λ _=>jt.pure _ _
theorem l6{b:B}{x}(h:readState b=some x):x.2.length<b.length:=by
 obtain⟨a,h1,h⟩:=bind_some h
 obtain⟨_,h⟩:=jl h
 obtain⟨g,h2,h⟩:=bind_some h
 obtain⟨y,h3,h⟩:=bind_some h
 cases h3
 obtain⟨_,h⟩:=jl h
 obtain⟨c,h4,h⟩:=bind_some h
 obtain⟨_,h⟩:=jl h
 obtain⟨_,h⟩:=jl h
 cases h
 have:=kF h1;have:=kF h2;have:=jw 123 g.2;have:=uG h4
 simp only;omega
theorem AQ:∀(n:Nat) (b:B),b.length<n->lR n b=(lex b).bind λ l=>Eo (l.length+1) l
 |0,b,h=>by omega
 |n+1,b,h=>by
  have hs:=Kw (Rd.skip false b);have hl:=kE false b;simp only[lR]
  cases e:Rd.skip false b with
  |nil=>rw[if_pos rfl,z9 e];rfl
  |cons c r=>
   rw[if_neg (by simp)];rw[e] at hs hl;have el:lex (c::r)=lex b:=by rw[<-e,oq]
   cases er:readState (c::r) with
   |none=>
    rw[er] at hs
    cases hb:lex b with
    |none=>rfl
    |some l=>
     have:=hs.1 l (el.trans hb);have hne:l.isEmpty=false:=by
      rcases rS b c r e l hb with ⟨_,_,l',rfl,_⟩ | ⟨_,_,_,_,l',rfl,_⟩ | ⟨_,_,_,l',rfl,_⟩<;>rfl
     simp only[ak,Eo,hne]
     simp only at this
     rw[this];rfl
   |some x=>
    rw[er] at hs;have hx:=l6 er;have ih:=AQ n x.2 (by omega);simp only[ak]
    rw[ih]
    cases hb:lex b with
    |none=>
     have:=hs.2 (el.trans hb) x rfl;rw[this];rfl
    |some l=>
     obtain⟨l',h1,h2⟩:=hs.1 l (el.trans hb);have hne:l.isEmpty=false:=by
      rcases rS b c r e l hb with ⟨_,_,l',rfl,_⟩ | ⟨_,_,_,_,l',rfl,_⟩ | ⟨_,_,_,l',rfl,_⟩<;>rfl
     have hlt:=Dq h1;simp only[ak,Eo,hne,h2,h1]
     rw[Dr l.length (l'.length+1) l' (by simpa using hlt) (aD _)];rfl
end Rd
end
noncomputable section
namespace Rd
open Ra61
def Ky(w:B×Nat):Bool:=decide (1<=w.2)&&decide (w.2<=1000)
def Kz(c:RawChoice):Bool:=decide (-1000<=c.gain)&&(decide (c.gain<=1000)&&(once (c.ways.map λ w=>w.1)&&c.ways.all Ky))
def Ls(s:RawState):Bool:=once (s.choices.map λ c=>c.name)&&(decide (s.choices.length<=8)&&s.choices.all Kz)
def only'{α β:Type}(ok:α->Bool)(o:Option (α×β)):Option (α×β):=o.bind λ x=>if ok x.1=true then some x else none
theorem Py(l:List Tok):zU l=only' Ky (way l):=by
 unfold zU way only'
 cases name l with
 |none=>rfl
 |some x=>
  simp only[ak,kO]
  by_cases h:x.2.head? = some (.sign 47)
  ·simp only[h,if_true]
   cases number (x.2.drop 1) with
   |none=>rfl
   |some n=>simp[Ky]
  ·simp[h,Ky]
theorem M0(l:List Tok):Dn l=only' (λ g:Int=>decide (-1000<=g)&&decide (g<=1000)) (whole l):=by
 unfold Dn whole only'
 simp only[ak,kO]
 by_cases h:l.head? = some (.sign 45)
 ·simp only[h,if_true]
  cases number (l.drop 1) with
  |none=>rfl
  |some n=>
   simp only[ak,bE]
   by_cases hn:n.1<=1000
   ·rw[if_pos hn,if_pos (by simp;omega)]
   ·rw[if_neg hn,if_neg (by simp;omega)]
 ·simp only[h,if_false]
  cases number l with
  |none=>rfl
  |some n=>
   simp only[ak,bE]
   by_cases hn:n.1<=1000
   ·have hz:(decide (-1000<=(n.1:Int))&&decide ((n.1:Int)<=1000))=true:=by simp only[aR,decide_eq_true_eq];omega
    rw[if_pos hn];simp only[hz,if_true,aJ,if_false]
   ·rw[if_neg hn,if_neg (by simp only[aR,decide_eq_true_eq];omega)]
def UO(l:List Tok):Option (List (B×Nat)×List Tok):=(zU l).bind λ w=>(PM w.2).bind λ r=>(kO 59 r.2).bind λ v=>if v.1=true then some (w.1::r.1,v.2) else none
theorem Sh{l:List Tok}{x}(h:way l=some x):x.2.length<l.length:=by
 obtain⟨a,h1,h⟩:=bind_some h
 have:=qG h1
 split at h
 ·obtain⟨n,h2,h⟩:=map_some h
  subst h;have:=rT h2;simp at this ⊢;omega
 ·cases h;simpa using this
theorem M1:∀(n:Nat) (l:List Tok),l.length<=n->UO l=only' (λ ws:List (B×Nat)=>ws.all Ky) (ways n l)
 |0,l,h=>by
  have:l=[]:=dh.mp (by omega);subst this;rfl
 |n+1,l,h=>by
  unfold UO ways only';rw[Py];unfold only'
  cases e:way l with
  |none=>rfl
  |some w=>
   have hw:=Sh e;simp only[ak]
   by_cases hc:w.2.head? = some (.sign 44)
   ·rw[if_pos hc];have ih:=M1 n (w.2.drop 1) (by simp;omega);unfold UO only' at ih
    by_cases ho:Ky w.1=true
    ·rw[if_pos ho];simp only[ak]
     rw[Ep];simp only[kO,ak,hc,if_true]
     simp only[kO,ak] at ih
     cases e2:zU (w.2.drop 1) with
     |none=>
      rw[e2] at ih;simp only[bI] at ih
      cases e3:ways n (w.2.drop 1) with
      |none=>rfl
      |some y=>
       rw[e3] at ih;simp only[ak] at ih
       simp only[bI,bE,ak,dJ,ho,bZ]
       split
       ·rename_i q;rw[if_pos q] at ih;cases ih
       ·rfl
     |some w'=>
      rw[e2] at ih;simp only[ak] at ih ⊢
      cases e4:PM w'.2 with
      |none=>
       rw[e4] at ih;simp only[bI] at ih
       cases e3:ways n (w.2.drop 1) with
       |none=>rfl
       |some y=>
        rw[e3] at ih;simp only[ak] at ih
        simp only[bI,Option.map_none,bE,ak,dJ,ho,bZ]
        split
        ·rename_i q;rw[if_pos q] at ih;cases ih
        ·rfl
      |some r=>
       rw[e4] at ih;simp only[ak] at ih
       simp only[bE,ak]
       cases e3:ways n (w.2.drop 1) with
       |none=>
        rw[e3] at ih;simp only[bI] at ih
        simp only[Option.map_none,bI]
        split
        ·rename_i q;rw[if_pos q] at ih;cases ih
        ·rfl
       |some y=>
        rw[e3] at ih;simp only[ak] at ih
        simp only[bE,ak,dJ,ho,bZ]
        by_cases q1:r.2.head? = some (.sign 59)
        ·simp only[q1,if_true] at ih ⊢
         by_cases q2:y.1.all Ky=true
         ·simp only[q2,if_true] at ih ⊢
          cases ih;rfl
         ·rw[if_neg q2] at ih;cases ih
        ·simp only[q1,if_false] at ih ⊢
         by_cases q2:y.1.all Ky=true
         ·simp only[q2,if_true] at ih;cases ih
         ·rw[if_neg q2];rfl
    ·rw[if_neg ho];simp only[bI]
     cases e3:ways n (w.2.drop 1) with
     |none=>rfl
     |some y=>simp[ho]
   ·rw[if_neg hc]
    by_cases ho:Ky w.1=true
    ·rw[if_pos ho];simp only[ak]
     rw[Ep];simp only[kO,ak,hc,if_false,sign]
     by_cases q1:w.2.head? = some (.sign 59)
     ·simp[q1,ho]
     ·simp[q1]
    ·rw[if_neg ho];simp only[bI,sign]
     by_cases q1:w.2.head? = some (.sign 59)
     ·simp[q1,ho]
     ·simp[q1]
theorem Ho(l:List Tok):qF l=(name l).bind λ x=>(Dn x.2).bind λ g=>(kO 58 g.2).bind λ u=>if u.1=true then (UO u.2).bind λ w=>if (w.1.map λ w=>w.1).Nodup then some (⟨x.1,g.1,w.1⟩,w.2) else none else none:=by
 unfold qF UO
 congr 1;funext x;congr 1;funext g;congr 1;funext u
 split
 ·cases zU u.2 with
  |none=>rfl
  |some w=>
   simp only[ak]
   cases PM w.2 with
   |none=>rfl
   |some r=>
    simp only[ak,kO]
    by_cases q:r.2.head? = some (.sign 59)
    ·simp only[q,if_true,ak]
    ·simp only[q,if_false,aJ,bI]
 ·rfl
theorem M2{l:List Tok}{x}(h:whole l=some x):x.2.length<l.length:=by
 unfold whole at h
 split at h
 ·obtain⟨n,h2,h⟩:=map_some h
  subst h;have:=rT h2;simp at this ⊢;omega
 ·obtain⟨n,h2,h⟩:=map_some h
  subst h;have:=rT h2;simpa using this
theorem ID:∀(n:Nat) (l:List Tok),AN n l=only' (λ cs:List RawChoice=>cs.all Kz) (choices n l)
 |0,l=>rfl
 |n+1,l=>by
  unfold AN choices;simp only[kO,ak]
  by_cases h:l.head? = some (.sign 125)
  ·simp[h,only']
  ·simp only[h,if_false,aJ]
   rw[Ho]
   cases e1:name l with
   |none=>rfl
   |some x=>
    simp only[ak]
    rw[M0]
    cases e2:whole x.2 with
    |none=>rfl
    |some g=>
     have hl1:=qG e1;have hl2:=M2 e2;simp only[ak,only',sign,kO]
     by_cases a1:(decide (-1000<=g.1)&&decide (g.1<=1000))=true
     ·rw[if_pos a1];simp only[ak]
      by_cases q:g.2.head? = some (.sign 58)
      ·simp only[q,if_true,ak]
       rw[M1 l.length (g.2.drop 1) (by simp;omega)]
       cases e3:ways l.length (g.2.drop 1) with
       |none=>rfl
       |some w=>
        simp only[ak,only']
        by_cases a2:w.1.all Ky=true
        ·rw[if_pos a2];simp only[ak]
         by_cases a3:(w.1.map λ w=>w.1).Nodup
         ·rw[if_pos a3];simp only[ak]
          have hok:Kz ⟨x.1,g.1,w.1⟩=true:=by
           simp only[aR] at a1
           simp only[Kz,once,a1.1,a1.2,a2,a3,decide_true,gI]
          rw[ID n]
          cases e4:choices n w.2 with
          |none=>rfl
          |some r=>
           simp only[bE,ak,dJ,hok,bZ,only']
           split<;>rfl
         ·rw[if_neg a3];have hok:Kz ⟨x.1,g.1,w.1⟩=false:=by simp[Kz,once,a3]
          cases choices n w.2<;>simp[hok]
        ·rw[if_neg a2];have hok:Kz ⟨x.1,g.1,w.1⟩=false:=by
          have:w.1.all Ky=false:=by simpa using a2
          simp[Kz,this]
         cases choices n w.2<;>simp[hok]
      ·simp only[q,if_false,aJ,bI]
     ·rw[if_neg a1];simp only[bI]
      have hok:∀ws,Kz ⟨x.1,g.1,ws⟩=false:=λ ws=>by
       have a1':(decide (-1000<=g.1)&&decide (g.1<=1000))=false:=by simpa only[gM] using a1
       show (decide (-1000<=g.1)&&(decide (g.1<=1000)&&_))=false;rw[<-Bool.and_assoc,a1',Bool.false_and]
      by_cases q:g.2.head? = some (.sign 58)
      ·simp only[q,if_true,ak]
       cases ways l.length (g.2.drop 1) with
       |none=>rfl
       |some w=>cases e5:choices n w.2<;>simp[hok,e5]
      ·simp[q]
theorem Hq(l:List Tok):word "state" l=(name l).bind λ k=>if k.1=[115,116,97,116,101] then some ((),k.2) else none:=by
 have e:ascii "state" = [115,116,97,116,101]:=by decide +kernel
 unfold word
 rw[e]
 cases l with
 |nil=>rfl
 |cons t r=>
  cases t with
  |name x=>by_cases h:x=[115,116,97,116,101]<;>simp[name,h]
  |num n=>simp[name]
  |sign c=>simp[name]
theorem IE:∀(n:Nat) (l:List Tok),Eo n l=(states n l).bind λ x=>if x.all Ls=true then some x else none
 |0,l=>rfl
 |n+1,l=>by
  unfold Eo states
  by_cases h:l.isEmpty=true
  ·simp[h]
  ·simp only[h,if_false,aJ]
   rw[Hq];unfold pState
   cases e1:name l with
   |none=>rfl
   |some k=>
    simp only[ak]
    by_cases hk:k.1=[115,116,97,116,101]
    ·simp only[hk,if_true,ak]
     cases e2:name k.2 with
     |none=>rfl
     |some x=>
      simp only[ak,kO,sign]
      by_cases q:x.2.head? = some (.sign 123)
      ·simp only[q,if_true,ak]
       have a1:=qG e1;have a2:=qG e2;rw[show PC (x.2.drop 1)=AN l.length (x.2.drop 1) from yU _ _ _ (aD _) (by simp;omega),ID]
       cases e3:choices l.length (x.2.drop 1) with
       |none=>rfl
       |some c=>
        simp only[only',ak]
        by_cases b1:c.1.all Kz=true
        ·rw[if_pos b1];simp only[ak]
         by_cases b2:c.1.length<=8
         ·rw[if_pos b2]
          by_cases b3:(c.1.map λ c=>c.name).Nodup
          ·rw[if_pos b3];simp only[ak]
           have hok:Ls ⟨x.1,c.1⟩=true:=by simp only[Ls,once,b1,b2,b3,decide_true,gI]
           rw[IE n]
           cases e4:states n c.2 with
           |none=>rfl
           |some r=>
            simp only[bE,ak,dJ,hok,bZ]
            split<;>rfl
          ·rw[if_neg b3];have hok:Ls ⟨x.1,c.1⟩=false:=by simp[Ls,once,b3]
           cases states n c.2<;>simp[hok]
         ·rw[if_neg b2];have hok:Ls ⟨x.1,c.1⟩=false:=by simp[Ls,b2]
          cases states n c.2<;>simp[hok]
        ·rw[if_neg b1];have hok:Ls ⟨x.1,c.1⟩=false:=by
          have:c.1.all Kz=false:=by simpa using b1
          simp[Ls,this]
         cases states n c.2<;>simp[hok]
      ·simp[q]
    ·simp[hk]
theorem M3(b:B):net b=ku b:=by
 unfold net ku
 rw[AQ _ b (aD _)]
 show ((lex b).bind λ l=>states (l.length+1) l).bind _=_
 cases lex b with
 |none=>rfl
 |some l=>
  simp only[ak]
  rw[IE]
  cases states (l.length+1) l with
  |none=>rfl
  |some raw=>
   simp only[ak]
   by_cases hs:raw.all Ls=true
   ·simp only[hs,if_true,ak]
    have hall:(raw.all λ s=>once (s.choices.map λ c=>c.name)&&(decide (s.choices.length<=CHOICES)&&s.choices.all λ c=>decide (-GAIN<=c.gain)&&(decide (c.gain<=GAIN) &&
      (once (c.ways.map λ w=>w.1)&&c.ways.all λ w=>(raw.map λ s=>s.name).contains w.1&&(decide (1<=w.2)&&decide (w.2<=WEIGHT))))))=(raw.all λ s=>s.choices.all λ c=>c.ways.all λ w=>(raw.map λ s=>s.name).contains w.1):=by
     rw[aT];simp only[bD,Ls,Kz,Ky,aR] at hs ⊢
     constructor
     ·intro h s hm c hc w hw;exact (((h s hm).2.2 c hc).2.2.2 w hw).1
     ·intro h s hm;obtain⟨k1,k2,k3⟩:=hs s hm;refine⟨k1,k2,λ c hc=>?_⟩;obtain⟨j1,j2,j3,j4⟩:=k3 c hc;exact⟨j1,j2,j3,λ w hw=>⟨h s hm c hc w hw,j4 w hw⟩⟩
    rw[hall]
    by_cases c1:1<=raw.length/\raw.length<=16
    ·by_cases c2:(raw.map λ s=>s.name).Nodup
     ·by_cases c3:(raw.all λ s=>s.choices.all λ c=>c.ways.all λ w=>(raw.map λ s=>s.name).contains w.1)=true
      ·rw[if_pos (by simp only[once,c2,c1.1,c3,decide_true,bZ];rw[Bool.and_true];exact decide_eq_true c1.2),if_pos c1,if_pos c2,if_pos c3];rfl
      ·rw[if_neg (by simp only[aR];exact λ z=>c3 z.2.2.2),if_pos c1,if_pos c2,if_neg c3]
     ·rw[if_neg (by simp only[aR,once,decide_eq_true_eq];exact λ z=>c2 z.1),if_pos c1,if_neg c2]
    ·rw[if_neg (by simp only[aR,decide_eq_true_eq];exact λ z=>c1 ⟨z.2.1,z.2.2.1⟩),if_neg c1]
   ·simp only[hs,if_false,bI,aJ]
    rw[if_neg];intro z;apply hs
    simp only[aR] at z
    have z:=z.2.2.2;simp only[bD,Ls,Kz,Ky,aR] at z ⊢
    intro s hm;obtain⟨k1,k2,k3⟩:=z s hm;refine⟨k1,k2,λ c hc=>?_⟩;obtain⟨j1,j2,j3,j4⟩:=k3 c hc;exact⟨j1,j2,j3,λ w hw=>(j4 w hw).2⟩
end Rd
end
noncomputable section
namespace Rd
open Ra61
theorem vS:∀(n m:Nat) (b:B),b.length<n->b.length<m->mF n b=mF m b
 |0,_,_,h,_=>by omega
 |_,0,_,_,h=>by omega
 |n+1,m+1,b,h1,h2=>by
  simp only[mF,ak]
  split
  ·rename_i hx
   cases e2:nj (passes 44 b).2 with
   |none=>rfl
   |some w=>
    have:=jw 44 b;have:=kT e2;simp only[ak]
    rw[vS n m w.2 (by omega) (by omega)]
  ·rfl
def MW(b:B):=mF (b.length+1) b
theorem xO(b:B):MW b=if (passes 44 b).1=true then (nj (passes 44 b).2).bind λ w=>(MW w.2).map λ r=>(w.1::r.1,r.2) else some ([],(passes 44 b).2):=by
 conv=>lhs;unfold MW;unfold mF
 rw[ak]
 split
 ·cases e2:nj (passes 44 b).2 with
  |none=>rfl
  |some w=>
   have:=jw 44 b;have:=kT e2;simp only[ak]
   rw[show MW w.2=mF b.length w.2 from vS _ _ _ (aD _) (by omega)]
 ·rfl
theorem rV:∀(n m:Nat) (b:B),b.length<n->b.length<m->kD n b=kD m b
 |0,_,_,h,_=>by omega
 |_,0,_,_,h=>by omega
 |n+1,m+1,b,h1,h2=>by
  simp only[kD,ak]
  split
  ·rfl
  ·cases e2:kR (passes 125 b).2 with
   |none=>rfl
   |some w=>
    have:=jw 125 b;have:=lS e2;simp only[ak]
    rw[rV n m w.2 (by omega) (by omega)]
def MC(b:B):=kD (b.length+1) b
theorem xP(b:B):MC b=if (passes 125 b).1=true then some ([],(passes 125 b).2) else (kR (passes 125 b).2).bind λ c=>(MC c.2).map λ r=>(c.1::r.1,r.2):=by
 conv=>lhs;unfold MC;unfold kD
 rw[ak]
 split
 ·rfl
 ·cases e2:kR (passes 125 b).2 with
  |none=>rfl
  |some w=>
   have:=jw 125 b;have:=lS e2;simp only[ak]
   rw[show MC w.2=kD b.length w.2 from rV _ _ _ (aD _) (by omega)]
theorem t6:∀(n m:Nat) (b:B),b.length<n->b.length<m->lR n b=lR m b
 |0,_,_,h,_=>by omega
 |_,0,_,_,h=>by omega
 |n+1,m+1,b,h1,h2=>by
  simp only[lR]
  split
  ·rfl
  ·cases e2:readState (Rd.skip false b) with
   |none=>rfl
   |some w=>
    have:=kE false b;have:=l6 e2;simp only[ak]
    rw[t6 n m w.2 (by omega) (by omega)]
def MS(b:B):=lR (b.length+1) b
theorem xQ(b:B):MS b=if Rd.skip false b=[] then some [] else (readState (Rd.skip false b)).bind λ s=>(MS s.2).map λ r=>s.1::r:=by
 conv=>lhs;unfold MS;unfold lR
 split
 ·rfl
 ·cases e2:readState (Rd.skip false b) with
  |none=>rfl
  |some w=>
   have:=kE false b;have:=l6 e2;simp only[ak]
   rw[show MS w.2=lR b.length w.2 from t6 _ _ _ (aD _) (by omega)]
theorem mX(b:B):kR b=(jP b).bind λ x=>(oW x.2).bind λ g=>if (passes 58 g.2).1=true then (nj (passes 58 g.2).2).bind λ w=>(MW w.2).bind λ r=>
   if (passes 59 r.2).1=true then if ((w.1::r.1).map λ w=>w.1).Nodup then some (⟨x.1,g.1,w.1::r.1⟩,(passes 59 r.2).2) else none else none else none:=rfl
theorem nQ(b:B):readState b=(jP b).bind λ k=>if k.1=[115,116,97,116,101] then (jP k.2).bind λ x=>if (passes 123 x.2).1=true then (MC (passes 123 x.2).2).bind λ c=>
   if c.1.length<=8 then if (c.1.map λ c=>c.name).Nodup then some (⟨x.1,c.1⟩,c.2) else none else none else none else none:=rfl
theorem qT(b:B):ku b=(MS b).bind λ raw=>if 1<=raw.length/\raw.length<=16 then (if (raw.map λ s=>s.name).Nodup then (if raw.all λ s=>s.choices.all λ c=>c.ways.all λ w=>(raw.map λ s=>s.name).contains w.1 then some (placed raw) else none) else none) else none:=rfl
theorem M4:∀(n:Nat) (b:B),b.length<n->∀r,MW b=some r->2*r.1.length+r.2.length<=b.length
 |0,b,h,_,_=>by omega
 |n+1,b,h,r,e=>by
  rw[xO] at e;have hp:=jw 44 b
  split at e
  ·rename_i hx
   have hl:=vE (m:=44) (by decide) hx;obtain⟨w,e1,e⟩:=bind_some e;obtain⟨z,e2,rfl⟩:=map_some e;have:=kT e1;have:=M4 n w.2 (by omega) z e2;simp only[aK];omega
  ·cases e;simp;omega
end Rd
end
noncomputable section
namespace Ck
open PySem PySem.Spec PyProof.Rows L2
def top(i:Nat):Stmt:=dG.main.body.getD i (.Pass ⟨0,0,0,0⟩)
abbrev AR:Stmt:=top 24
abbrev wY:Stmt:=top 25
abbrev uH:Stmt:=top 26
abbrev qf:Stmt:=top 27
abbrev tG:Stmt:=top 28
abbrev uI:Stmt:=top 30
abbrev wZ:Stmt:=top 31
abbrev qU:Stmt:=top 33
abbrev tH:Stmt:=top 35
abbrev ou:Stmt:=top 36
abbrev qV:Stmt:=top 37
abbrev qg:Stmt:=top 51
abbrev tK:Stmt:=top 52
abbrev nD:Stmt:=top 53
abbrev xR:Stmt:=top 54
abbrev oA:Stmt:=top 55
abbrev uJ:Stmt:=top 56
abbrev nk:Stmt:=top 57
abbrev Hr:Stmt:=top 58
abbrev yV:Stmt:=top 60
abbrev Er:Stmt:=top 61
abbrev tL:Stmt:=top 63
abbrev qW:Stmt:=top 64
abbrev qh:Stmt:=top 65
abbrev tM:Stmt:=top 66
abbrev qX:Stmt:=top 67
abbrev pG:Stmt:=top 68
abbrev uK:Stmt:=top 69
abbrev AS:Stmt:=top 70
abbrev qY:Stmt:=inClass (top 29) 0
abbrev qZ:Stmt:=inClass (top 29) 1
abbrev mG:Stmt:=inClass (top 29) 2
abbrev mH:Stmt:=inClass (top 29) 3
abbrev pH:Stmt:=inClass (top 29) 4
abbrev pI:Stmt:=inClass (top 29) 5
abbrev nE:Stmt:=inClass (top 29) 6
abbrev mJ:Stmt:=inClass (top 29) 7
abbrev rj:Stmt:=inClass (top 32) 0
abbrev tN:Stmt:=inClass (top 34) 0
abbrev rm:Stmt:=inClass (top 59) 0
abbrev rq:Stmt:=inClass (top 59) 2
abbrev tO:Stmt:=inClass (top 62) 0
abbrev oB:Stmt:=inClass (top 62) 1
abbrev qi:Stmt:=inClass (top 62) 2
abbrev nR:Stmt:=inClass (top 62) 3
abbrev oE:Stmt:=inClass (top 62) 4
abbrev oF:Stmt:=inClass (top 62) 5
theorem KA:jr ["holds"] ["holds"] (jk AR):=⟨rfl,rfl,rfl,by decide +kernel,rfl,by decide +kernel,by decide +kernel⟩
theorem FT:jr ["byte"] ["byte"] (jk wY):=⟨rfl,rfl,rfl,by decide +kernel,rfl,by decide +kernel,by decide +kernel⟩
theorem Es:jr ["byte"] ["byte"] (jk uH):=⟨rfl,rfl,rfl,by decide +kernel,rfl,by decide +kernel,by decide +kernel⟩
theorem zV:jr ["byte"] ["byte"] (jk qf):=⟨rfl,rfl,rfl,by decide +kernel,rfl,by decide +kernel,by decide +kernel⟩
theorem Cy:jr ["names"] ["names"] (jk tG):=⟨rfl,rfl,rfl,by decide +kernel,rfl,by decide +kernel,by decide +kernel⟩
theorem tP:jr ["reader","below","number"] ["reader"] (jk uI):=⟨rfl,rfl,rfl,by decide +kernel,rfl,by decide +kernel,by decide +kernel⟩
theorem qI:jr ["reader","name","weight"] ["reader"] (jk wZ):=⟨rfl,rfl,rfl,by decide +kernel,rfl,by decide +kernel,by decide +kernel⟩
theorem kG:jr ["reader","name","gain","ways","way"] ["reader"] (jk qU):=⟨rfl,rfl,rfl,by decide +kernel,rfl,by decide +kernel,by decide +kernel⟩
theorem mY:jr ["reader","name","choices","choice"] ["reader"] (jk tH):=⟨rfl,rfl,rfl,by decide +kernel,rfl,by decide +kernel,by decide +kernel⟩
theorem lI:jr ["ways","names","way"] ["ways","names"] (jk ou):=⟨rfl,rfl,rfl,by decide +kernel,rfl,by decide +kernel,by decide +kernel⟩
theorem kH:jr ["text","reader","states","names","state","choice"] ["text"] (jk qV):=⟨rfl,rfl,rfl,by decide +kernel,rfl,by decide +kernel,by decide +kernel⟩
theorem zW:jr ["number","least","greatest"] ["number","least","greatest"] (jk qg):=⟨rfl,rfl,rfl,by decide +kernel,rfl,by decide +kernel,by decide +kernel⟩
theorem Cz:jr ["text","room"] ["text","room"] (jk tK):=⟨rfl,rfl,rfl,by decide +kernel,rfl,by decide +kernel,by decide +kernel⟩
theorem pQ:jr ["text","room","goals","states"] ["text","room","goals"] (jk nD):=⟨rfl,rfl,rfl,by decide +kernel,rfl,by decide +kernel,by decide +kernel⟩
theorem KC:jr ["work"] ["work"] (jk xR):=⟨rfl,rfl,rfl,by decide +kernel,rfl,by decide +kernel,by decide +kernel⟩
theorem mr:jr ["number","other","rest"] ["number","other"] (jk oA):=⟨rfl,rfl,rfl,by decide +kernel,rfl,by decide +kernel,by decide +kernel⟩
theorem tQ:jr ["number","digits"] ["number"] (jk uJ):=⟨rfl,rfl,rfl,by decide +kernel,rfl,by decide +kernel,by decide +kernel⟩
theorem mS:jr ["top","bottom","divisor","told"] ["top","bottom"] (jk nk):=⟨rfl,rfl,rfl,by decide +kernel,rfl,by decide +kernel,by decide +kernel⟩
theorem Et:jr ["states","words","room","told","state","word"] ["states","words","room"] (jk Hr):=⟨rfl,rfl,rfl,by decide +kernel,rfl,by decide +kernel,by decide +kernel⟩
theorem qk:jr ["row","pivot_row","turn","pivot_before","pivot","factor","number","other"] ["row","pivot_row","turn","pivot_before"] (jk yV):=⟨rfl,rfl,rfl,by decide +kernel,rfl,by decide +kernel,by decide +kernel⟩
theorem mZ:jr ["rows","pivot","turn","pivot_row","place","row"] ["rows"] (jk Er):=⟨rfl,rfl,rfl,by decide +kernel,rfl,by decide +kernel,by decide +kernel⟩
theorem rA:jr ["goals","states","place"] ["goals","states"] (jk tL):=⟨rfl,rfl,rfl,by decide +kernel,rfl,by decide +kernel,by decide +kernel⟩
theorem qm:jr ["choices","times","choice"] ["choices","times"] (jk qW):=⟨rfl,rfl,rfl,by decide +kernel,rfl,by decide +kernel,by decide +kernel⟩
theorem pJ:jr ["marks","states","times","mark","state"] ["marks","states","times"] (jk qh):=⟨rfl,rfl,rfl,by decide +kernel,rfl,by decide +kernel,by decide +kernel⟩
theorem rB:jr ["choice","marks","way"] ["choice","marks"] (jk tM):=⟨rfl,rfl,rfl,by decide +kernel,rfl,by decide +kernel,by decide +kernel⟩
theorem kI:jr ["marks","options","reached","plan","mark","turn","place","choices","number","choice"] ["marks","options"] (jk qX):=⟨rfl,rfl,rfl,by decide +kernel,rfl,by decide +kernel,by decide +kernel⟩
theorem oG:jr ["marks","options","mark","choices"] ["marks","options"] (jk pG):=⟨rfl,rfl,rfl,by decide +kernel,rfl,by decide +kernel,by decide +kernel⟩
theorem lJ:jr ["goals","room","text","states","marks","options","plan","quest","number"] ["goals","room","text"] (jk uK):=⟨rfl,rfl,rfl,by decide +kernel,rfl,by decide +kernel,by decide +kernel⟩
theorem Pz:jr ["goals","room","text"] ["goals","room","text"] (jk AS):=⟨rfl,rfl,rfl,by decide +kernel,rfl,by decide +kernel,by decide +kernel⟩
theorem AU:jr ["self","text"] ["self","text"] (jk qY):=⟨rfl,rfl,rfl,by decide +kernel,rfl,by decide +kernel,by decide +kernel⟩
theorem AV:jr ["self"] ["self"] (jk qZ):=⟨rfl,rfl,rfl,by decide +kernel,rfl,by decide +kernel,by decide +kernel⟩
theorem uq:jr ["self"] ["self"] (jk mG):=⟨rfl,rfl,rfl,by decide +kernel,rfl,by decide +kernel,by decide +kernel⟩
theorem ur:jr ["self"] ["self"] (jk mH):=⟨rfl,rfl,rfl,by decide +kernel,rfl,by decide +kernel,by decide +kernel⟩
theorem yW:jr ["self"] ["self"] (jk pH):=⟨rfl,rfl,rfl,by decide +kernel,rfl,by decide +kernel,by decide +kernel⟩
theorem yX:jr ["self","mark"] ["self","mark"] (jk pI):=⟨rfl,rfl,rfl,by decide +kernel,rfl,by decide +kernel,by decide +kernel⟩
theorem pR:jr ["self","start"] ["self"] (jk nE):=⟨rfl,rfl,rfl,by decide +kernel,rfl,by decide +kernel,by decide +kernel⟩
theorem kr:jr ["self","start","number","byte"] ["self"] (jk mJ):=⟨rfl,rfl,rfl,by decide +kernel,rfl,by decide +kernel,by decide +kernel⟩
theorem AW:jr ["self","name","gain","ways","total"] ["self","name","gain","ways","total"] (jk rj):=⟨rfl,rfl,rfl,by decide +kernel,rfl,by decide +kernel,by decide +kernel⟩
theorem CA:jr ["self","name","choices"] ["self","name","choices"] (jk tN):=⟨rfl,rfl,rfl,by decide +kernel,rfl,by decide +kernel,by decide +kernel⟩
theorem AX:jr ["self","tops","bottom"] ["self","tops","bottom"] (jk rm):=⟨rfl,rfl,rfl,by decide +kernel,rfl,by decide +kernel,by decide +kernel⟩
theorem qp:jr ["self","top"] ["self"] (jk rq):=⟨rfl,rfl,rfl,by decide +kernel,rfl,by decide +kernel,by decide +kernel⟩
theorem CB:jr ["self","options","ends"] ["self","options","ends"] (jk tO):=⟨rfl,rfl,rfl,by decide +kernel,rfl,by decide +kernel,by decide +kernel⟩
theorem mw:jr ["self","plan","place","row","choice","way"] ["self","plan","place"] (jk oB):=⟨rfl,rfl,rfl,by decide +kernel,rfl,by decide +kernel,by decide +kernel⟩
theorem nq:jr ["self","choice","values","ahead","way"] ["self","choice","values"] (jk qi):=⟨rfl,rfl,rfl,by decide +kernel,rfl,by decide +kernel,by decide +kernel⟩
theorem xf:jr ["self","choice","other","values"] ["self","choice","other","values"] (jk nR):=⟨rfl,rfl,rfl,by decide +kernel,rfl,by decide +kernel,by decide +kernel⟩
theorem mz:jr ["self","plan","values","better","place","choices","number","choice"] ["self","plan","values"] (jk oE):=⟨rfl,rfl,rfl,by decide +kernel,rfl,by decide +kernel,by decide +kernel⟩
theorem kP:jr ["self","plan","values","place","better"] ["self","plan"] (jk oF):=⟨rfl,rfl,rfl,by decide +kernel,rfl,by decide +kernel,by decide +kernel⟩
structure nF where
 (FU:Addr) (Dt:FuncData)
 (AY:Addr) (zu:FuncData)
 (zw:Addr) (xS:FuncData)
 (uL:Addr) (t7:FuncData)
 (xT:Addr) (vU:FuncData)
 (zx:Addr) (xU:FuncData)
 (AZ:Addr) (zy:FuncData)
 (vV:Addr) (uM:FuncData)
 (xV:Addr) (vW:FuncData)
 (rW:Addr) (qJ:FuncData)
 (vX:Addr) (uN:FuncData)
 (uO:Addr) (t8:FuncData)
 (xW:Addr) (vY:FuncData)
 (qt:Addr) (pS:FuncData)
 (A0:Addr) (KD:FuncData)
 (rX:Addr) (qK:FuncData)
 (zz:Addr) (xX:FuncData)
 (pK:Addr) (rY:FuncData)
 (M5:Addr) (IF:FuncData)
 (Du:Addr) (A2:FuncData)
 (IG:Addr) (FW:FuncData)
 (xY:Addr) (vZ:FuncData)
 (wc:Addr) (uP:FuncData)
 (uQ:Addr) (t9:FuncData)
 (xZ:Addr) (we:FuncData)
 (wg:Addr) (uR:FuncData)
 (ua:Addr) (rZ:FuncData)
 (zA:Addr) (x6:FuncData)
 (yY:Addr) (PB:FuncData)
 (wu:Addr) (uT:FuncData)
 (wz:Addr) (uU:FuncData)
 (oZ:Addr) (n8:FuncData)
 (o5:Addr) (n9:FuncData)
 (uc:Addr) (sj:FuncData)
 (ud:Addr) (sr:FuncData)
 (qu:Addr) (pT:FuncData)
 (o6:Addr) (oh:FuncData)
 (wA:Addr) (uV:FuncData)
 (x8:Addr) (wB:FuncData)
 (wC:Addr) (uW:FuncData)
 (wD:Addr) (uX:FuncData)
 (x9:Addr) (wF:FuncData)
 (su:Addr) (qL:FuncData)
 (uY:Addr) (ue:FuncData)
 (qM:Addr) (qv:FuncData)
 (sA:Addr) (qN:FuncData)
 (sC:Addr) (qO:FuncData)
 (j7 jS nu nS lK ju jG jH j8 lM pV:Addr)
structure Txt(K:ai)(mg:Str->Option Value)(t:nF):Prop where
 mK:wV K mg "demand" "demand" AR ["holds"] t.FU t.Dt
 A3:wV K mg "is_digit" "is_digit" wY ["byte"] t.AY t.zu
 yZ:wV K mg "is_letter" "is_letter" uH ["byte"] t.zw t.xS
 ya:wV K mg "is_name_byte" "is_name_byte" qf ["byte"] t.uL t.t7
 tR:wV K mg "all_differ" "all_differ" tG ["names"] t.xT t.vU
 Dv:wV K mg "read_gain" "read_gain" uI ["reader"] t.zx t.xU
 A4:wV K mg "read_way" "read_way" wZ ["reader"] t.AZ t.zy
 zB:wV K mg "read_choice" "read_choice" qU ["reader"] t.vV t.uM
 A5:wV K mg "read_state" "read_state" tH ["reader"] t.xV t.vW
 uZ:wV K mg "ways_to_places" "ways_to_places" ou ["ways","names"] t.rW t.qJ
 zC:wV K mg "read_states" "read_states" qV ["text"] t.vX t.uN
 pW:wV K mg "demand_range" "demand_range" qg ["number","least","greatest"] t.uO t.t8
 A6:wV K mg "read_given" "read_given" tK ["text","room"] t.xW t.vY
 sD:wV K mg "read_given_goals" "read_given_goals" nD ["text","room","goals"] t.qt t.pS
 answer:wV K mg "answer" "answer" xR ["work"] t.A0 t.KD
 u3:wV K mg "common_divisor" "common_divisor" oA ["number","other"] t.rX t.qK
 digits_of:wV K mg "digits_of" "digits_of" uJ ["number"] t.zz t.xX
 wG:wV K mg "fraction_told" "fraction_told" nk ["top","bottom"] t.pK t.rY
 tell:wV K mg "tell" "tell" Hr ["states","words","room"] t.M5 t.IF
 cleared:wV K mg "cleared" "cleared" yV ["row","pivot_row","turn","pivot_before"] t.Du t.A2
 QX:wV K mg "solve" "solve" Er ["rows"] t.IG t.FW
 A7:wV K mg "goal_marks" "goal_marks" tL ["goals","states"] t.xY t.vZ
 zD:wV K mg "gains_taken" "gains_taken" qW ["choices","times"] t.wc t.uP
 yb:wV K mg "options_till" "options_till" qh ["marks","states","times"] t.uQ t.t9
 A8:wV K mg "leads_into" "leads_into" tM ["choice","marks"] t.xZ t.we
 zE:wV K mg "plan_toward" "plan_toward" qX ["marks","options"] t.wg t.uR
 wH:wV K mg "options_where" "options_where" pG ["marks","options"] t.ua t.rZ
 Dw:wV K mg "tell_best" "tell_best" uK ["goals","room","text"] t.zA t.x6
 best:wV K mg "best" "best" AS ["goals","room","text"] t.yY t.PB
 zF:Met K "__init__" "Reader.__init__" qY ["self","text"] t.j7 t.wu t.uT
 kJ:Met K "here" "Reader.here" qZ ["self"] t.j7 t.wz t.uU
 qw:Met K "skip_remark" "Reader.skip_remark" mG ["self"] t.j7 t.oZ t.n8
 lD:Met K "skip_blanks" "Reader.skip_blanks" mH ["self"] t.j7 t.o5 t.n9
 wI:Met K "at_end" "Reader.at_end" pH ["self"] t.j7 t.uc t.sj
 lu:Met K "passes" "Reader.passes" pI ["self","mark"] t.j7 t.ud t.sr
 lW:Met K "take_name" "Reader.take_name" nE ["self"] t.j7 t.qu t.pT
 nG:Met K "take_number" "Reader.take_number" mJ ["self"] t.j7 t.o6 t.oh
 u4:Met K "__init__" "Choice.__init__" rj ["self","name","gain","ways","total"] t.jS t.wA t.uV
 A9:Met K "__init__" "State.__init__" tN ["self","name","choices"] t.nu t.x8 t.wB
 zG:Met K "__init__" "Values.__init__" rm ["self","tops","bottom"] t.nS t.wC t.uW
 zH:Met K "told" "Values.told" rq ["self"] t.nS t.wD t.uX
 Ba:Met K "__init__" "Quest.__init__" tO ["self","options","ends"] t.lK t.x9 t.wF
 u5:Met K "equation" "Quest.equation" oB ["self","plan","place"] t.lK t.su t.qL
 tS:Met K "top_by" "Quest.top_by" qi ["self","choice","values"] t.lK t.uY t.ue
 uf:Met K "is_better" "Quest.is_better" nR ["self","choice","other","values"] t.lK t.qM t.qv
 u7:Met K "improved" "Quest.improved" oE ["self","plan","values"] t.lK t.sA t.qN
 vc:Met K "greatest" "Quest.greatest" oF ["self","plan"] t.lK t.sC t.qO
 jo:QU K mg "Reader" t.j7
 m6:lV K t.j7 "text"
 jC:lV K t.j7 "place"
 jN:QU K mg "Choice" t.jS
 rC:lV K t.jS "name"
 oO:lV K t.jS "gain"
 lT:lV K t.jS "ways"
 lE:lV K t.jS "total"
 tU:QU K mg "State" t.nu
 tV:lV K t.nu "name"
 pL:lV K t.nu "choices"
 o7:QU K mg "Values" t.nS
 rD:lV K t.nS "tops"
 pM:lV K t.nS "bottom"
 mT:QU K mg "Quest" t.lK
 nv:lV K t.lK "options"
 yc:lV K t.lK "ends"
 yd:Exc K mg "NoSuchText" t.ju
 ye:Exc K mg "OutOfRange" t.jG
 yf:Exc K mg "NoSuchGoal" t.jH
 yg:Exc K mg "GainTooLow" t.j8
 FY:Exc K mg "NoRoom" t.lM
 Bb:wW mg "LONGEST_NAME" (.int (16))
 CC:wW mg "MOST_DIGITS" (.int (7))
 yh:wW mg "GREATEST_NUMBER" (.int (1000000))
 zX:wW mg "GREATEST_GAIN" (.int (1000))
 yk:wW mg "GREATEST_WEIGHT" (.int (1000))
 CD:wW mg "MOST_STATES" (.int (16))
 Bc:wW mg "MOST_CHOICES" (.int (8))
 Bd:wW mg "LINE_END" (.int (10))
 II:wW mg "BLANK" (.int (32))
 M6:wW mg "HASH" (.int (35))
 PD:wW mg "COMMA" (.int (44))
 IJ:wW mg "MINUS" (.int (45))
 IK:wW mg "SLASH" (.int (47))
 Hs:wW mg "ZERO" (.int (48))
 PF:wW mg "COLON" (.int (58))
 FZ:wW mg "SEMICOLON" (.int (59))
 Eu:wW mg "UNDERSCORE" (.int (95))
 Ew:wW mg "LEFT_BRACE" (.int (123))
 CF:wW mg "RIGHT_BRACE" (.int (125))
 xg:wW mg "TEXT_END" (.int (256))
 Ex:mg "STATE_WORD" = some (.ref t.pV)
 Ey:∀H,rH K H t.pV (([115,116,97,116,101]:List Int).map V.int)
 Be:wW mg "LONGEST_TEXT" (.int (65536))
 zY:wW mg "GREATEST_ROOM" (.int (65536))
 y9:wW mg "GREATEST_GOALS" (.int (65535))
 Bf:wW mg "OUT_OF_RANGE" (.int (-1))
 Bg:wW mg "NO_SUCH_TEXT" (.int (-2))
 Bh:wW mg "NO_SUCH_GOAL" (.int (-3))
 Bj:wW mg "GAIN_TOO_LOW" (.int (-4))
 KG:wW mg "NO_ROOM" (.int (-7))
 qx:mg "len" = none
 Ab:mg "range" = none
 o9:mg "enumerate" = none
 IL:mg "zip" = none
 QY:mg "sum" = none
 UP:mg "abs" = none
 Ez:mg "list" = none
 PJ:mg "tuple" = none
 UQ:mg "set" = none
 UR:mg "any" = none
 US:mg "all" = none
 Ht:mg "reversed" = none
 sE:lB K t.ju t.jG
 Dy:lB K t.ju t.jH
 Dz:lB K t.ju t.j8
 GH:lB K t.ju t.lM
 DA:lB K t.jG t.ju
 DB:lB K t.jG t.jH
 DC:lB K t.jG t.j8
 GI:lB K t.jG t.lM
 sF:lB K t.jH t.ju
 sG:lB K t.jH t.jG
 DE:lB K t.jH t.j8
 GJ:lB K t.jH t.lM
 sI:lB K t.j8 t.ju
 sJ:lB K t.j8 t.jG
 sL:lB K t.j8 t.jH
 GK:lB K t.j8 t.lM
 vJ:lB K t.lM t.ju
 vK:lB K t.lM t.jG
 vL:lB K t.lM t.jH
 vM:lB K t.lM t.j8
end Ck
end
noncomputable section
namespace Ck
open PySem PySem.Spec PyProof.Rows L2
section
variable{P:Program}{w:World}{K:ai}{mg:Str->Option Value}{base:Heap}{t:nF}
abbrev Ok(P:Program)(w:World)(K:ai)(mg:Str->Option Value)(base:Heap)(k:Nat)(f:Addr)(fd:FuncData)(ps:List Str)(sp:Sp):Prop:=yN P w K mg base (wU P w) k f fd ps sp
theorem za(T:Txt K mg t)(kb:K.In base):OwnCls "NoSuchText" t.ju [.type "Exception",.type "BaseException",.type "object"] "Exception.__new__" mg base:=rO kb T.yd.mg T.yd.ex
theorem nH:bootBuiltins "len" = some (.builtin "len"):=by decide +kernel
theorem Si:bootBuiltins "set" = some (.type "set"):=by decide +kernel
theorem M7:bootBuiltins "tuple" = some (.type "tuple"):=by decide +kernel
theorem EA:bootBuiltins "list" = some (.type "list"):=by decide +kernel
theorem M8:bootBuiltins "sum" = some (.builtin "sum"):=by decide +kernel
theorem Sj:bootBuiltins "any" = some (.builtin "any"):=by decide +kernel
theorem Sk:bootBuiltins "all" = some (.builtin "all"):=by decide +kernel
theorem tW{b:Bool}{A B:Prop}(e:b=true)(h:A):if b=true then A else B:=by rw[if_pos e];exact h
theorem sX{b:Bool}{A B:Prop}(e:b=false)(h:B):if b=true then A else B:=by rw[e];exact qS h
def zb(t:nF):Sp:=λ vs H Q E=>∃c:Bool,vs=[.bl c]/\if c=true then Q .pZ H else E (.ref t.ju) none H
theorem kg(T:Txt K mg t)(kb:K.In base):Ok P w K mg base 1 t.FU t.Dt ["holds"] (zb t):=by
 refine T.mK.fn.qD KA (λ vs H Q E h=>?_) λ cdv A outer s H vs Q E hr h=>?_
 ·obtain⟨c,rfl,_⟩:=h;rfl
 ·obtain⟨c,rfl,h⟩:=h
  refine⟨_,jg (rJ (Al (qb (pv 0))) (jg (xJ xl_of rfl (za T kb) cA)) nc),?_⟩;refine⟨_,rfl,c,rfl,?_⟩
  cases c with
  |true=>exact qS h
  |false=>exact uA h
def EB(f:Nat->Bool):Sp:=λ vs H Q _=>∃c:Nat,vs=[.int c]/\Q (.bl (f c)) H
theorem qy(a b:Nat):decide ((a:Int)<=(b:Int))=decide (a<=b):=by
 rw[aT,decide_eq_true_eq,decide_eq_true_eq];omega
theorem ch{a x b:Int}{H:Hp}{Q:VK}(h:Q (.bl (decide (a<=x)&&decide (x<=b))) H) :
  ∃k,V.bl (decide (a<=x))=.bl k/\(if k=true then (∃i j,V.int x=.int i/\V.int b=.int j/\Q (.bl (decide (i<=j))) H) else Q (.bl false) H):=by
 refine⟨_,rfl,?_⟩
 by_cases q:a<=x
 ·rw[decide_eq_true q] at h ⊢
  exact uA ⟨_,_,rfl,rfl,h⟩
 ·rw[decide_eq_false q] at h ⊢
  exact qS h
theorem VS{a x b:Int}{i:Nat}{σ:L2.St}{H:Hp}{Q:VK}(hv:σ[i]? = some (some (.int x)))(h:Q (.bl (decide (a<=x)&&decide (x<=b))) H) :
  D7 (GD λ i j=>.bl (decide (i<=j))) (GD λ i j=>.bl (decide (i<=j))) (tC (.int a)) (xy i) (tC (.int b)) σ H Q:=⟨_,hv,_,_,rfl,rfl,ch h⟩
theorem zI(T:Txt K mg t):Ok P w K mg base 1 t.AY t.zu ["byte"] (EB Ra61.isDigit):=by
 refine T.A3.fn.qD FT (λ vs H Q E h=>?_) λ cdv A outer s H vs Q E hr h=>?_
 ·obtain⟨c,rfl,_⟩:=h;rfl
 ·obtain⟨c,rfl,h⟩:=h
  refine⟨_,jg (jB (rK nN nN jv (pv 0) jv)),?_⟩;refine VS (x:=c) rfl ?_;show Q (.bl (decide ((48:Int)<=c)&&decide ((c:Int)<=57))) H;have e:(decide ((48:Int)<=c)&&decide ((c:Int)<=57))=Ra61.isDigit c:=by
   unfold Ra61.isDigit;rw[show decide ((48:Int)<=c)=decide (48<=c) from qy 48 c,show decide ((c:Int)<=57)=decide (c<=57) from qy c 57]
  rw[e];exact h
theorem yl(T:Txt K mg t):Ok P w K mg base 1 t.zw t.xS ["byte"] (EB Ra61.isLetter):=by
 refine T.yZ.fn.qD Es (λ vs H Q E h=>?_) λ cdv A outer s H vs Q E hr h=>?_
 ·obtain⟨c,rfl,_⟩:=h;rfl
 ·obtain⟨c,rfl,h⟩:=h
  refine⟨_,jg (jB (LD (rK nN nN jv (pv 0) jv) (LC (rK nN nN jv (pv 0) jv)))),?_⟩;refine VS (x:=c) rfl ?_;refine⟨_,rfl,?_⟩;have e1:(decide ((65:Int)<=c)&&decide ((c:Int)<=90))=(decide (65<=c)&&decide (c<=90)):=by
   rw[show decide ((65:Int)<=c)=decide (65<=c) from qy 65 c,show decide ((c:Int)<=90)=decide (c<=90) from qy c 90]
  have e2:(decide ((97:Int)<=c)&&decide ((c:Int)<=122))=(decide (97<=c)&&decide (c<=122)):=by
   rw[show decide ((97:Int)<=c)=decide (97<=c) from qy 97 c,show decide ((c:Int)<=122)=decide (c<=122) from qy c 122]
  have e3:Ra61.isLetter c=((decide (65<=c)&&decide (c<=90))||(decide (97<=c)&&decide (c<=122))):=by unfold Ra61.isLetter;rw[Bool.or_comm]
  rw[e3] at h;show if (decide ((65:Int)<=c)&&decide ((c:Int)<=90))=true then _ else _
  rw[e1]
  cases q:(decide (65<=c)&&decide (c<=90)) with
  |true=>rw[q,iU] at h;exact uA h
  |false=>
   rw[q,iL] at h;refine qS (VS (x:=c) rfl ?_);show Q (.bl (decide ((97:Int)<=c)&&decide ((c:Int)<=122))) H;rw[e2];exact h
theorem zZ(T:Txt K mg t):Ok P w K mg base 2 t.uL t.t7 ["byte"] (EB Ra61.isWord):=by
 refine T.ya.fn.qD zV (λ vs H Q E h=>?_) λ cdv A outer s H vs Q E hr h=>?_
 ·obtain⟨c,rfl,_⟩:=h;rfl
 ·obtain⟨c,rfl,h⟩:=h
  refine⟨_,jg (jB (LD (jI T.yZ (yl T) hr rfl jF (ja (pv 0) jd)) (LD (jI T.A3 (zI T) hr rfl jF (ja (pv 0) jd)) (LC (nO Aq (pv 0) (kh T.Eu rfl) (kC _)))))),?_⟩;unfold Ra61.isWord at h;refine⟨_,rfl,c,rfl,_,rfl,?_⟩
  cases q:Ra61.isLetter c with
  |true=>rw[q,iU] at h;exact uA h
  |false=>
   rw[q,iL] at h;refine qS ⟨_,rfl,c,rfl,_,rfl,?_⟩
   cases q:Ra61.isDigit c with
   |true=>rw[q,iU] at h;exact uA h
   |false=>
    rw[q,iL] at h;refine qS ⟨_,rfl,rfl,?_⟩;have e:decide (V.int (c:Int)=V.int 95)=(c==95):=by
     rw[mq,aT,beq_iff_eq,beq_iff_eq];omega
    show Q (.bl (decide (V.int (c:Int)=V.int 95))) H;rw[e];exact h
theorem M9(kl:List (List Int)):decide (((St.dd (kl.map ky)).length:Int)=kl.length)=decide kl.Nodup:=by
 rw[aT,decide_eq_true_eq,decide_eq_true_eq]
 have h:=(St.G8 (kl.map ky)).2
 rw[ah] at h
 have h2:(kl.map ky).Nodup↔kl.Nodup:=by
  rw[List.Nodup,cS];exact⟨λ z=>cT (λ h1 h2=>h1 (by rw[h2])) z,λ z=>cT (λ h1 h2=>h1 (El h2)) z⟩
 rw[h2] at h
 rw[<-h]
 omega
def CG(K:ai):Sp:=λ vs H Q _=>∃(l:Addr) (as:List Addr) (kl:List (List Int)),vs=[.ref l]/\jE K H l (as.map V.ref)/\pU K H as kl/\kl.length<=32768/\∀H',jm H H'->Q (.bl (decide kl.Nodup)) H'
theorem jj{H:Hp}{p:Addr}{o:HO}(h:H p=none):jm H (upd H p o):=λ b u e=>by rw[je (jh e h)];exact e
theorem rE(T:Txt K mg t):Ok P w K mg base 1 t.xT t.vU ["names"] (CG K):=by
 refine T.tR.fn.qD Cy (λ vs H Q E h=>?_) λ cdv A outer s H vs Q E hr h=>?_
 ·obtain⟨l,as,kl,rfl,_⟩:=h;rfl
 ·obtain⟨l,as,kl,rfl,hl,hT,hn,h⟩:=h
  refine⟨_,jg (jB (nO Aq (jX FH (by rfl) T.qx nH (ja (rM (Kn rfl hr.units) (by rfl) T.UQ Si (ja (pv 0) jd)) jd))
   (jX jK (by rfl) T.qx nH (ja (pv 0) jd)) (kC _))),?_⟩
  refine⟨_,rfl,l,as,kl,rfl,hl,hT,hn,λ p hp=>?_⟩;have sm:=jj (o:=.ext (MK p (St.dd (kl.map ky)).length)) hp;refine⟨p,_,rfl,jb,_,rfl,l,_,rfl,.inl (sm.seq hl),rfl,?_⟩;have e:decide (V.int ((St.dd (kl.map ky)).length:Int)=V.int ((as.map V.ref).length:Int))=decide kl.Nodup:=by
   rw[<-M9,mq,ah,hT.len,aT,beq_iff_eq,decide_eq_true_eq]
  show Q (.bl (decide (V.int ((St.dd (kl.map ky)).length:Int)=V.int ((as.map V.ref).length:Int)))) _;rw[e];exact h _ sm
end
end Ck
end
noncomputable section
namespace Ck
open PySem PySem.W L2 PySem.Calls PyProof.Rows
abbrev pg:=dG
def ym:Program:=view pg [0,2,3,4,5,6,7,8,9,10,11,12,13,14,15,16,17,18,19,20,21,22,23,24,25,26,27,28,29,30,31,32,33,34,35,36,37,39,40,41,42,43,44,45,46,47,48,49,50,51,52,53,54,55,56,57,58,59,60,61,62,63,64,65,66,67,68,69,70]
def p0:Pos:=⟨0,0,0,0⟩
def ev:Env:={ scope:=pg.main.scope,locals:=mainNs,globals:=mainNs,cells:=[],code:=.ref 13,frame:=some 14 }
def Tu:List Stmt:=behindTheImports pg
def Z6(P:Params):BT:=
 (.node (boot_o_0 P) (.node (boot_o_1 P) (.node (boot_o_3 P) (.node (boot_o_7 P) .nil .nil) (.node (.mk (.type "tuple") none (.seq #[] 0) #[]) .nil .nil)) (.node (boot_o_5 P) (.node (boot_o_9 P) .nil .nil) (.node (.mk (.type "code") none (.fields #[(.str "<module>" 182),(.str "<module>" 183),(.str "/claim/cut.py" 184),(.int 1 0),(.int 0 0),(.int 0 0),(.int 0 0),(.int 0 0),(.ref 11),(.bool false),(.int 181 0),(.ref 12),.none,.none,.none,.none,(.int 185 0),(.int 1 0),(.str "/claim/cut.py" 186)]) #[]) .nil .nil))) (.node (boot_o_2 P) (.node (boot_o_4 P) (.node (boot_o_8 P) .nil .nil) (.node (.mk .none none (.fields #[]) #[]) .nil .nil)) (.node (boot_o_6 P) (.node (boot_o_10 P) .nil .nil) (.node (.mk (.type "frame") none .plain #[(some (.ref 13)),(some (.ref 3)),(some (.ref 3)),none,(some (.str "__main__" 164)),none,(some (.ref 0))]) .nil .nil))))
def Yu(P:Params)(os:OsState):SharedT:=⟨Z6 P,15,(.mk [] [] [] 0 [] [] false #[] [] 0 false false false 0 [2000,10,10] false 0 true [] [] 0 false),#[],.mk 0 0 0 0,187,os⟩
abbrev ff(n q:Str)(d:Stmt)(m:Str)(t c:Nat):FuncData:=fnOf n q (tw d) (qE d) (jk d) .none .none .none (.str m t) none (.ref c) .none
abbrev fo(n q:Str)(d:Stmt)(m:Str)(t c:Nat):Obj:=⟨.type "function",none,.func (ff n q d m t c),#[]⟩
def co(n q:Str)(t l c f a k j:Nat):Obj:=⟨.type "code",none,.fields #[.str n t,.str q (t+1),.str "/claim/cut.py" (t+2),.int l 0,.int c 0,.int 0 0,.int 0 0,.int f 0,.ref a,.bool true,.int 181 0,.ref (a+1),.none,.ref (a+2),.ref (a+3),.ref (a+4),.int k 0,.int l 0,.str "/claim/cut.py" j],#[]⟩
def cn(n q:Str)(t l c f a k j:Nat):Obj:=⟨.type "code",none,.fields #[.str n t,.str q (t+1),.str "/claim/cut.py" (t+2),.int l 0,.int c 0,.int 0 0,.int 0 0,.int f 0,.ref a,.bool true,.int 181 0,.ref (a+1),.none,.none,.none,.ref (a+2),.int k 0,.int l 0,.str "/claim/cut.py" j],#[]⟩
def de(P:Params)(k:Str)(t:Nat)(v:Value):DictEntry:=⟨PyData.keyHash P k,.str k t,v⟩
def Kt(P:Params):Frag:=
 (nat_lit 3,(.mk (.type "dict") none (.dict #[(de P "__name__" 165 (.str "chancechoices.chances" 489)),(de P "__doc__" 166 .none),(de P "__package__" 167 .none),(de P "__loader__" 168 (.builtin "__main__.__loader__#opaque")),(de P "__spec__" 169 .none),(de P "__annotations__" 170 (.ref 6)),(de P "__builtins__" 171 (.ref 4)),(de P "__file__" 173 (.str "/claim/cut.py" 172)),(de P "__cached__" 174 .none),(de P "_wall" 193 (.ref 21)),(de P "LONGEST_NAME" 197 (.int 16 196)),(de P "MOST_DIGITS" 199 (.int 7 198)),(de P "GREATEST_NUMBER" 201 (.int 1000000 200)),(de P "GREATEST_GAIN" 203 (.int 1000 202)),(de P "GREATEST_WEIGHT" 205 (.int 1000 204)),(de P "MOST_STATES" 207 (.int 16 206)),(de P "MOST_CHOICES" 209 (.int 8 208)),(de P "LINE_END" 211 (.int 10 210)),(de P "BLANK" 213 (.int 32 212)),(de P "HASH" 215 (.int 35 214)),(de P "COMMA" 217 (.int 44 216)),(de P "MINUS" 219 (.int 45 218)),(de P "SLASH" 221 (.int 47 220)),(de P "ZERO" 223 (.int 48 222)),(de P "COLON" 225 (.int 58 224)),(de P "SEMICOLON" 227 (.int 59 226)),(de P "UNDERSCORE" 229 (.int 95 228)),(de P "LEFT_BRACE" 231 (.int 123 230)),(de P "RIGHT_BRACE" 233 (.int 125 232)),(de P "TEXT_END" 235 (.int 256 234)),(de P "STATE_WORD" 241 (.ref 22)),(de P "NoSuchText" 261 (.ref 32)),(de P "demand" 268 (.ref 42)),(de P "is_digit" 275 (.ref 49)),(de P "is_letter" 282 (.ref 56)),(de P "is_name_byte" 289 (.ref 63)),(de P "all_differ" 296 (.ref 70)),(de P "Reader" 380 (.ref 136)),(de P "read_gain" 389 (.ref 147)),(de P "read_way" 398 (.ref 154)),(de P "Choice" 433 (.ref 171)),(de P "read_choice" 439 (.ref 180)),(de P "State" 470 (.ref 197)),(de P "read_state" 476 (.ref 206)),(de P "ways_to_places" 482 (.ref 211)),(de P "read_states" 488 (.ref 216)),(de P "LONGEST_TEXT" 492 (.int 65536 491)),(de P "GREATEST_ROOM" 494 (.int 65536 493)),(de P "GREATEST_GOALS" 496 (.int 65535 495)),(de P "OUT_OF_RANGE" 499 (.int (-1) 498)),(de P "NO_SUCH_TEXT" 502 (.int (-2) 501)),(de P "NO_SUCH_GOAL" 505 (.int (-3) 504)),(de P "GAIN_TOO_LOW" 508 (.int (-4) 507)),(de P "NO_ROOM" 511 (.int (-7) 510)),(de P "OutOfRange" 531 (.ref 226)),(de P "NoSuchGoal" 551 (.ref 239)),(de P "GainTooLow" 571 (.ref 252)),(de P "NoRoom" 591 (.ref 265)),(de P "demand_range" 600 (.ref 275)),(de P "read_given" 608 (.ref 282)),(de P "read_given_goals" 618 (.ref 289)),(de P "answer" 625 (.ref 296)),(de P "common_divisor" 634 (.ref 303)),(de P "digits_of" 642 (.ref 310)),(de P "fraction_told" 652 (.ref 317)),(de P "tell" 664 (.ref 324)),(de P "Values" 708 (.ref 353)),(de P "cleared" 714 (.ref 362)),(de P "solve" 720 (.ref 367)),(de P "Quest" 816 (.ref 429)),(de P "goal_marks" 822 (.ref 438)),(de P "gains_taken" 828 (.ref 443)),(de P "options_till" 834 (.ref 448)),(de P "leads_into" 840 (.ref 453)),(de P "plan_toward" 846 (.ref 458)),(de P "options_where" 852 (.ref 463)),(de P "tell_best" 858 (.ref 468)),(de P "best" 870 (.ref 475))] 78) #[])) ::
 (nat_lit 22,(.mk (.type "tuple") none (.seq #[(.int 115 236),(.int 116 237),(.int 97 238),(.int 116 239),(.int 101 240)] 0) #[])) ::
 (nat_lit 31,(.mk (.type "dict") none (.dict #[(de P "__module__" 249 (.str "chancechoices.texts" 194)),(de P "__firstlineno__" 253 (.int 26 252)),(de P "__static_attributes__" 254 (.ref 30)),(de P "__weakref__" 256 (.ref 33)),(de P "__doc__" 257 .none)] 3) #[])) ::
 (nat_lit 32,(.mk (.type "type") none (.cls (ClassData.mk "NoSuchText" [(.type "Exception")] [(.ref 32),(.type "Exception"),(.type "BaseException"),(.type "object")] 31 "NoSuchText" true [] [] false none false)) #[(some (.ref 23)),none,(some (.str "NoSuchText" 242)),(some (.str "NoSuchText" 250)),(some (.builtin "Exception.__new__")),(some (.bool true))])) ::
 (nat_lit 41,co "demand" "demand" 262 28 1 3 36 266 267) ::
 (nat_lit 42,fo "demand" "demand" AR "chancechoices.texts" 194 41) ::
 (nat_lit 48,co "is_digit" "is_digit" 269 31 1 3 43 273 274) ::
 (nat_lit 49,fo "is_digit" "is_digit" wY "chancechoices.texts" 194 48) ::
 (nat_lit 55,co "is_letter" "is_letter" 276 33 1 3 50 280 281) ::
 (nat_lit 56,fo "is_letter" "is_letter" uH "chancechoices.texts" 194 55) ::
 (nat_lit 62,co "is_name_byte" "is_name_byte" 283 35 1 3 57 287 288) ::
 (nat_lit 63,fo "is_name_byte" "is_name_byte" qf "chancechoices.texts" 194 62) ::
 (nat_lit 69,co "all_differ" "all_differ" 290 37 1 3 64 294 295) ::
 (nat_lit 70,fo "all_differ" "all_differ" tG "chancechoices.texts" 194 69) ::
 (nat_lit 83,co "__init__" "Reader.__init__" 309 41 2 3 78 314 315) ::
 (nat_lit 84,fo "__init__" "Reader.__init__" qY "chancechoices.texts" 194 83) ::
 (nat_lit 90,co "here" "Reader.here" 317 45 1 3 85 321 322) ::
 (nat_lit 91,fo "here" "Reader.here" qZ "chancechoices.texts" 194 90) ::
 (nat_lit 97,co "skip_remark" "Reader.skip_remark" 324 50 1 3 92 328 329) ::
 (nat_lit 98,fo "skip_remark" "Reader.skip_remark" mG "chancechoices.texts" 194 97) ::
 (nat_lit 104,co "skip_blanks" "Reader.skip_blanks" 331 54 1 3 99 335 336) ::
 (nat_lit 105,fo "skip_blanks" "Reader.skip_blanks" mH "chancechoices.texts" 194 104) ::
 (nat_lit 111,co "at_end" "Reader.at_end" 338 61 1 3 106 342 343) ::
 (nat_lit 112,fo "at_end" "Reader.at_end" pH "chancechoices.texts" 194 111) ::
 (nat_lit 118,co "passes" "Reader.passes" 345 65 2 3 113 350 351) ::
 (nat_lit 119,fo "passes" "Reader.passes" pI "chancechoices.texts" 194 118) ::
 (nat_lit 125,co "take_name" "Reader.take_name" 353 72 1 3 120 358 359) ::
 (nat_lit 126,fo "take_name" "Reader.take_name" nE "chancechoices.texts" 194 125) ::
 (nat_lit 132,co "take_number" "Reader.take_number" 361 81 1 3 127 368 369) ::
 (nat_lit 133,fo "take_number" "Reader.take_number" mJ "chancechoices.texts" 194 132) ::
 (nat_lit 135,(.mk (.type "dict") none (.dict #[(de P "__module__" 304 (.str "chancechoices.texts" 194)),(de P "__firstlineno__" 308 (.int 39 307)),(de P "__init__" 316 (.ref 84)),(de P "here" 323 (.ref 91)),(de P "skip_remark" 330 (.ref 98)),(de P "skip_blanks" 337 (.ref 105)),(de P "at_end" 344 (.ref 112)),(de P "passes" 352 (.ref 119)),(de P "take_name" 360 (.ref 126)),(de P "take_number" 370 (.ref 133)),(de P "__static_attributes__" 373 (.ref 134)),(de P "__dict__" 375 (.ref 137)),(de P "__weakref__" 377 (.ref 138)),(de P "__doc__" 378 .none)] 4) #[])) ::
 (nat_lit 136,(.mk (.type "type") none (.cls (ClassData.mk "Reader" [(.type "object")] [(.ref 136),(.type "object")] 135 "Reader" true [] [] false none false)) #[none,none,(some (.str "Reader" 297)),(some (.str "Reader" 305)),(some (.builtin "object.__new__")),(some (.bool true))])) ::
 (nat_lit 146,co "read_gain" "read_gain" 381 92 1 3 141 387 388) ::
 (nat_lit 147,fo "read_gain" "read_gain" uI "chancechoices.texts" 194 146) ::
 (nat_lit 153,co "read_way" "read_way" 390 97 1 3 148 396 397) ::
 (nat_lit 154,fo "read_way" "read_way" wZ "chancechoices.texts" 194 153) ::
 (nat_lit 167,co "__init__" "Choice.__init__" 411 106 5 3 162 419 420) ::
 (nat_lit 168,fo "__init__" "Choice.__init__" rj "chancechoices.texts" 194 167) ::
 (nat_lit 170,(.mk (.type "dict") none (.dict #[(de P "__module__" 406 (.str "chancechoices.texts" 194)),(de P "__firstlineno__" 410 (.int 104 409)),(de P "__init__" 421 (.ref 168)),(de P "__static_attributes__" 426 (.ref 169)),(de P "__dict__" 428 (.ref 172)),(de P "__weakref__" 430 (.ref 173)),(de P "__doc__" 431 .none)] 4) #[])) ::
 (nat_lit 171,(.mk (.type "type") none (.cls (ClassData.mk "Choice" [(.type "object")] [(.ref 171),(.type "object")] 170 "Choice" true [] [] false none false)) #[none,none,(some (.str "Choice" 399)),(some (.str "Choice" 407)),(some (.builtin "object.__new__")),(some (.bool true))])) ::
 (nat_lit 179,cn "read_choice" "read_choice" 434 111 1 3 176 437 438) ::
 (nat_lit 180,fo "read_choice" "read_choice" qU "chancechoices.texts" 194 179) ::
 (nat_lit 193,co "__init__" "State.__init__" 452 123 3 3 188 458 459) ::
 (nat_lit 194,fo "__init__" "State.__init__" tN "chancechoices.texts" 194 193) ::
 (nat_lit 196,(.mk (.type "dict") none (.dict #[(de P "__module__" 447 (.str "chancechoices.texts" 194)),(de P "__firstlineno__" 451 (.int 121 450)),(de P "__init__" 460 (.ref 194)),(de P "__static_attributes__" 463 (.ref 195)),(de P "__dict__" 465 (.ref 198)),(de P "__weakref__" 467 (.ref 199)),(de P "__doc__" 468 .none)] 4) #[])) ::
 (nat_lit 197,(.mk (.type "type") none (.cls (ClassData.mk "State" [(.type "object")] [(.ref 197),(.type "object")] 196 "State" true [] [] false none false)) #[none,none,(some (.str "State" 440)),(some (.str "State" 448)),(some (.builtin "object.__new__")),(some (.bool true))])) ::
 (nat_lit 205,cn "read_state" "read_state" 471 126 1 3 202 474 475) ::
 (nat_lit 206,fo "read_state" "read_state" tH "chancechoices.texts" 194 205) ::
 (nat_lit 210,cn "ways_to_places" "ways_to_places" 477 136 2 3 207 480 481) ::
 (nat_lit 211,fo "ways_to_places" "ways_to_places" ou "chancechoices.texts" 194 210) ::
 (nat_lit 215,cn "read_states" "read_states" 483 139 1 3 212 486 487) ::
 (nat_lit 216,fo "read_states" "read_states" qV "chancechoices.texts" 194 215) ::
 (nat_lit 225,(.mk (.type "dict") none (.dict #[(de P "__module__" 519 (.str "chancechoices.chances" 489)),(de P "__firstlineno__" 523 (.int 160 522)),(de P "__static_attributes__" 524 (.ref 224)),(de P "__weakref__" 526 (.ref 227)),(de P "__doc__" 527 .none)] 3) #[])) ::
 (nat_lit 226,(.mk (.type "type") none (.cls (ClassData.mk "OutOfRange" [(.type "Exception")] [(.ref 226),(.type "Exception"),(.type "BaseException"),(.type "object")] 225 "OutOfRange" true [] [] false none false)) #[(some (.ref 217)),none,(some (.str "OutOfRange" 512)),(some (.str "OutOfRange" 520)),(some (.builtin "Exception.__new__")),(some (.bool true))])) ::
 (nat_lit 238,(.mk (.type "dict") none (.dict #[(de P "__module__" 539 (.str "chancechoices.chances" 489)),(de P "__firstlineno__" 543 (.int 162 542)),(de P "__static_attributes__" 544 (.ref 237)),(de P "__weakref__" 546 (.ref 240)),(de P "__doc__" 547 .none)] 3) #[])) ::
 (nat_lit 239,(.mk (.type "type") none (.cls (ClassData.mk "NoSuchGoal" [(.type "Exception")] [(.ref 239),(.type "Exception"),(.type "BaseException"),(.type "object")] 238 "NoSuchGoal" true [] [] false none false)) #[(some (.ref 230)),none,(some (.str "NoSuchGoal" 532)),(some (.str "NoSuchGoal" 540)),(some (.builtin "Exception.__new__")),(some (.bool true))])) ::
 (nat_lit 251,(.mk (.type "dict") none (.dict #[(de P "__module__" 559 (.str "chancechoices.chances" 489)),(de P "__firstlineno__" 563 (.int 164 562)),(de P "__static_attributes__" 564 (.ref 250)),(de P "__weakref__" 566 (.ref 253)),(de P "__doc__" 567 .none)] 3) #[])) ::
 (nat_lit 252,(.mk (.type "type") none (.cls (ClassData.mk "GainTooLow" [(.type "Exception")] [(.ref 252),(.type "Exception"),(.type "BaseException"),(.type "object")] 251 "GainTooLow" true [] [] false none false)) #[(some (.ref 243)),none,(some (.str "GainTooLow" 552)),(some (.str "GainTooLow" 560)),(some (.builtin "Exception.__new__")),(some (.bool true))])) ::
 (nat_lit 264,(.mk (.type "dict") none (.dict #[(de P "__module__" 579 (.str "chancechoices.chances" 489)),(de P "__firstlineno__" 583 (.int 166 582)),(de P "__static_attributes__" 584 (.ref 263)),(de P "__weakref__" 586 (.ref 266)),(de P "__doc__" 587 .none)] 3) #[])) ::
 (nat_lit 265,(.mk (.type "type") none (.cls (ClassData.mk "NoRoom" [(.type "Exception")] [(.ref 265),(.type "Exception"),(.type "BaseException"),(.type "object")] 264 "NoRoom" true [] [] false none false)) #[(some (.ref 256)),none,(some (.str "NoRoom" 572)),(some (.str "NoRoom" 580)),(some (.builtin "Exception.__new__")),(some (.bool true))])) ::
 (nat_lit 274,co "demand_range" "demand_range" 592 168 3 3 269 598 599) ::
 (nat_lit 275,fo "demand_range" "demand_range" qg "chancechoices.chances" 489 274) ::
 (nat_lit 281,co "read_given" "read_given" 601 171 2 3 276 606 607) ::
 (nat_lit 282,fo "read_given" "read_given" tK "chancechoices.chances" 489 281) ::
 (nat_lit 288,co "read_given_goals" "read_given_goals" 609 175 3 3 283 616 617) ::
 (nat_lit 289,fo "read_given_goals" "read_given_goals" nD "chancechoices.chances" 489 288) ::
 (nat_lit 295,co "answer" "answer" 619 181 1 3 290 623 624) ::
 (nat_lit 296,fo "answer" "answer" xR "chancechoices.chances" 489 295) ::
 (nat_lit 302,co "common_divisor" "common_divisor" 626 194 2 3 297 632 633) ::
 (nat_lit 303,fo "common_divisor" "common_divisor" oA "chancechoices.chances" 489 302) ::
 (nat_lit 309,co "digits_of" "digits_of" 635 200 1 3 304 640 641) ::
 (nat_lit 310,fo "digits_of" "digits_of" uJ "chancechoices.chances" 489 309) ::
 (nat_lit 316,co "fraction_told" "fraction_told" 643 206 2 3 311 650 651) ::
 (nat_lit 317,fo "fraction_told" "fraction_told" nk "chancechoices.chances" 489 316) ::
 (nat_lit 323,co "tell" "tell" 653 212 3 3 318 662 663) ::
 (nat_lit 324,fo "tell" "tell" Hr "chancechoices.chances" 489 323) ::
 (nat_lit 337,co "__init__" "Values.__init__" 677 221 3 3 332 683 684) ::
 (nat_lit 338,fo "__init__" "Values.__init__" rm "chancechoices.chances" 489 337) ::
 (nat_lit 349,cn "told" "Values.told" 693 228 1 3 346 696 697) ::
 (nat_lit 350,fo "told" "Values.told" rq "chancechoices.chances" 489 349) ::
 (nat_lit 352,(.mk (.type "dict") none (.dict #[(de P "__module__" 672 (.str "chancechoices.chances" 489)),(de P "__firstlineno__" 676 (.int 219 675)),(de P "__init__" 685 (.ref 338)),(de P "negative" 692 (.ref 345)),(de P "told" 698 (.ref 350)),(de P "__static_attributes__" 701 (.ref 351)),(de P "__dict__" 703 (.ref 354)),(de P "__weakref__" 705 (.ref 355)),(de P "__doc__" 706 .none)] 4) #[])) ::
 (nat_lit 353,(.mk (.type "type") none (.cls (ClassData.mk "Values" [(.type "object")] [(.ref 353),(.type "object")] 352 "Values" true [] [] false none false)) #[none,none,(some (.str "Values" 665)),(some (.str "Values" 673)),(some (.builtin "object.__new__")),(some (.bool true))])) ::
 (nat_lit 361,cn "cleared" "cleared" 709 230 4 3 358 712 713) ::
 (nat_lit 362,fo "cleared" "cleared" yV "chancechoices.chances" 489 361) ::
 (nat_lit 366,cn "solve" "solve" 715 234 1 3 363 718 719) ::
 (nat_lit 367,fo "solve" "solve" Er "chancechoices.chances" 489 366) ::
 (nat_lit 380,co "__init__" "Quest.__init__" 733 243 3 3 375 739 740) ::
 (nat_lit 381,fo "__init__" "Quest.__init__" tO "chancechoices.chances" 489 380) ::
 (nat_lit 387,co "equation" "Quest.equation" 742 247 3 3 382 751 752) ::
 (nat_lit 388,fo "equation" "Quest.equation" oB "chancechoices.chances" 489 387) ::
 (nat_lit 392,cn "top_by" "Quest.top_by" 754 260 3 3 389 757 758) ::
 (nat_lit 393,fo "top_by" "Quest.top_by" qi "chancechoices.chances" 489 392) ::
 (nat_lit 399,co "is_better" "Quest.is_better" 760 264 4 3 394 767 768) ::
 (nat_lit 400,fo "is_better" "Quest.is_better" nR "chancechoices.chances" 489 399) ::
 (nat_lit 406,co "improved" "Quest.improved" 770 267 3 3 401 781 782) ::
 (nat_lit 407,fo "improved" "Quest.improved" oE "chancechoices.chances" 489 406) ::
 (nat_lit 411,cn "greatest" "Quest.greatest" 784 275 2 3 408 787 788) ::
 (nat_lit 412,fo "greatest" "Quest.greatest" oF "chancechoices.chances" 489 411) ::
 (nat_lit 428,(.mk (.type "dict") none (.dict #[(de P "__module__" 728 (.str "chancechoices.chances" 489)),(de P "__firstlineno__" 732 (.int 241 731)),(de P "__init__" 741 (.ref 381)),(de P "equation" 753 (.ref 388)),(de P "top_by" 759 (.ref 393)),(de P "is_better" 769 (.ref 400)),(de P "improved" 783 (.ref 407)),(de P "greatest" 789 (.ref 412)),(de P "step_ahead" 797 (.ref 419)),(de P "choice_told" 806 (.ref 426)),(de P "__static_attributes__" 809 (.ref 427)),(de P "__dict__" 811 (.ref 430)),(de P "__weakref__" 813 (.ref 431)),(de P "__doc__" 814 .none)] 4) #[])) ::
 (nat_lit 429,(.mk (.type "type") none (.cls (ClassData.mk "Quest" [(.type "object")] [(.ref 429),(.type "object")] 428 "Quest" true [] [] false none false)) #[none,none,(some (.str "Quest" 721)),(some (.str "Quest" 729)),(some (.builtin "object.__new__")),(some (.bool true))])) ::
 (nat_lit 437,cn "goal_marks" "goal_marks" 817 288 2 3 434 820 821) ::
 (nat_lit 438,fo "goal_marks" "goal_marks" tL "chancechoices.chances" 489 437) ::
 (nat_lit 442,cn "gains_taken" "gains_taken" 823 290 2 3 439 826 827) ::
 (nat_lit 443,fo "gains_taken" "gains_taken" qW "chancechoices.chances" 489 442) ::
 (nat_lit 447,cn "options_till" "options_till" 829 292 3 3 444 832 833) ::
 (nat_lit 448,fo "options_till" "options_till" qh "chancechoices.chances" 489 447) ::
 (nat_lit 452,cn "leads_into" "leads_into" 835 294 2 3 449 838 839) ::
 (nat_lit 453,fo "leads_into" "leads_into" tM "chancechoices.chances" 489 452) ::
 (nat_lit 457,cn "plan_toward" "plan_toward" 841 296 2 3 454 844 845) ::
 (nat_lit 458,fo "plan_toward" "plan_toward" qX "chancechoices.chances" 489 457) ::
 (nat_lit 462,cn "options_where" "options_where" 847 306 2 3 459 850 851) ::
 (nat_lit 463,fo "options_where" "options_where" pG "chancechoices.chances" 489 462) ::
 (nat_lit 467,cn "tell_best" "tell_best" 853 308 3 3 464 856 857) ::
 (nat_lit 468,fo "tell_best" "tell_best" uK "chancechoices.chances" 489 467) ::
 (nat_lit 474,co "best" "best" 859 315 3 3 469 868 869) ::
 (nat_lit 475,fo "best" "best" AS "chancechoices.chances" 489 474)::[]
def Ka:List Addr:=[3,22,31,32,41,42,48,49,55,56,62,63,69,70,83,84,90,91,97,98,104,105,111,112,118,119,125,126,132,133,135,136,146,147,153,154,167,168,170,171,179,180,193,194,196,197,205,206,210,211,215,216,225,226,238,239,251,252,264,265,274,275,281,282,288,289,295,296,302,303,309,310,316,317,323,324,337,338,349,350,352,353,361,362,366,367,380,381,387,388,392,393,399,400,406,407,411,412,428,429,437,438,442,443,447,448,452,453,457,458,462,463,467,468,474,475]
def Kh:Hook:=kHook Kt Ka (λ _=>by kernel_rfl)
abbrev WY:Shared->Bool:=λ s=>xlAt ym [] s&&recOk [] s
theorem pre0(w:World):(λ os=>(topGo treeTable pg w 11 (some (.ref 6)) 12 ⟨boot_heap w.params,Array.mk [],boot_drawn,boot_toks,os⟩ (topStub pg)).map (·.2))=λ _=>some ⟨denote treeTable (.body Tu ev),.body Tu ev,p0,[topFrame p0]⟩:=by kernel_rfl
theorem blk0(w:World):(λ os=>(topGo treeTable pg w 11 (some (.ref 6)) 12 ⟨boot_heap w.params,Array.mk [],boot_drawn,boot_toks,os⟩ (topStub pg)).bind λ x=>segRun treeTable pg w 11 (some (.ref 6)) 1 1 x.1 (blockOf Tu ev (.body Tu ev) p0 [topFrame p0]))=λ os=>some (.next,(Yu w.params os).abs,.body Tu ev,p0):=by kernel_rfl
abbrev UT(w:World)(os:OsState):Option Shared:=Ks pg w 11 (some (.ref 6)) 3781 2 (Yu w.params os) Tu ev p0 p0
theorem run1(w:World):(λ os=>(UT w os).map λ s=>(staticsOk (importedModules pg.main.body) (boot_heap w.params) s.heap&&namesBound pg s.heap&&gensDone s&&laidKept (boot_heap w.params) s.heap,s.heap.bltView,tabsOk ym s,pinSeenD ym (drecsOf ym) s,Kh.obs s))=λ _=>some (true,bltViewBooted,true,pinGoodD (drecsOf ym),Kh.val w):=by kernel_rfl
theorem run2(w:World):(λ os=>(UT w os).map λ s=>seen ((recsOf ym).map (·.name)) (ownsOf ym) [] { s with gens:=#[] })=λ _=>some (expectedOf ym):=by kernel_rfl
theorem run3(w:World):(λ os=>(UT w os).map λ s=>s.heap.keysOk (looseW ym []) ((recsOf ym).map (·.name)) ((litsOf ym).map (·.1)) ((clssOf ym (looseW ym [])).map (·.name))&&s.heap.accountedOkI (importedModules pg.main.body))=λ _=>some true:=by kernel_rfl
theorem run4(w:World):(λ os=>(UT w os).map λ s=>s.heap.isNs mainGlobals&&s.heap.isNs builtinsNs&&tablesOk ym s.heap&&WY s&&(s.gens.size==0))=λ _=>some true:=by kernel_rfl
theorem run5(w:World):(λ os=>(UT w os).map λ s=>(plainSeenE ym (looseW ym []) s,plainSeenD ym [] s,wideSeen ym s,clsSeenW ym [] s))=λ _=>some (plainGoodE ym (looseW ym []),plainGoodD ym [],wideGood ym,clsGoodW ym []):=by kernel_rfl
theorem UU:LeftO pg ym [] WY Kh.obs Kh.val 7686:=
 Kv (boot_open (by kernel_rfl) (by decide) (λ _=>by kernel_rfl)) (λ _=>by kernel_rfl) pre0 blk0 run1 run2 run3 run4 run5 (by decide)
theorem j9{K:Frag}{h:Heap}{mg:Str->Option Value}{x q:Str}{d:Stmt}{ps:List Str}{a:Addr}(X:K.In h)(G:h.Ns mainGlobals mg)(m:Str)(t c:Nat)(e:nsIn K mainGlobals x=some (some (.ref a)))(l:K.lookup a=some (fo x q d m t c))(hc:codeIn K (.ref c) q=true)
  (b:∀(kV doc pm:Value) (an:Option Addr) (cdv ct:Value) (us:List Value),us.length=ps.length->bindArgs (fnOf x q (tw d) (qE d) (jk d) .none kV doc pm an cdv ct) ⟨us,[]⟩=pure (ps.zip us)):wV K mg x q d ps a (ff x q d m t c):=
 have F:=Mg (st:=d) l hc (by unfold keepIn;dsimp only;rw[l])
 ⟨F,F.binds b,mg_of X G e⟩
theorem mi{K:Frag}{x q:Str}{d:Stmt}{ps:List Str}{C a:Addr}(m:Str)(t c:Nat)(e:findIn K (.ref C) x=some (some (.ref a)))(l:K.lookup a=some (fo x q d m t c))(hc:codeIn K (.ref c) q=true)
  (b:∀(kV doc pm:Value) (an:Option Addr) (cdv ct:Value) (us:List Value),us.length=ps.length->bindArgs (fnOf x q (tw d) (qE d) (jk d) .none kV doc pm an cdv ct) ⟨us,[]⟩=pure (ps.zip us)):Met K x q d ps C a (ff x q d m t c):=
 have kp:keepIn K (.ref a)=true:=by unfold keepIn;dsimp only;rw[l]
 have F:=Mg (st:=d) l hc kp
 ⟨F,F.binds b,⟨e,by unfold isFn typeIn;dsimp only;rw[l];rfl,kp⟩⟩
theorem ug{K:Frag}{C:Addr}{f:Str}(e:findIn K (.ref C) f=some none):lV K C f:=e
theorem jM{K:Frag}{C D:Addr}(h:(match K.lookup C with | some ⟨_,_,.cls cd,_⟩=>!cd.mro.contains (.ref D) | _=>false)=true):lB K C D:=by
 split at h
 ·rename_i l
  exact⟨_,_,_,_,l,by simpa using h⟩
 ·cases h
theorem kj{K:Frag}{h:Heap}{mg:Str->Option Value}{x:Str}{v:Int}(X:K.In h)(G:h.Ns mainGlobals mg)(e:(match nsIn K mainGlobals x with | some (some (.int i _))=>i==v | _=>false)=true):wW mg x (.int v):=by
 split at e
 ·rename_i l
  cases beq_iff_eq.mp e;exact⟨_,mg_of X G l,⟨_,rfl⟩⟩
 ·cases e
theorem txt{h:Heap}{mg:Str->Option Value}{P:Params}(X:(Kt P).In h)(G:h.Ns mainGlobals mg):∃t,Txt (Kt P) mg t:=
 ⟨⟨42,_,49,_,56,_,63,_,70,_,147,_,154,_,180,_,206,_,211,_,216,_,275,_,282,_,289,_,296,_,303,_,310,_,317,_,324,_,362,_,367,_,438,_,443,_,448,_,453,_,458,_,463,_,468,_,475,_,84,_,91,_,98,_,105,_,112,_,119,_,126,_,133,_,168,_,194,_,338,_,350,_,381,_,388,_,393,_,400,_,407,_,412,_,136,171,197,353,429,32,226,239,252,265,22⟩,
 ⟨j9 X G "chancechoices.texts" 194 41 (by kernel_rfl) (by kernel_rfl) (by kernel_rfl) (λ _ _ _ _ _ _ us hl=>match us,hl with | [_],_=>rfl),
 j9 X G "chancechoices.texts" 194 48 (by kernel_rfl) (by kernel_rfl) (by kernel_rfl) (λ _ _ _ _ _ _ us hl=>match us,hl with | [_],_=>rfl),
 j9 X G "chancechoices.texts" 194 55 (by kernel_rfl) (by kernel_rfl) (by kernel_rfl) (λ _ _ _ _ _ _ us hl=>match us,hl with | [_],_=>rfl),
 j9 X G "chancechoices.texts" 194 62 (by kernel_rfl) (by kernel_rfl) (by kernel_rfl) (λ _ _ _ _ _ _ us hl=>match us,hl with | [_],_=>rfl),
 j9 X G "chancechoices.texts" 194 69 (by kernel_rfl) (by kernel_rfl) (by kernel_rfl) (λ _ _ _ _ _ _ us hl=>match us,hl with | [_],_=>rfl),
 j9 X G "chancechoices.texts" 194 146 (by kernel_rfl) (by kernel_rfl) (by kernel_rfl) (λ _ _ _ _ _ _ us hl=>match us,hl with | [_],_=>rfl),
 j9 X G "chancechoices.texts" 194 153 (by kernel_rfl) (by kernel_rfl) (by kernel_rfl) (λ _ _ _ _ _ _ us hl=>match us,hl with | [_],_=>rfl),
 j9 X G "chancechoices.texts" 194 179 (by kernel_rfl) (by kernel_rfl) (by kernel_rfl) (λ _ _ _ _ _ _ us hl=>match us,hl with | [_],_=>rfl),
 j9 X G "chancechoices.texts" 194 205 (by kernel_rfl) (by kernel_rfl) (by kernel_rfl) (λ _ _ _ _ _ _ us hl=>match us,hl with | [_],_=>rfl),
 j9 X G "chancechoices.texts" 194 210 (by kernel_rfl) (by kernel_rfl) (by kernel_rfl) (λ _ _ _ _ _ _ us hl=>match us,hl with | [_,_],_=>rfl),
 j9 X G "chancechoices.texts" 194 215 (by kernel_rfl) (by kernel_rfl) (by kernel_rfl) (λ _ _ _ _ _ _ us hl=>match us,hl with | [_],_=>rfl),
 j9 X G "chancechoices.chances" 489 274 (by kernel_rfl) (by kernel_rfl) (by kernel_rfl) (λ _ _ _ _ _ _ us hl=>match us,hl with | [_,_,_],_=>rfl),
 j9 X G "chancechoices.chances" 489 281 (by kernel_rfl) (by kernel_rfl) (by kernel_rfl) (λ _ _ _ _ _ _ us hl=>match us,hl with | [_,_],_=>rfl),
 j9 X G "chancechoices.chances" 489 288 (by kernel_rfl) (by kernel_rfl) (by kernel_rfl) (λ _ _ _ _ _ _ us hl=>match us,hl with | [_,_,_],_=>rfl),
 j9 X G "chancechoices.chances" 489 295 (by kernel_rfl) (by kernel_rfl) (by kernel_rfl) (λ _ _ _ _ _ _ us hl=>match us,hl with | [_],_=>rfl),
 j9 X G "chancechoices.chances" 489 302 (by kernel_rfl) (by kernel_rfl) (by kernel_rfl) (λ _ _ _ _ _ _ us hl=>match us,hl with | [_,_],_=>rfl),
 j9 X G "chancechoices.chances" 489 309 (by kernel_rfl) (by kernel_rfl) (by kernel_rfl) (λ _ _ _ _ _ _ us hl=>match us,hl with | [_],_=>rfl),
 j9 X G "chancechoices.chances" 489 316 (by kernel_rfl) (by kernel_rfl) (by kernel_rfl) (λ _ _ _ _ _ _ us hl=>match us,hl with | [_,_],_=>rfl),
 j9 X G "chancechoices.chances" 489 323 (by kernel_rfl) (by kernel_rfl) (by kernel_rfl) (λ _ _ _ _ _ _ us hl=>match us,hl with | [_,_,_],_=>rfl),
 j9 X G "chancechoices.chances" 489 361 (by kernel_rfl) (by kernel_rfl) (by kernel_rfl) (λ _ _ _ _ _ _ us hl=>match us,hl with | [_,_,_,_],_=>rfl),
 j9 X G "chancechoices.chances" 489 366 (by kernel_rfl) (by kernel_rfl) (by kernel_rfl) (λ _ _ _ _ _ _ us hl=>match us,hl with | [_],_=>rfl),
 j9 X G "chancechoices.chances" 489 437 (by kernel_rfl) (by kernel_rfl) (by kernel_rfl) (λ _ _ _ _ _ _ us hl=>match us,hl with | [_,_],_=>rfl),
 j9 X G "chancechoices.chances" 489 442 (by kernel_rfl) (by kernel_rfl) (by kernel_rfl) (λ _ _ _ _ _ _ us hl=>match us,hl with | [_,_],_=>rfl),
 j9 X G "chancechoices.chances" 489 447 (by kernel_rfl) (by kernel_rfl) (by kernel_rfl) (λ _ _ _ _ _ _ us hl=>match us,hl with | [_,_,_],_=>rfl),
 j9 X G "chancechoices.chances" 489 452 (by kernel_rfl) (by kernel_rfl) (by kernel_rfl) (λ _ _ _ _ _ _ us hl=>match us,hl with | [_,_],_=>rfl),
 j9 X G "chancechoices.chances" 489 457 (by kernel_rfl) (by kernel_rfl) (by kernel_rfl) (λ _ _ _ _ _ _ us hl=>match us,hl with | [_,_],_=>rfl),
 j9 X G "chancechoices.chances" 489 462 (by kernel_rfl) (by kernel_rfl) (by kernel_rfl) (λ _ _ _ _ _ _ us hl=>match us,hl with | [_,_],_=>rfl),
 j9 X G "chancechoices.chances" 489 467 (by kernel_rfl) (by kernel_rfl) (by kernel_rfl) (λ _ _ _ _ _ _ us hl=>match us,hl with | [_,_,_],_=>rfl),
 j9 X G "chancechoices.chances" 489 474 (by kernel_rfl) (by kernel_rfl) (by kernel_rfl) (λ _ _ _ _ _ _ us hl=>match us,hl with | [_,_,_],_=>rfl),
 mi "chancechoices.texts" 194 83 (by kernel_rfl) (by kernel_rfl) (by kernel_rfl) (λ _ _ _ _ _ _ us hl=>match us,hl with | [_,_],_=>rfl),
 mi "chancechoices.texts" 194 90 (by kernel_rfl) (by kernel_rfl) (by kernel_rfl) (λ _ _ _ _ _ _ us hl=>match us,hl with | [_],_=>rfl),
 mi "chancechoices.texts" 194 97 (by kernel_rfl) (by kernel_rfl) (by kernel_rfl) (λ _ _ _ _ _ _ us hl=>match us,hl with | [_],_=>rfl),
 mi "chancechoices.texts" 194 104 (by kernel_rfl) (by kernel_rfl) (by kernel_rfl) (λ _ _ _ _ _ _ us hl=>match us,hl with | [_],_=>rfl),
 mi "chancechoices.texts" 194 111 (by kernel_rfl) (by kernel_rfl) (by kernel_rfl) (λ _ _ _ _ _ _ us hl=>match us,hl with | [_],_=>rfl),
 mi "chancechoices.texts" 194 118 (by kernel_rfl) (by kernel_rfl) (by kernel_rfl) (λ _ _ _ _ _ _ us hl=>match us,hl with | [_,_],_=>rfl),
 mi "chancechoices.texts" 194 125 (by kernel_rfl) (by kernel_rfl) (by kernel_rfl) (λ _ _ _ _ _ _ us hl=>match us,hl with | [_],_=>rfl),
 mi "chancechoices.texts" 194 132 (by kernel_rfl) (by kernel_rfl) (by kernel_rfl) (λ _ _ _ _ _ _ us hl=>match us,hl with | [_],_=>rfl),
 mi "chancechoices.texts" 194 167 (by kernel_rfl) (by kernel_rfl) (by kernel_rfl) (λ _ _ _ _ _ _ us hl=>match us,hl with | [_,_,_,_,_],_=>rfl),
 mi "chancechoices.texts" 194 193 (by kernel_rfl) (by kernel_rfl) (by kernel_rfl) (λ _ _ _ _ _ _ us hl=>match us,hl with | [_,_,_],_=>rfl),
 mi "chancechoices.chances" 489 337 (by kernel_rfl) (by kernel_rfl) (by kernel_rfl) (λ _ _ _ _ _ _ us hl=>match us,hl with | [_,_,_],_=>rfl),
 mi "chancechoices.chances" 489 349 (by kernel_rfl) (by kernel_rfl) (by kernel_rfl) (λ _ _ _ _ _ _ us hl=>match us,hl with | [_],_=>rfl),
 mi "chancechoices.chances" 489 380 (by kernel_rfl) (by kernel_rfl) (by kernel_rfl) (λ _ _ _ _ _ _ us hl=>match us,hl with | [_,_,_],_=>rfl),
 mi "chancechoices.chances" 489 387 (by kernel_rfl) (by kernel_rfl) (by kernel_rfl) (λ _ _ _ _ _ _ us hl=>match us,hl with | [_,_,_],_=>rfl),
 mi "chancechoices.chances" 489 392 (by kernel_rfl) (by kernel_rfl) (by kernel_rfl) (λ _ _ _ _ _ _ us hl=>match us,hl with | [_,_,_],_=>rfl),
 mi "chancechoices.chances" 489 399 (by kernel_rfl) (by kernel_rfl) (by kernel_rfl) (λ _ _ _ _ _ _ us hl=>match us,hl with | [_,_,_,_],_=>rfl),
 mi "chancechoices.chances" 489 406 (by kernel_rfl) (by kernel_rfl) (by kernel_rfl) (λ _ _ _ _ _ _ us hl=>match us,hl with | [_,_,_],_=>rfl),
 mi "chancechoices.chances" 489 411 (by kernel_rfl) (by kernel_rfl) (by kernel_rfl) (λ _ _ _ _ _ _ us hl=>match us,hl with | [_,_],_=>rfl),
 ⟨⟨by kernel_rfl,by kernel_rfl,by kernel_rfl,by kernel_rfl⟩,mg_of X G (by kernel_rfl),by kernel_rfl,by kernel_rfl⟩,
 ug (by kernel_rfl),
 ug (by kernel_rfl),
 ⟨⟨by kernel_rfl,by kernel_rfl,by kernel_rfl,by kernel_rfl⟩,mg_of X G (by kernel_rfl),by kernel_rfl,by kernel_rfl⟩,
 ug (by kernel_rfl),
 ug (by kernel_rfl),
 ug (by kernel_rfl),
 ug (by kernel_rfl),
 ⟨⟨by kernel_rfl,by kernel_rfl,by kernel_rfl,by kernel_rfl⟩,mg_of X G (by kernel_rfl),by kernel_rfl,by kernel_rfl⟩,
 ug (by kernel_rfl),
 ug (by kernel_rfl),
 ⟨⟨by kernel_rfl,by kernel_rfl,by kernel_rfl,by kernel_rfl⟩,mg_of X G (by kernel_rfl),by kernel_rfl,by kernel_rfl⟩,
 ug (by kernel_rfl),
 ug (by kernel_rfl),
 ⟨⟨by kernel_rfl,by kernel_rfl,by kernel_rfl,by kernel_rfl⟩,mg_of X G (by kernel_rfl),by kernel_rfl,by kernel_rfl⟩,
 ug (by kernel_rfl),
 ug (by kernel_rfl),
 ⟨mg_of X G (by kernel_rfl),by kernel_rfl⟩,
 ⟨mg_of X G (by kernel_rfl),by kernel_rfl⟩,
 ⟨mg_of X G (by kernel_rfl),by kernel_rfl⟩,
 ⟨mg_of X G (by kernel_rfl),by kernel_rfl⟩,
 ⟨mg_of X G (by kernel_rfl),by kernel_rfl⟩,
 kj X G (by kernel_rfl),
 kj X G (by kernel_rfl),
 kj X G (by kernel_rfl),
 kj X G (by kernel_rfl),
 kj X G (by kernel_rfl),
 kj X G (by kernel_rfl),
 kj X G (by kernel_rfl),
 kj X G (by kernel_rfl),
 kj X G (by kernel_rfl),
 kj X G (by kernel_rfl),
 kj X G (by kernel_rfl),
 kj X G (by kernel_rfl),
 kj X G (by kernel_rfl),
 kj X G (by kernel_rfl),
 kj X G (by kernel_rfl),
 kj X G (by kernel_rfl),
 kj X G (by kernel_rfl),
 kj X G (by kernel_rfl),
 kj X G (by kernel_rfl),
 kj X G (by kernel_rfl),
 mg_of X G (by kernel_rfl),
 λ H=>.inr ⟨_,_,_,(show (Kt P).lookup 22=some ⟨.type "tuple",none,.seq #[(.int 115 236),(.int 116 237),(.int 97 238),(.int 116 239),(.int 101 240)] 0,#[]⟩ by kernel_rfl),rfl,rfl,(by show (5:Nat)<=sizeLine;decide),.cons ⟨_,rfl⟩ (.cons ⟨_,rfl⟩ (.cons ⟨_,rfl⟩ (.cons ⟨_,rfl⟩ (.cons ⟨_,rfl⟩ (.nil)))))⟩,
 kj X G (by kernel_rfl),
 kj X G (by kernel_rfl),
 kj X G (by kernel_rfl),
 kj X G (by kernel_rfl),
 kj X G (by kernel_rfl),
 kj X G (by kernel_rfl),
 kj X G (by kernel_rfl),
 kj X G (by kernel_rfl),
 mg_none_of X G (by kernel_rfl),
 mg_none_of X G (by kernel_rfl),
 mg_none_of X G (by kernel_rfl),
 mg_none_of X G (by kernel_rfl),
 mg_none_of X G (by kernel_rfl),
 mg_none_of X G (by kernel_rfl),
 mg_none_of X G (by kernel_rfl),
 mg_none_of X G (by kernel_rfl),
 mg_none_of X G (by kernel_rfl),
 mg_none_of X G (by kernel_rfl),
 mg_none_of X G (by kernel_rfl),
 mg_none_of X G (by kernel_rfl),
 jM (by kernel_rfl),
 jM (by kernel_rfl),
 jM (by kernel_rfl),
 jM (by kernel_rfl),
 jM (by kernel_rfl),
 jM (by kernel_rfl),
 jM (by kernel_rfl),
 jM (by kernel_rfl),
 jM (by kernel_rfl),
 jM (by kernel_rfl),
 jM (by kernel_rfl),
 jM (by kernel_rfl),
 jM (by kernel_rfl),
 jM (by kernel_rfl),
 jM (by kernel_rfl),
 jM (by kernel_rfl),
 jM (by kernel_rfl),
 jM (by kernel_rfl),
 jM (by kernel_rfl),
 jM (by kernel_rfl)⟩⟩
end Ck
end
noncomputable section
namespace Fq
open Ra61
def Is(x:Fr)(a b:Int):Prop:=0<x.den/\0<b/\x.num*b=a*(x.den:Int)
theorem Na{z:Int}{d:Nat}(h:0<d):0<(fr z d).den:=by
 show 0<d/max 1 (bq z.natAbs d)
 have hg:0<bq z.natAbs d:=cX _ h
 rw[Nat.max_eq_right hg]
 exact Nat.div_pos (Nat.le_of_dvd h (gE _ _)) hg
theorem UW{z:Int}{d:Nat}(h:0<d):Is (fr z d) z d:=by
 refine⟨Na h,by omega,?_⟩
 have hg:0<bq z.natAbs d:=cX _ h
 show z/((max 1 (bq z.natAbs d):Nat):Int)*(d:Int)=z*((d/max 1 (bq z.natAbs d):Nat):Int)
 rw[Nat.max_eq_right hg]
 have h1:((bq z.natAbs d:Nat):Int) ∣ z:=Int.ofNat_dvd_left.mpr (Nat.gcd_dvd_left _ _)
 obtain⟨k,hk⟩:=h1
 obtain⟨m,hm⟩:=gE z.natAbs d
 generalize bq z.natAbs d=g at hk hm hg
 subst hk
 have hg':(g:Int)≠0:=by omega
 rw[Int.mul_ediv_cancel_left _ hg',hm,Nat.mul_div_cancel_left _ hg]
 push_cast
 rw[Int.mul_comm (g:Int) k,Int.mul_assoc]
theorem Bk(z:Int){d k:Nat}(hk:0<k):frac (z*(k:Int)) (d*k)=frac z d:=by
 have e1:(z*(k:Int)).natAbs=z.natAbs*k:=by rw[gu];rfl
 have e2:(z*(k:Int)<0)↔z<0:=by
  constructor
  ·intro h
   rcases Int.lt_or_le z 0 with q | q
   ·exact q
   ·have:=Int.mul_nonneg q (show (0:Int)<=(k:Int) by omega);omega
  ·intro h;exact Int.mul_neg_of_neg_of_pos h (by omega)
 unfold frac
 simp only[e1,e2,Nat.gcd_mul_right,Nat.mul_div_mul_right _ _ hk]
theorem PK{z z':Int}{d d':Nat}(hd:0<d)(hd':0<d')(e:z*(d':Int)=z'*(d:Int)):frac z d=frac z' d':=by
 rw[<-Bk z (d:=d) hd',<-Bk z' (d:=d') hd,e,gT d d']
theorem Is.told{x:Fr}{a b:Int}(h:Is x a b):toldFr x=frac a b.toNat:=by
 obtain⟨h1,h2,h3⟩:=h
 refine PK h1 (by omega) ?_
 rw[f7 (by omega)]
 exact h3
def Nb(v:Row)(jf:List Int)(bot:Int):Prop:=v.length=jf.length/\∀i:Nat,i<jf.length->Is (at_ v i) (jf.getD i 0) bot
theorem Nb.at{v:Row}{jf:List Int}{bot:Int}(h:Nb v jf bot){i:Nat}(hi:i<jf.length):Is (at_ v i) (jf.getD i 0) bot:=h.2 i hi
def ahead(ws:List (Nat×Nat))(jf:List Int):Int:=(ws.map λ w=>(w.2:Int)*jf.getD w.1 0).sum
structure kU where
 name:List Nat
 gain:Int
 ways:List (Nat×Nat)
 tot:Int
def kU.top(o:kU)(jf:List Int)(bot:Int):Int:=o.gain*o.tot*bot+ahead o.ways jf
def kU.better(o p:kU)(jf:List Int)(bot:Int):Bool:=decide (p.top jf bot*o.tot<o.top jf bot*p.tot)
def jz:kU:=⟨[],0,[],1⟩
def kK(os:List kU)(jf:List Int)(bot:Int):Nat->List kU->Nat->Nat
 |_,[],b=>b
 |i,o::r,b=>kK os jf bot (i+1) r (if o.better (os.getD b jz) jf bot=true then i else b)
def pick(os:List kU)(jf:List Int)(bot:Int)(b:Nat):Nat:=kK os jf bot 0 os b
def IM(o p:kU)(jf:List Int)(bot:Int):Prop:=o.top jf bot*p.tot<=p.top jf bot*o.tot
theorem DF{o p q:kU}{jf:List Int}{bot:Int}(ho:0<o.tot)(hp:0<p.tot)(hq:0<q.tot)(h:IM o p jf bot)(k:IM p q jf bot):IM o q jf bot:=by
 unfold IM at *
 have h1:=bR h (fy hq)
 have h2:=bR k (fy ho)
 generalize o.top jf bot=a at *
 generalize p.top jf bot=b at *
 generalize q.top jf bot=c at *
 have e1:a*p.tot*q.tot=a*q.tot*p.tot:=by grind
 have e2:b*o.tot*q.tot=b*q.tot*o.tot:=by grind
 have e3:c*p.tot*o.tot=c*o.tot*p.tot:=by grind
 have e:a*q.tot*p.tot<=c*o.tot*p.tot:=by omega
 exact Int.le_of_mul_le_mul_right e hp
theorem Ac{os:List kU}{jf:List Int}{bot:Int}(ht:∀o∈os,0<o.tot):∀(r:List kU) (i b:Nat),os.drop i=r->b<os.length ->
  kK os jf bot i r b<os.length/\IM (os.getD b jz) (os.getD (kK os jf bot i r b) jz) jf bot/\∀o∈r,IM o (os.getD (kK os jf bot i r b) jz) jf bot
 |[],i,b,_,hb=>⟨hb,Int.le_refl _,by simp⟩
 |o::r,i,b,hd,hb=>by
  have hil:i<os.length:=by
   have:=congrArg dU hd;rw[fJ] at this;simp at this;omega
  have UX:os[i]=o:=by
   rw[bB hil] at hd;exact (gJ hd).1
  have hdr:os.drop (i+1)=r:=by
   rw[bB hil] at hd;exact (gJ hd).2
  have gD:∀{j:Nat} (hj:j<os.length),os.getD j jz=os[j]:=λ hj=>by rw[aa,af hj];rfl
  have tD:∀{j:Nat} (hj:j<os.length),0<(os.getD j jz).tot:=λ hj=>by rw[gD hj];exact ht _ (aW hj)
  show kK os jf bot (i+1) r (if o.better (os.getD b jz) jf bot=true then i else b)<os.length/\IM _ (os.getD (kK os jf bot (i+1) r (if o.better (os.getD b jz) jf bot=true then i else b)) jz) jf bot/\_
  by_cases q:o.better (os.getD b jz) jf bot=true
  ·rw[if_pos q];obtain⟨i1,i2,i3⟩:=Ac ht r (i+1) i hdr hil;unfold kU.better at q;rw[decide_eq_true_eq] at q;rw[gD hil,UX] at i2;refine⟨i1,?_,λ p hp=>?_⟩
   ·exact DF (tD hb) (UX ▸ ht _ (aW hil)) (tD i1) (fy q) i2
   ·show IM p (os.getD (kK os jf bot (i+1) r (if o.better (os.getD b jz) jf bot=true then i else b)) jz) jf bot;rw[if_pos (by unfold kU.better;rw[decide_eq_true_eq];exact q)]
    rcases aB.mp hp with rfl | hp
    ·exact i2
    ·exact i3 p hp
  ·rw[if_neg q];obtain⟨i1,i2,i3⟩:=Ac ht r (i+1) b hdr hb;have q':=q;unfold kU.better at q';rw[decide_eq_true_eq,Int.not_lt] at q';refine⟨i1,i2,λ p hp=>?_⟩;show IM p (os.getD (kK os jf bot (i+1) r (if o.better (os.getD b jz) jf bot=true then i else b)) jz) jf bot;rw[if_neg q]
   rcases aB.mp hp with rfl | hp
   ·exact DF (UX ▸ ht _ (aW hil)) (tD hb) (tD i1) q' i2
   ·exact i3 p hp
theorem Bl{os:List kU}{jf:List Int}{bot:Int}{b:Nat}(ht:∀o∈os,0<o.tot)(hb:b<os.length):pick os jf bot b<os.length/\∀o∈os,IM o (os.getD (pick os jf bot b) jz) jf bot:=
 let ⟨a,_,c⟩:=Ac ht os 0 b rfl hb
 ⟨a,c⟩
structure Good(N:Net):Prop where
 len:1<=N.length/\N.length<=16
 few:∀s∈N,s.choices.length<=8
 ways:∀s∈N,∀c∈s.choices,c.ways≠[]/\c.ways.length<=16/\(∀w∈c.ways,w.1<N.length/\1<=w.2/\w.2<=1000)/\-1000<=c.gain/\c.gain<=1000
theorem qP{N:Net}{s:Nat}{c:Choice}(h:c∈choicesOf N s):∃x∈N,c∈x.choices:=by
 unfold choicesOf at h
 cases e:N[s]? with
 |none=>rw[e] at h;simp at h
 |some x=>rw[e] at h;exact⟨x,au e,by simpa using h⟩
theorem Bo{c:Choice}(hn:c.ways≠[])(h:∀w∈c.ways,1<=w.2):0<c.weight:=by
 unfold Choice.weight
 cases e:c.ways with
 |nil=>exact absurd e hn
 |cons w r=>
  rw[aU,cW];have:=h w (by rw[e];exact aP);omega
def lX(times:Int)(c:Choice):kU:=⟨c.name,c.gain*times,c.ways,(c.weight:Int)⟩
def rF(N:Net)(g:Nat)(times:Int):List (List kU):=(ay N.length).map λ s=>if isGoal g s=true then [] else (choicesOf N s).map (lX times)
def jy(N:Net)(g:Nat):List Int:=(ay N.length).map λ s=>if isGoal g s=true then 1 else 0
end Fq
end
noncomputable section
namespace Rd
open Ra61
theorem zc{α:Type}[DecidableEq α]:∀(l m:List α),l.Nodup->(∀x∈l,x∈m)->l.length<=m.length
 |[],_,_,_=>aZ _
 |x::l,m,hn,hs=>by
  rw[cR] at hn;have hx:=hs x aP;have ih:=zc l (m.erase x) hn.2 λ y hy=>by
   have ne:y≠x:=λ e=>hn.1 (by rw[<-e];exact hy)
   exact (iz ne).mpr (hs y (aM _ hy))
  rw[gH hx] at ih;have:0<m.length:=gY hx;rw[aK];omega
theorem DG{b:B}{x}(h:nj b=some x):1<=x.1.2/\x.1.2<=1000:=by
 obtain⟨a,_,h⟩:=bind_some h
 obtain⟨y,_,h⟩:=bind_some h
 obtain⟨n,_,h⟩:=bind_some h
 obtain⟨q,h⟩:=jl h
 cases h
 exact q
theorem UY:∀(n:Nat) (b:B),b.length<n->∀r,MW b=some r->∀w∈r.1,1<=w.2/\w.2<=1000
 |0,b,h,_,_=>by omega
 |n+1,b,h,r,e=>by
  rw[xO] at e;have hp:=jw 44 b
  split at e
  ·rename_i hx
   have hl:=vE (m:=44) (by decide) hx;obtain⟨w,e1,e⟩:=bind_some e;obtain⟨z,e2,rfl⟩:=map_some e;have:=kT e1;intro v hv
   rcases aB.mp hv with rfl | hv
   ·exact DG e1
   ·exact UY n w.2 (by omega) z e2 v hv
  ·cases e;simp
theorem zJ{b:B}{x}(h:jP b=some x):x.1.length<=16:=by
 unfold jP at h
 dsimp only at h
 obtain⟨_,h⟩:=jl h
 obtain⟨l,h⟩:=jl h
 cases h
 exact l
structure IP(c:RawChoice):Prop where
 ne:c.ways≠[]
 w:∀w∈c.ways,1<=w.2/\w.2<=1000
 nd:(c.ways.map λ w=>w.1).Nodup
 g:-1000<=c.gain/\c.gain<=1000
 nm:c.name.length<=16
theorem Hu{b:B}{x}(h:oW b=some x):-1000<=x.1/\x.1<=1000:=by
 obtain⟨y,_,h⟩:=bind_some h
 obtain⟨n,_,h⟩:=bind_some h
 obtain⟨q,h⟩:=jl h
 cases h
 show -1000<=(if y.1=true then -(n.1:Int) else (n.1:Int))/\(if y.1=true then -(n.1:Int) else (n.1:Int))<=1000
 split<;>omega
theorem EC{b:B}{x}(h:kR b=some x):IP x.1:=by
 rw[mX] at h
 obtain⟨a,h1,h⟩:=bind_some h
 obtain⟨g,h2,h⟩:=bind_some h
 obtain⟨_,h⟩:=jl h
 obtain⟨y,h4,h⟩:=bind_some h
 obtain⟨r,h5,h⟩:=bind_some h
 obtain⟨_,h⟩:=jl h
 obtain⟨nd,h⟩:=jl h
 cases h
 refine⟨by simp,λ w hw=>?_,nd,Hu h2,zJ h1⟩
 rcases aB.mp hw with rfl | hw
 ·exact DG h4
 ·exact UY _ _ (aD _) _ h5 w hw
theorem UZ:∀(n:Nat) (b:B),b.length<n->∀r,MC b=some r->∀c∈r.1,IP c
 |0,b,h,_,_=>by omega
 |n+1,b,h,r,e=>by
  rw[xP] at e;have hp:=jw 125 b
  split at e
  ·cases e;simp
  ·obtain⟨w,e1,e⟩:=bind_some e;obtain⟨z,e2,rfl⟩:=map_some e;have:=lS e1;intro c hc
   rcases aB.mp hc with rfl | hc
   ·exact EC e1
   ·exact UZ n w.2 (by omega) z e2 c hc
theorem F1{b:B}{x}(h:readState b=some x):x.1.choices.length<=8/\∀c∈x.1.choices,IP c:=by
 rw[nQ] at h
 obtain⟨a,h1,h⟩:=bind_some h
 obtain⟨_,h⟩:=jl h
 obtain⟨y,h4,h⟩:=bind_some h
 obtain⟨_,h⟩:=jl h
 obtain⟨r,h5,h⟩:=bind_some h
 obtain⟨l,h⟩:=jl h
 obtain⟨_,h⟩:=jl h
 cases h
 exact⟨l,UZ _ _ (aD _) _ h5⟩
theorem U0:∀(n:Nat) (b:B),b.length<n->∀r,MS b=some r->∀s∈r,s.choices.length<=8/\∀c∈s.choices,IP c
 |0,b,h,_,_=>by omega
 |n+1,b,h,r,e=>by
  rw[xQ] at e;have hp:=kE false b
  split at e
  ·cases e;simp
  ·obtain⟨w,e1,e⟩:=bind_some e;obtain⟨z,e2,rfl⟩:=map_some e;have:=l6 e1;intro s hs
   rcases aB.mp hs with rfl | hs
   ·exact F1 e1
   ·exact U0 n w.2 (by omega) z e2 s hs
theorem Hv{names:List B}{x:B}(h:names.contains x=true):placeOf names x<names.length:=by
 have hm:x∈names:=by simpa using h
 unfold placeOf
 cases e:names.findIdx? (λ y=>y==x) with
 |none=>
  rw[eL] at e;have:=e x hm;simp at this
 |some j=>
  rw[bY] at e;obtain⟨h1,_⟩:=e;exact h1
theorem F2{b:B}{N:Net}(h:ku b=some N):Fq.Good N:=by
 rw[qT] at h
 obtain⟨raw,h1,h⟩:=bind_some h
 obtain⟨hl,h⟩:=jl h
 obtain⟨hn,h⟩:=jl h
 obtain⟨hc,h⟩:=jl h
 cases h
 have hg:=U0 _ _ (aD _) _ h1
 have len:(placed raw).length=raw.length:=by unfold placed;simp
 have mem:∀s∈placed raw,∃r∈raw,s=⟨r.name,r.choices.map λ c=>⟨c.name,c.gain,c.ways.map λ w=>(placeOf (raw.map λ s=>s.name) w.1,w.2)⟩⟩:=λ s hs=>by
  obtain⟨r,hr,e⟩:=az.mp hs;exact⟨r,hr,e.symm⟩
 refine⟨by rw[len];exact hl,λ s hs=>?_,λ s hs c O6=>?_⟩
 ·obtain⟨r,hr,rfl⟩:=mem s hs
  have:=(hg r hr).1
  simpa using this
 ·obtain⟨r,hr,rfl⟩:=mem s hs
  obtain⟨c',hc',rfl⟩:=az.mp O6;have G:=(hg r hr).2 c' hc';have QZ:∀w∈c'.ways,(raw.map λ s=>s.name).contains w.1=true:=λ w hw=>by
   have z1:=bD.mp hc r hr;have z2:=bD.mp z1 c' hc';exact bD.mp z2 w hw
  have nl:(raw.map λ s=>s.name).length=raw.length:=by simp
  refine⟨λ z=>G.ne (by simpa using z),?_,λ w hw=>?_,G.g⟩
  ·have:=zc (c'.ways.map λ w=>w.1) (raw.map λ s=>s.name) G.nd λ x hx=>by
    obtain⟨w,hw,rfl⟩:=az.mp hx
    simpa using QZ w hw
   simp only[ah] at this ⊢
   omega
  ·obtain⟨w',uh,rfl⟩:=az.mp hw;refine⟨?_,G.w w' uh⟩;rw[len,<-nl];exact Hv (QZ w' uh)
end Rd
end
noncomputable section
namespace Rd
open Ra61
theorem F3{b:B}{x}(h:readState b=some x):x.1.name.length<=16:=by
 rw[nQ] at h
 obtain⟨a,h1,h⟩:=bind_some h
 obtain⟨_,h⟩:=jl h
 obtain⟨y,h4,h⟩:=bind_some h
 obtain⟨_,h⟩:=jl h
 obtain⟨r,h5,h⟩:=bind_some h
 obtain⟨l,h⟩:=jl h
 obtain⟨_,h⟩:=jl h
 cases h
 exact zJ h4
theorem U1:∀(n:Nat) (b:B),b.length<n->∀r,MS b=some r->∀s∈r,s.name.length<=16
 |0,b,h,_,_=>by omega
 |n+1,b,h,r,e=>by
  rw[xQ] at e;have hp:=kE false b
  split at e
  ·cases e;simp
  ·obtain⟨w,e1,e⟩:=bind_some e;obtain⟨z,e2,rfl⟩:=map_some e;have:=l6 e1;intro s hs
   rcases aB.mp hs with rfl | hs
   ·exact F3 e1
   ·exact U1 n w.2 (by omega) z e2 s hs
theorem KH{b:B}{N:Net}(h:ku b=some N):∀s∈N,s.name.length<=16:=by
 rw[qT] at h
 obtain⟨raw,h1,h⟩:=bind_some h
 obtain⟨hl,h⟩:=jl h
 obtain⟨hn,h⟩:=jl h
 obtain⟨hc,h⟩:=jl h
 cases h
 intro s hs
 obtain⟨r,hr,rfl⟩:=az.mp hs
 exact U1 _ _ (aD _) _ h1 r hr
end Rd
end
noncomputable section
namespace La
def sm:Nat->(Nat->Rat)->Rat
 |0,_=>0
 |n+1,f=>sm n f+f n
theorem kW{n:Nat}{f g:Nat->Rat}(h:∀i,i<n->f i=g i):sm n f=sm n g:=by
 induction n with
 |zero=>rfl
 |succ n ih=>simp only[sm];rw[ih λ i hi=>h i (b9 hi),h n (aD n)]
theorem Hw(n:Nat)(f g:Nat->Rat):sm n (λ i=>f i+g i)=sm n f+sm n g:=by
 induction n with
 |zero=>simp only[sm];grind
 |succ n ih=>simp only[sm];rw[ih];grind
theorem xh(n:Nat)(k:Rat)(f:Nat->Rat):sm n (λ i=>k*f i)=k*sm n f:=by
 induction n with
 |zero=>simp[sm]
 |succ n ih=>simp only[sm];rw[ih];grind
theorem Hx(n:Nat)(k:Rat)(f g:Nat->Rat):sm n (λ i=>f i-k*g i)=sm n f-k*sm n g:=by
 induction n with
 |zero=>simp only[sm];grind
 |succ n ih=>simp only[sm];rw[ih];grind
theorem Ad{n:Nat}{f:Nat->Rat}(h:∀i,i<n->f i=0):sm n f=0:=by
 induction n with
 |zero=>rfl
 |succ n ih=>simp only[sm];rw[ih λ i hi=>h i (b9 hi),h n (aD n)];grind
theorem zd{n i:Nat}{f:Nat->Rat}(hi:i<n)(h:∀j,j<n->j≠i->f j=0):sm n f=f i:=by
 induction n with
 |zero=>omega
 |succ n ih=>
  simp only[sm]
  by_cases e:i=n
  ·subst e;rw[Ad λ j hj=>h j (b9 hj) (aV hj)];grind
  ·rw[ih (by omega) λ j hj hn=>h j (b9 hj) hn,h n (aD n) λ z=>e z.symm];grind
theorem Q0{n:Nat}{f g:Nat->Rat}(h:∀i,i<n->f i<=g i):sm n f<=sm n g:=by
 induction n with
 |zero=>simp[sm]
 |succ n ih=>
  simp only[sm]
  have a:=ih λ i hi=>h i (b9 hi)
  have b:=h n (aD n);grind
theorem KI{n i:Nat}{f:Nat->Rat}(hi:i<n)(h:∀j,j<n->j≠i->f j<=0):sm n f<=f i:=by
 have a:sm n f<=sm n (λ j=>if j=i then f j else 0):=Q0 λ j hj=>by
  by_cases e:j=i
  ·simp[e]
  ·simp only[e,if_false];exact h j hj e
 have b:sm n (λ j=>if j=i then f j else 0)=(if i=i then f i else 0):=zd (f:=λ j=>if j=i then f j else 0) hi λ j _ e=>by simp only[e,if_false]
 rw[b,if_pos rfl] at a
 exact a
theorem WZ{n m:Nat}(h:n<=m){f:Nat->Rat}(z:∀i,n<=i->i<m->f i=0):sm m f=sm n f:=by
 induction m with
 |zero=>
   have:n=0:=by omega
   subst this;rfl
 |succ m ih=>
  by_cases e:n=m+1
  ·subst e;rfl
  ·simp only[sm]
   rw[ih (by omega) λ i a b=>z i a (by omega),z m (by omega) (by omega)];grind
def G(A:Nat->Nat->Rat):Nat->Nat->Nat->Rat
 |0=>A
 |k+1=>λ i j=>if i=k then G A k k j/G A k k k else G A k i j-G A k i k*(G A k k j/G A k k k)
section
variable{A:Nat->Nat->Rat}{n:Nat}
theorem Sl(hp:∀k,k<n->G A k k k≠0):∀k,k<=n->∀i m,m<k->G A k i m=if i=m then 1 else 0
 |0,_,i,m,h=>absurd h (g9 _)
 |k+1,hk,i,m,h=>by
  have p:=hp k hk;have I:=Sl hp k (aY hk);simp only[G]
  by_cases e:m=k
  ·subst e
   by_cases e2:i=m
   ·simp only[e2,if_true];grind
   ·simp only[e2,if_false];grind
  ·have hm:m<k:=by omega
   have z:=I k m hm;rw[if_neg (by omega)] at z;rw[z,I i m hm]
   by_cases e2:i=k
   ·subst e2;simp only[if_true];rw[if_neg (by omega)];grind
   ·simp only[e2,if_false];grind
theorem Bp(hp:∀k,k<n->G A k k k≠0):∀k,k<=n->∀i j,A i j=sm k (λ m=>A i m*G A k m j)+(if k<=i then G A k i j else 0)
 |0,_,i,j=>by simp only[sm,G,aZ,if_true];grind
 |k+1,hk,i,j=>by
  have p:=hp k hk;have I:=Bp hp k (aY hk) i;have Ij:=I j;have Ik:=I k;have e1:sm k (λ m=>A i m*G A (k+1) m j)=sm k (λ m=>A i m*G A k m j)-(G A k k j/G A k k k)*sm k (λ m=>A i m*G A k m k):=by
   rw[<-Hx];refine kW λ m hm=>?_
   simp only[G,show m≠k from aV hm,if_false]
   grind
  simp only[sm]
  rw[e1];have e2:G A (k+1) k j=G A k k j/G A k k k:=by simp[G]
  rw[e2]
  by_cases h:k+1<=i
  ·have h2:k<=i:=by omega
   simp only[h,h2,if_true] at Ij Ik ⊢
   have e3:G A (k+1) i j=G A k i j-G A k i k*(G A k k j/G A k k k):=by simp[G,show i≠k by omega]
   rw[e3];generalize G A k k j/G A k k k=x at *
   grind
  ·simp only[h,if_false]
   by_cases h2:k<=i
   ·have:i=k:=by omega
    subst this;simp only[aq,if_true] at Ij Ik
    have:G A i i i*(G A i i j/G A i i i)=G A i i j:=by grind
    generalize G A i i j/G A i i i=x at *
    grind
   ·simp only[h2,if_false] at Ij Ik
    generalize G A k k j/G A k k k=x at *
    grind
structure Dom(A:Nat->Nat->Rat)(n:Nat)(u:Nat->Rat):Prop where
 off:∀i j,i<n->j<n->j≠i->A i j<=0
 pos:∀i,i<n->0<u i
 sum:∀i,i<n->0<sm n (λ j=>A i j*u j)
theorem Nf{u:Nat->Rat}{k:Nat}{B:Nat->Rat}(hk:k<n)(pos:∀i,i<n->0<u i)(off:∀j,j<n->j≠k->B j<=0)(s:0<sm n (λ j=>B j*u j)):0<B k:=by
 have a:sm n (λ j=>B j*u j)<=B k*u k:=KI (f:=λ j=>B j*u j) hk λ j hj e=>by
  have b:=off j hj e;have c:=pos j hj;have:0<=(-B j)*u j:=bh (by grind) (by grind);grind
 have b:0<B k*u k:=by grind
 have c:=pos k hk
 by_cases h:0<B k
 ·exact h
 ·have:0<=(-B k)*u k:=bh (by grind) (by grind)
  grind
theorem IQ{u:Nat->Rat}(D:Dom A n u):∀k,k<=n->(∀m,m<k->0<G A m m m)/\(∀i,k<=i->i<n->(∀j,j<n->j≠i->G A k i j<=0)/\0<sm n (λ j=>G A k i j*u j))
 |0,_=>⟨λ _ h=>absurd h (g9 _),λ i _ hi=>⟨λ j hj e=>D.off i j hi hj e,D.sum i hi⟩⟩
 |k+1,hk=>by
  obtain⟨P,Q⟩:=IQ D k (aY hk);obtain⟨qo,qs⟩:=Q k (aq k) hk;have pk:0<G A k k k:=Nf (u:=u) hk D.pos qo qs;refine⟨λ m hm=>?_,λ i hi hin=>?_⟩
  ·by_cases e:m=k
   ·subst e;exact pk
   ·exact P m (by omega)
  ·obtain⟨ro,rs⟩:=Q i (by omega) hin;have f:=ro k hk (by omega);have x:0<=(-G A k i k)/G A k k k:=by
    rw[Rat.div_def];exact bh (by grind) (bU (Rat.inv_pos.mpr pk))
   have step:∀j,G A (k+1) i j=G A k i j+((-G A k i k)/G A k k k)*G A k k j:=λ j=>by
    simp only[G,show i≠k by omega,if_false];grind
   refine⟨λ j hj e=>?_,?_⟩
   ·rw[step j]
    by_cases ej:j=k
    ·subst ej;grind
    ·have a:=ro j hj e;have b:=qo j hj ej;have:0<=((-G A k i k)/G A k k k)*(-G A k k j):=bh x (by grind);grind
   ·have e:sm n (λ j=>G A (k+1) i j*u j)=sm n (λ j=>G A k i j*u j)+((-G A k i k)/G A k k k)*sm n (λ j=>G A k k j*u j):=by
     rw[<-xh,<-Hw];refine kW λ j _=>?_
     rw[step j];grind
    rw[e];have:0<=((-G A k i k)/G A k k k)*sm n (λ j=>G A k k j*u j):=bh x (by grind);grind
end
theorem Dom.mono{A:Nat->Nat->Rat}{n:Nat}{u:Nat->Rat}(D:Dom A n u){x:Nat->Rat}(h:∀i,i<n->0<=sm n (λ j=>A i j*x j)):∀i,i<n->0<=x i:=by
 have least:∀m,m<=n->0<m->∃i,i<m/\∀j,j<m->x i*u j<=x j*u i:=by
  intro m
  induction m with
  |zero=>intro _ h;omega
  |succ m ih=>
   intro hm _
   by_cases e:m=0
   ·subst e;exact⟨0,by omega,λ j hj=>by
     have:j=0:=by omega
     subst this;exact bK⟩
   ·obtain⟨i,hi,hl⟩:=ih (by omega) (by omega);have ui:=D.pos i (by omega);have um:=D.pos m (by omega)
    by_cases c:x i*u m<=x m*u i
    ·refine⟨i,by omega,λ j hj=>?_⟩
     by_cases ej:j=m
     ·subst ej;exact c
     ·exact hl j (by omega)
    ·refine⟨m,by omega,λ j hj=>?_⟩
     by_cases ej:j=m
     ·subst ej;exact bK
     ·have a:=hl j (by omega);have uj:=D.pos j (by omega);have b:x m*u i*u j<=x i*u m*u j:=cD (by grind) (by grind);have d:x i*u j*u m<=x j*u i*u m:=cD a (by grind);have f:(x m*u j)*u i<=(x j*u m)*u i:=by grind
      exact Rat.le_of_mul_le_mul_right f ui
 intro i hi
 obtain⟨l,hl,low⟩:=least n (aq n) (by omega)
 have ul:=D.pos l hl
 have key:0<=x l:=by
  by_cases c:0<=x l
  ·exact c
  ·exfalso
   have a:=h l hl;have s:=D.sum l hl;have b:sm n (λ j=>u l*(A l j*x j))<=sm n (λ j=>x l*(A l j*u j)):=Q0 λ j hj=>by
    by_cases e:j=l
    ·subst e;grind
    ·have o:=D.off l j hl hj e;have q:=low j hj;have:0<=(-A l j)*(x j*u l-x l*u j):=bh (by grind) (by grind);grind
   rw[xh,xh] at b;have t1:0<=u l*sm n (λ j=>A l j*x j):=bh (by grind) a;have t2:0<(-x l)*sm n (λ j=>A l j*u j):=fT (by grind) s;grind
 have ui:=D.pos i hi
 have:=low i hi
 have t:0<=x l*u i:=bh key (by grind)
 have t2:0<=x i*u l:=by grind
 by_cases c:0<=x i
 ·exact c
 ·have:0<(-x i)*u l:=fT (by grind) ul
  grind
def S(f:Nat->List Nat->Rat):List Nat->Rat
 |[]=>0
 |c::cs=>f c cs-S (λ d ds=>f d (c::ds)) cs
theorem qQ{f g:Nat->List Nat->Rat}(h:∀c cs,f c cs=g c cs)(C:List Nat):S f C=S g C:=by
 have:f=g:=funext λ c=>funext λ cs=>h c cs
 rw[this]
theorem IR:∀(C:List Nat) (f g:Nat->List Nat->Rat),S (λ c cs=>f c cs+g c cs) C=S f C+S g C
 |[],f,g=>by simp only[S];grind
 |a::C,f,g=>by simp only[S];rw[IR C];grind
theorem Ng:∀(C:List Nat) (f:Nat->List Nat->Rat),S (λ c cs=>- f c cs) C = - S f C
 |[],f=>by simp only[S];grind
 |a::C,f=>by simp only[S];rw[Ng C];grind
theorem Nh:∀(C:List Nat) (f:Nat->List Nat->Rat),(∀c cs,f c cs=0)->S f C=0
 |[],f,h=>rfl
 |a::C,f,h=>by simp only[S];rw[h,Nh C _ λ c cs=>h c _];grind
theorem Q2:∀(C:List Nat) (h:Nat->Nat->List Nat->Rat),(∀c d cs,h c d cs=h d c cs)->S (λ c C'=>S (h c) C') C=0
 |[],h,sym=>rfl
 |a::C,h,sym=>by
  have e:∀c C',S (h c) (a::C')=h c a C' + - S (λ d ds=>h c d (a::ds)) C':=λ c C'=>by simp only[S];grind
  have e2:S (λ c C'=>S (h c) (a::C')) C=S (λ c C'=>h c a C') C + - S (λ c C'=>S (λ d ds=>h c d (a::ds)) C') C:=by
   rw[qQ e,IR,Ng]
  show S (h a) C-S (λ c C'=>S (h c) (a::C')) C=0;rw[e2,Q2 C (λ c d ds=>h c d (a::ds)) λ c d cs=>sym c d _,qQ (f:=h a) (g:=λ c C'=>h c a C') λ c cs=>sym a c cs];grind
def D:List (Nat->Rat)->List Nat->Rat
 |[],_=>1
 |v::V,R=>S (λ r R'=>v r*D V R') R
theorem Hy(v u:Nat->Rat)(V:List (Nat->Rat))(R:List Nat):D (v::u::V) R = - D (u::v::V) R:=by
 have z:=Q2 R (λ c d cs=>(v c*u d+u c*v d)*D V cs) λ c d cs=>by grind
 have pull:∀(a b:Nat->Rat) c C',S (λ d cs=>a c*b d*D V cs) C'=a c*S (λ d cs=>b d*D V cs) C':=by
  intro a b c C';have:∀(k:Rat) (g:Nat->List Nat->Rat) (C:List Nat),S (λ d cs=>k*g d cs) C=k*S g C:=by
   intro k g C
   induction C generalizing g with
   |nil=>simp only[S];grind
   |cons x C ih=>simp only[S];rw[ih];grind
  rw[<-this];exact qQ (λ d cs=>by grind) C'
 have e:∀c C',S (λ d cs=>(v c*u d+u c*v d)*D V cs) C'=v c*S (λ d cs=>u d*D V cs) C'+u c*S (λ d cs=>v d*D V cs) C':=λ c C'=>by
  rw[<-pull v u,<-pull u v,<-IR];exact qQ (λ d cs=>by grind) C'
 rw[qQ e,IR] at z
 show S _ R = - S _ R
 simp only[D] at z ⊢
 grind
theorem IS(v:Nat->Rat):∀(V₁ V₂:List (Nat->Rat)) (R:List Nat),D (v::(V₁++v::V₂)) R=0
 |[],V₂,R=>by have:=Hy v v V₂ R;rw[dF];grind
 |u::V₁,V₂,R=>by
  rw[fM,Hy];have:D (u::v::(V₁++v::V₂)) R=0:=Nh _ _ λ c cs=>by rw[IS v V₁ V₂];grind
  grind
theorem Hz(v:Nat->Rat):∀(V₁ V₂:List (Nat->Rat)),∃σ:Rat,(σ = 1\/σ = -1)/\∀R,D (v::(V₁++V₂)) R = σ*D (V₁++v::V₂) R
 |[],V₂=>⟨1,.inl rfl,λ R=>by rw[dF,dF];grind⟩
 |u::V₁,V₂=>by
  obtain⟨σ,hs,h⟩:=Hz v V₁ V₂;refine⟨-σ,by rcases hs with rfl | rfl<;>grind,λ R=>?_⟩;rw[fM,Hy];have e:D (u::v::(V₁++V₂)) R=S (λ r R'=>(σ*(u r*D (V₁++v::V₂) R'))) R:=qQ (λ c cs=>by rw[h];grind) R;have e2:S (λ r R'=>(σ*(u r*D (V₁++v::V₂) R'))) R = σ*D (u::(V₁++v::V₂)) R:=by
   rcases hs with rfl | rfl
   ·rw[qQ (g:=λ r R'=>u r*D (V₁++v::V₂) R') λ c cs=>by grind];simp only[D];grind
   ·rw[qQ (g:=λ r R'=>- (u r*D (V₁++v::V₂) R')) λ c cs=>by grind,Ng];simp only[D];grind
  rw[e,e2,fM];grind
def Bq(x:Rat):Prop:=∃z:Int,x=(z:Rat)
theorem Bq.mul{x y:Rat}(a:Bq x)(b:Bq y):Bq (x*y):=by
 obtain⟨p,rfl⟩:=a;obtain⟨q,rfl⟩:=b
 exact⟨p*q,by rw[aL]⟩
theorem Bq.sub{x y:Rat}(a:Bq x)(b:Bq y):Bq (x-y):=by
 obtain⟨p,rfl⟩:=a;obtain⟨q,rfl⟩:=b
 exact⟨p-q,by rw[fV]⟩
theorem Bq.neg{x:Rat}(a:Bq x):Bq (-x):=by
 obtain⟨p,rfl⟩:=a
 exact⟨-p,by rw[fW]⟩
theorem IT:∀(C:List Nat) (f:Nat->List Nat->Rat),(∀c cs,Bq (f c cs))->Bq (S f C)
 |[],f,h=>⟨0,rfl⟩
 |a::C,f,h=>(h a C).sub (IT C _ λ c cs=>h c _)
theorem Ae:∀(V:List (Nat->Rat)) (R:List Nat),(∀v∈V,∀r,Bq (v r))->Bq (D V R)
 |[],R,h=>⟨1,rfl⟩
 |v::V,R,h=>IT R _ λ c cs=>(h v (by simp) c).mul (Ae V cs λ u hu=>h u (by simp[hu]))
theorem IU{k:Nat}:∀(R:List Nat),(∀r∈R,r<k)->∀F:Nat->List Nat->Rat,∃c:Nat->Rat,∀a:Nat->Rat,S (λ r R'=>a r*F r R') R=sm k (λ m=>a m*c m)
 |[],_,F=>⟨λ _=>0,λ a=>by simp only[S];rw[Ad λ i _=>by grind]⟩
 |r::R,h,F=>by
  obtain⟨c,hc⟩:=IU R (λ x hx=>h x (by simp[hx])) λ d ds=>F d (r::ds)
  refine⟨λ m=>(if m=r then F r R else 0)-c m,λ a=>?_⟩;simp only[S]
  rw[hc];have e:sm k (λ m=>a m*((if m=r then F r R else 0)-c m))=sm k (λ m=>a m*(if m=r then F r R else 0))-1*sm k (λ m=>a m*c m):=by
   rw[<-Hx];exact kW λ m _=>by grind
  have e3:sm k (λ m=>a m*(if m=r then F r R else 0))=a r*(if r=r then F r R else 0):=zd (f:=λ m=>a m*(if m=r then F r R else 0)) (h r (by simp)) λ j _ hj=>by simp only[hj,if_false];grind
  rw[e,e3,if_pos rfl];grind
theorem PL(n m:Nat)(f:Nat->Nat->Rat):sm n (λ i=>sm m (λ j=>f i j))=sm m (λ j=>sm n (λ i=>f i j)):=by
 induction n with
 |zero=>simp only[sm];rw[Ad λ _ _=>rfl]
 |succ n ih=>simp only[sm];rw[ih,<-Hw]
def desc:Nat->List Nat
 |0=>[]
 |k+1=>k::desc k
theorem m7:∀{k i:Nat},i∈desc k↔i<k
 |0,i=>by simp[desc]
 |k+1,i=>by simp only[desc,aB,m7];omega
def col(A:Nat->Nat->Rat)(j:Nat):Nat->Rat:=λ r=>A r j
def dd(A:Nat->Nat->Rat):Nat->Rat
 |0=>1
 |k+1=>dd A k*G A k k k
section
variable{A:Nat->Nat->Rat}{n:Nat}
theorem Br(hp:∀k,k<n->G A k k k≠0){k:Nat}(hk:k<=n)(c:Nat->Rat)(j:Nat):sm k (λ m=>A m j*c m)=sm k (λ l=>sm k (λ m=>A m l*c m)*G A k l j):=by
 have e:∀m,m<k->A m j*c m=sm k (λ l=>A m l*c m*G A k l j):=λ m hm=>by
  have b:=Bp hp k hk m j;rw[if_neg (by omega)] at b;have:sm k (λ l=>A m l*c m*G A k l j)=c m*sm k (λ l=>A m l*G A k l j):=by
   rw[<-xh];exact kW λ l _=>by grind
  rw[this];grind
 rw[kW e,PL]
 refine kW λ l _=>?_
 rw[show sm k (λ m=>A m l*c m)*G A k l j=G A k l j*sm k (λ m=>A m l*c m) by grind,<-xh]
 exact kW λ m _=>by grind
theorem Ni(hp:∀k,k<n->G A k k k≠0):∀k,k<=n->D ((desc k).map (col A)) (desc k)=dd A k/\∀i j,k<=i->D (col A j::(desc k).map (col A)) (i::desc k)=dd A k*G A k i j:=by
 intro k
 have two:∀k,k<=n->D ((desc k).map (col A)) (desc k)=dd A k->∀i j,k<=i->D (col A j::(desc k).map (col A)) (i::desc k)=dd A k*G A k i j:=by
  intro k hk one i j hi;obtain⟨c,hc⟩:=IU (k:=k) (desc k) (λ r hr=>m7.mp hr) λ r R'=>D ((desc k).map (col A)) (i::R')
  have y:∀l,D (col A l::(desc k).map (col A)) (i::desc k)=A i l*dd A k-sm k (λ m=>A m l*c m):=λ l=>by
   show S (λ r R'=>col A l r*D ((desc k).map (col A)) R') (i::desc k)=_;simp only[S]
   rw[one];have:=hc (col A l);simp only[col] at this ⊢
   rw[this]
  have z:∀l,l<k->sm k (λ m=>A m l*c m)=A i l*dd A k:=λ l hl=>by
   obtain⟨s,t,e⟩:=dw (m7.mpr hl);have q:=IS (col A l) (s.map (col A)) (t.map (col A)) (i::desc k);have e2:s.map (col A)++col A l::t.map (col A)=(desc k).map (col A):=by rw[e];simp
   rw[e2,y] at q;grind
  rw[y,Br hp hk c j,kW (g:=λ l=>dd A k*(A i l*G A k l j)) λ l hl=>by rw[z l hl];grind,xh];have b:=Bp hp k hk i j;rw[if_pos hi] at b;grind
 induction k with
 |zero=>exact λ hk=>⟨rfl,two 0 hk rfl⟩
 |succ k ih=>
  intro hk;have h1:D ((desc (k+1)).map (col A)) (desc (k+1))=dd A (k+1):=(ih (by omega)).2 k k (aq k);exact⟨h1,two (k+1) hk h1⟩
theorem whole(hp:∀k,k<n->G A k k k≠0)(hz:∀i j,Bq (A i j))(k:Nat)(hk:k<=n):Bq (dd A k)/\∀i j,Bq (dd A k*G A k i j):=by
 have Sm:∀(l:List Nat),∀v∈l.map (col A),∀r,Bq (v r):=λ l v hv r=>by
  obtain⟨j,_,rfl⟩:=az.mp hv;exact hz r j
 obtain⟨one,two⟩:=Ni hp k hk
 have dz:Bq (dd A k):=by rw[<-one];exact Ae _ _ (Sm _)
 refine⟨dz,λ i j=>?_⟩
 by_cases hi:k<=i
 ·rw[<-two i j hi];exact Ae _ _ (Sm (j::desc k))
 ·have hi:i<k:=by omega
  obtain⟨s,t,e⟩:=dw (m7.mpr hi);obtain⟨c,hc⟩:=IU (k:=k) (desc k) (λ r hr=>m7.mp hr) λ r R'=>D ((s++t).map (col A)) R'
  have y:∀l,D (col A l::(s++t).map (col A)) (desc k)=sm k (λ m=>A m l*c m):=λ l=>hc (col A l)
  obtain⟨σ,hs,mv⟩:=Hz (col A i) (s.map (col A)) (t.map (col A));have yi:sm k (λ m=>A m i*c m) = σ*dd A k:=by
   rw[<-y,bu,mv,<-one,e];simp
  have y0:∀l,l<k->l≠i->sm k (λ m=>A m l*c m)=0:=λ l hl hne=>by
   rw[<-y];have hm:l∈s++t:=by
    have:=m7.mpr hl;rw[e] at this;simp only[br,aB] at this ⊢
    rcases this with h | h | h
    ·exact .inl h
    ·exact absurd h hne
    ·exact .inr h
   obtain⟨a,b,e2⟩:=dw hm;rw[e2,bu,aU];exact IS _ _ _ _
  have yj:Bq (D (col A j::(s++t).map (col A)) (desc k)):=Ae _ _ (Sm (j::(s++t)));rw[y,Br hp hk c j,zd (i:=i) hi λ l hl hne=>by rw[y0 l hl hne];grind,yi] at yj
  rcases hs with rfl | rfl
  ·have:(1:Rat)*dd A k*G A k i j=dd A k*G A k i j:=by grind
   rwa [this] at yj
  ·have:dd A k*G A k i j = - (-1*dd A k*G A k i j):=by grind
   rw[this];exact yj.neg
theorem Bs(hp:∀k,k<n->0<G A k k k):∀k,k<=n->0<dd A k
 |0,_=>by simp only[dd];decide
 |k+1,h=>fT (Bs hp k (aY h)) (hp k h)
theorem turn(hp:∀k,k<n->0<G A k k k){k:Nat}(hk:k<n)(i j:Nat):(dd A (k+1)*(dd A k*G A k i j)-(dd A k*G A k i k)*(dd A k*G A k k j))=dd A k*(if i=k then 0 else dd A (k+1)*G A (k+1) i j)/\dd A k*G A k k j=dd A (k+1)*G A (k+1) k j:=by
 have p:=hp k hk
 have d:=Bs hp k (aY hk)
 have e:G A k k k*(G A k k j/G A k k k)=G A k k j:=by grind
 constructor
 ·by_cases h:i=k
  ·subst h;simp only[if_true,dd];grind
  ·simp only[h,if_false,dd,G]
   generalize G A k k j/G A k k k=x at *
   grind
 ·simp only[dd,G,if_true];grind
end
def wj:List (Nat×Rat)->Nat->Rat
 |[],_=>0
 |w::ws,j=>(if j=w.1 then w.2 else 0)+wj ws j
def wd:List (Nat×Rat)->(Nat->Rat)->Rat
 |[],_=>0
 |w::ws,x=>w.2*x w.1+wd ws x
theorem Q3{n:Nat}{x:Nat->Rat}:∀{ws:List (Nat×Rat)},(∀w∈ws,w.1<n)->sm n (λ j=>wj ws j*x j)=wd ws x
 |[],_=>Ad λ j _=>by simp only[wj];grind
 |w::ws,h=>by
  simp only[wd]
  rw[<-Q3 (ws:=ws) λ u hu=>h u (by simp[hu])];have e:sm n (λ j=>wj (w::ws) j*x j)=sm n (λ j=>(if j=w.1 then w.2 else 0)*x j)+sm n (λ j=>wj ws j*x j):=by
   rw[<-Hw];exact kW λ j _=>by simp only[wj];grind
  have e2:sm n (λ j=>(if j=w.1 then w.2 else 0)*x j)=(if w.1=w.1 then w.2 else 0)*x w.1:=zd (f:=λ j=>(if j=w.1 then w.2 else 0)*x j) (h w (by simp)) λ j _ hj=>by simp only[hj,if_false];grind
  rw[e,e2,if_pos rfl]
theorem DH:∀{ws:List (Nat×Rat)},(∀w∈ws,0<=w.2)->∀j,0<=wj ws j
 |[],_,j=>by simp only[wj];exact bK
 |w::ws,h,j=>by
  have a:=DH (ws:=ws) (λ u hu=>h u (by simp[hu])) j;have b:=h w (by simp);simp only[wj]
  split<;>grind
theorem Af{x y:Nat->Rat}{n:Nat}(h:∀i,i<n->x i<=y i):∀{ws:List (Nat×Rat)},(∀w∈ws,w.1<n)->(∀w∈ws,0<=w.2)->wd ws x<=wd ws y
 |[],_,_=>bK
 |w::ws,a,b=>by
  have i:=Af h (ws:=ws) (λ u hu=>a u (by simp[hu])) λ u hu=>b u (by simp[hu])
  have c:=bA (h w.1 (a w (by simp))) (b w (by simp));simp only[wd];grind
theorem Nj{x y:Nat->Rat}:∀(ws:List (Nat×Rat)),wd ws (λ i=>x i-y i)=wd ws x-wd ws y
 |[]=>by simp only[wd];grind
 |w::ws=>by simp only[wd];rw[Nj ws];grind
structure nL where
 tot:Rat
 ways:List (Nat×Rat)
 rhs:Rat
def nL.lhs(r:nL)(s:Nat)(x:Nat->Rat):Rat:=r.tot*x s-wd r.ways x
def nL.am(r:nL)(s j:Nat):Rat:=(if j=s then r.tot else 0)-wj r.ways j
theorem nL.dot{n s:Nat}{r:nL}{x:Nat->Rat}(hs:s<n)(h:∀w∈r.ways,w.1<n):sm n (λ j=>r.am s j*x j)=r.lhs s x:=by
 have e:sm n (λ j=>r.am s j*x j)=sm n (λ j=>(if j=s then r.tot else 0)*x j)-1*sm n (λ j=>wj r.ways j*x j):=by
  rw[<-Hx];exact kW λ j _=>by simp only[nL.am];grind
 have e2:sm n (λ j=>(if j=s then r.tot else 0)*x j)=(if s=s then r.tot else 0)*x s:=zd (f:=λ j=>(if j=s then r.tot else 0)*x j) hs λ j _ hj=>by simp only[hj,if_false];grind
 rw[e,e2,if_pos rfl,Q3 h]
 simp only[nL.lhs];grind
structure Keeps(R:Nat->nL)(n:Nat)(u:Nat->Rat):Prop where
 to:∀s,s<n->∀w∈(R s).ways,w.1<n
 nn:∀s,s<n->∀w∈(R s).ways,0<=w.2
 pos:∀s,s<n->0<u s
 sum:∀s,s<n->0<(R s).lhs s u
theorem Keeps.dom{R:Nat->nL}{n:Nat}{u:Nat->Rat}(K:Keeps R n u):Dom (λ s j=>(R s).am s j) n u where
 off:=λ i j hi hj e=>by
  have:=DH (K.nn i hi) j;simp only[nL.am,e,if_false];grind
 pos:=K.pos
 sum:=λ i hi=>by rw[nL.dot hi (K.to i hi)];exact K.sum i hi
theorem Keeps.up{R:Nat->nL}{n:Nat}{u:Nat->Rat}(K:Keeps R n u){x:Nat->Rat}(h:∀s,s<n->0<=(R s).lhs s x):∀s,s<n->0<=x s:=
 K.dom.mono λ i hi=>by rw[nL.dot hi (K.to i hi)];exact h i hi
theorem nL.PN(r:nL)(s:Nat)(x y:Nat->Rat):r.lhs s (λ i=>x i-y i)=r.lhs s x-r.lhs s y:=by
 simp only[nL.lhs];rw[Nj];grind
theorem Keeps.le{R:Nat->nL}{n:Nat}{u:Nat->Rat}(K:Keeps R n u){x y:Nat->Rat}(h:∀s,s<n->(R s).lhs s x<=(R s).lhs s y):∀s,s<n->x s<=y s:=λ s hs=>by
 have:=K.up (x:=λ i=>y i-x i) (λ s hs=>by rw[nL.PN];have:=h s hs;grind) s hs
 grind
theorem Keeps.PP{R:Nat->nL}{n:Nat}{u:Nat->Rat}(K:Keeps R n u){s:Nat}(hs:s<n):0<(R s).tot:=by
 have a:=K.sum s hs
 have b:=K.pos s hs
 have c:0<=wd (R s).ways u:=by
  have:=Af (x:=λ _=>0) (y:=u) (n:=n) (λ i hi=>bU (K.pos i hi)) (K.to s hs) (K.nn s hs);have z:∀ws:List (Nat×Rat),wd ws (λ _=>0)=0:=λ ws=>by
   induction ws with
   |nil=>rfl
   |cons w ws ih=>simp only[wd];rw[ih];grind
  rw[z] at this;exact this
 simp only[nL.lhs] at a
 by_cases h:0<(R s).tot
 ·exact h
 ·have:0<=(-(R s).tot)*u s:=bh (by grind) (by grind)
  grind
theorem Keeps.better{R:Nat->nL}{n:Nat}{u:Nat->Rat}(K:Keeps R n u){x v:Nat->Rat}(hv:∀s,s<n->(R s).lhs s v=(R s).rhs)(hx:∀s,s<n->(R s).lhs s x<=(R s).rhs) :
  (∀s,s<n->x s<=v s)/\∀s,s<n->(R s).lhs s x<(R s).rhs->x s<v s:=by
 have le:=K.le (x:=x) (y:=v) λ s hs=>by rw[hv s hs];exact hx s hs
 refine⟨le,λ s hs h=>?_⟩
 have t:=K.PP hs
 have m:=Af le (K.to s hs) (K.nn s hs)
 have e:=hv s hs
 simp only[nL.lhs] at e h
 have:0<(R s).tot*(v s-x s):=by grind
 by_cases c:x s<v s
 ·exact c
 ·have:0<=(R s).tot*(x s-v s):=bh (by grind) (by grind)
  grind
def iter{α:Type}(f:α->α):Nat->α->α
 |0,x=>x
 |k+1,x=>iter f k (f x)
theorem oH{α:Type}(f:α->α):∀(k:Nat) (x:α),iter f (k+1) x=f (iter f k x)
 |0,x=>rfl
 |k+1,x=>oH f k (f x)
theorem Bt{α:Type}[DecidableEq α](f:α->α)(P:α->Prop)(lt:α->α->Prop)(L:List α)(x₀:α)(h₀:P x₀)(hP:∀x,P x->P (f x))(hL:∀x,P x->x∈L)
  (up:∀x,P x->f x≠x->lt x (f x)) (tr:∀x y z,P x->P y->P z->lt x y->lt y z->lt x z) (ir:∀x,P x->¬lt x x):∃k,k<=L.length/\f (iter f k x₀)=iter f k x₀:=by
 have Pi:∀k,P (iter f k x₀):=λ k=>by
  induction k with
  |zero=>exact h₀
  |succ k ih=>rw[oH];exact hP _ ih
 by_cases h:∃k,k<=L.length/\f (iter f k x₀)=iter f k x₀
 ·exact h
 ·exfalso
  have ne:∀k,k<=L.length->f (iter f k x₀)≠iter f k x₀:=λ k hk e=>h ⟨k,hk,e⟩
  have Z7:∀b a,a<b->b<=L.length+1->lt (iter f a x₀) (iter f b x₀):=by
   intro b
   induction b with
   |zero=>intro a h;omega
   |succ b ih=>
    intro a hab hb;have s:=up _ (Pi b) (ne b (by omega));rw[<-oH f] at s
    by_cases e:a=b
    ·subst e;exact s
    ·exact tr _ _ _ (Pi a) (Pi b) (Pi (b+1)) (ih a (by omega) (by omega)) s
  have nd:((ay (L.length+1)).map λ k=>iter f k x₀).Nodup:=by
   rw[List.Nodup,cS];refine eV ?_ (gZ (n:=L.length+1));intro a b ha hb hab e;have:=Z7 b a hab (by have:=aG.mp hb;omega);rw[e] at this;exact ir _ (Pi b) this
  have:=Rd.zc _ L nd λ x hx=>by
   obtain⟨k,_,rfl⟩:=az.mp hx;exact hL _ (Pi k)
  simp only[ah,cH] at this
  omega
def sM:List Nat->List (List Nat)
 |[]=>[[]]
 |b::bs=>(sM bs).flatMap λ r=>(ay (max 1 b)).map λ i=>i::r
theorem ze:∀{bs p:List Nat},p.length=bs.length->(∀s,s<bs.length->p.getD s 0<max 1 (bs.getD s 0))->p∈sM bs
 |[],[],_,_=>by simp[sM]
 |b::bs,i::p,hl,h=>by
  simp only[sM,fN,az,aG]
  exact⟨p,ze (by simpa using hl) λ s hs=>by have:=h (s+1) (by simp;omega);simpa using this,i,by have:=h 0 (by simp);simpa using this,rfl⟩
theorem DI:∀{bs:List Nat}{m:Nat},1<=m->(∀b∈bs,b<=m)->(sM bs).length<=m^bs.length
 |[],_,_,_=>by simp[sM]
 |b::bs,m,hm,h=>by
  have i:=DI (bs:=bs) hm λ x hx=>h x (by simp[hx])
  have hb:=h b (by simp);have e:(sM (b::bs)).length=(sM bs).length*max 1 b:=by
   simp only[sM,List.length_flatMap,ah,cH]
   generalize sM bs=l
   induction l with
   |nil=>simp
   |cons x l ih=>simp only[aU,cW,aK,ih,Nat.succ_mul];omega
  rw[e,aK,cg];exact Nat.mul_le_mul i (by omega)
end La
end
noncomputable section
namespace La
open Ra61
def lN(row nI:List Int)(t:Nat)(before:Int):List Int:=iV (λ x y=>(nI.getD t 0*x-row.getD t 0*y).fdiv before) row nI
def IV(t:Nat)(st:List (List Int)×Int):List (List Int)×Int:=
 (st.1.zipIdx.map λ x=>if x.2=t then x.1 else lN x.1 (st.1.getD t []) t st.2,(st.1.getD t []).getD t 0)
def jx(rows:List (List Int)):Nat->List (List Int)×Int
 |0=>(rows,1)
 |k+1=>IV k (jx rows k)
def ent(rows:List (List Int))(i j:Nat):Rat:=(((rows.getD i []).getD j 0:Int):Rat)
theorem KJ(rows:List (List Int))(i j:Nat):Bq (ent rows i j):=⟨_,rfl⟩
theorem Nk{f:Int->Int->Int}{a b:List Int}{j:Nat}(ha:j<a.length)(hb:j<b.length):(iV f a b).getD j 0=f (a.getD j 0) (b.getD j 0):=by
 simp[aa,fF,af ha,af hb]
theorem KL{a b:Int}{y:Rat}(hb:(0:Rat)<(b:Rat))(hy:Bq y)(h:((a:Int):Rat)=(b:Rat)*y):((a.fdiv b:Int):Rat)=y:=by
 obtain⟨z,rfl⟩:=hy
 have e:a=b*z:=by rw[<-aL] at h;exact dH.mp h
 have hb':b≠0:=λ q=>by rw[q] at hb;exact absurd hb (by decide)
 rw[e,Int.mul_fdiv_cancel_left _ hb']
theorem qz{rows:List (List Int)}{n:Nat}(hl:rows.length=n)(hw:∀r∈rows,r.length=n+1)(hp:∀k,k<n->0<G (ent rows) k k k) :
  ∀k,k<=n->(jx rows k).1.length=n/\(∀r∈(jx rows k).1,r.length=n+1)/\(((jx rows k).2:Int):Rat)=dd (ent rows) k/\∀i j,i<n->j<=n->ent (jx rows k).1 i j=dd (ent rows) k*G (ent rows) k i j
 |0,_=>⟨hl,hw,rfl,λ i j _ _=>by simp only[jx,dd,G];grind⟩
 |k+1,hk=>by
  obtain⟨a,b,c,d⟩:=qz hl hw hp k (aY hk);have G4:∀k,k<n->G (ent rows) k k k≠0:=λ k hk=>by have:=hp k hk;grind
  have dk:=Bs hp k (aY hk);have Nl:∀i,i<n->((jx rows k).1.getD i []).length=n+1:=λ i hi=>by
   have:i<(jx rows k).1.length:=by omega
   rw[aa,af this];exact b _ (aW this)
  have Ov:∀i,i<n->(jx rows (k+1)).1.getD i []=if i=k then (jx rows k).1.getD i [] else lN ((jx rows k).1.getD i []) ((jx rows k).1.getD k []) k (jx rows k).2:=λ i hi=>by
   have h:i<(jx rows k).1.length:=by omega
   simp only[jx,IV]
   simp[aa,dY,af h]
  have Yv:((((jx rows k).1.getD k []).getD k 0:Int):Rat)=dd (ent rows) (k+1):=by
   have:=d k k hk (aY hk);simp only[ent] at this
   rw[this];rfl
  refine⟨by simp only[jx,IV];simp[a],λ r hr=>?_,Yv,λ i j hi hj=>?_⟩
  ·obtain⟨i,hi,rfl⟩:=bN hr;have hi':i<n:=by simp only[jx,IV] at hi;simp[a] at hi;exact hi
   have e:=Ov i hi';rw[aa,af hi] at e;rw[show (jx rows (k+1)).1[i]=_ from e]
   split
   ·exact Nl i hi'
   ·simp only[lN,eT,Nl i hi',Nl k hk];omega
  ·have T:=turn hp hk i j;simp only[ent]
   rw[Ov i hi]
   by_cases e:i=k
   ·subst e;rw[if_pos rfl];have:=d i j hi hj;simp only[ent] at this
    rw[this];exact T.2
   ·rw[if_neg e];simp only[lN]
    rw[Nk (by rw[Nl i hi];omega) (by rw[Nl k hk];omega)];have t1:=T.1;rw[if_neg e] at t1;refine KL (by rw[c];exact dk) ((whole G4 (KJ rows) (k+1) hk).2 i j) ?_;rw[c,<-t1,fV,aL,aL,Yv];have q1:=d i j hi hj;have q2:=d i k hi (by omega);have q3:=d k j hk hj;simp only[ent] at q1 q2 q3
    rw[q1,q2,q3]
def lF(rows:List (List Int)):List Int×Int:=((jx rows rows.length).1.map λ r=>r.getD rows.length 0,(jx rows rows.length).2)
theorem Nn{rows:List (List Int)}{n:Nat}(hl:rows.length=n)(hw:∀r∈rows,r.length=n+1){u:Nat->Rat}(K:Dom (ent rows) n u) :
  (0:Rat)<((lF rows).2:Rat)/\(lF rows).1.length=n/\∀i,i<n->sm n (λ m=>ent rows i m*(((lF rows).1.getD m 0:Int):Rat))=((lF rows).2:Rat)*ent rows i n:=by
 have hp:=(IQ K n (aq n)).1
 have G4:∀k,k<n->G (ent rows) k k k≠0:=λ k hk=>by have:=hp k hk;grind
 obtain⟨a,b,c,d⟩:=qz hl hw hp n (aq n)
 subst hl
 refine⟨by show (0:Rat)<((jx rows rows.length).2:Rat);rw[c];exact Bs hp _ (aq _),by simp[lF,a],λ i hi=>?_⟩
 have Ov:∀m,m<rows.length->(((lF rows).1.getD m 0:Int):Rat)=dd (ent rows) rows.length*G (ent rows) rows.length m rows.length:=λ m hm=>by
  have:=d m rows.length hm (aq _);rw[<-this];have hm':m<(jx rows rows.length).1.length:=by omega
  simp[lF,ent,aa,af hm']
 have bk:=Bp G4 rows.length (aq _) i rows.length
 rw[if_neg (by omega)] at bk
 rw[kW (g:=λ m=>dd (ent rows) rows.length*(ent rows i m*G (ent rows) rows.length m rows.length)) λ m hm=>by rw[Ov m hm];grind,xh]
 show _=((jx rows rows.length).2:Rat)*_
 rw[c];grind
end La
end
noncomputable section
namespace La
open Ra61 Fq
def sN(ws:List (Nat×Nat))(row:List Int):List Int:=ws.foldl (λ row w=>row.set w.1 (row.getD w.1 0-(w.2:Int))) row
def IW(n place:Nat)(os:List kU)(e:Int)(k:Nat):List Int:=
 if os.length=0 then ((aF (n+1) (0:Int)).set place 1).set n e
 else (sN (os.getD k jz).ways ((aF (n+1) (0:Int)).set place (os.getD k jz).tot)).set n ((os.getD k jz).gain*(os.getD k jz).tot)
def oj(ws:List (Nat×Nat)):List (Nat×Rat):=ws.map λ w=>(w.1,(w.2:Rat))
def qA(o:kU):nL:=⟨(o.tot:Rat),oj o.ways,((o.gain*o.tot:Int):Rat)⟩
def wJ(os:List kU)(e:Int)(k:Nat):nL:=if os.length=0 then ⟨1,[],(e:Rat)⟩ else qA (os.getD k jz)
theorem kL{row:List Int}{i j:Nat}{x:Int}(hi:i<row.length):(row.set i x).getD j 0=if j=i then x else row.getD j 0:=by
 by_cases e:j=i
 ·subst e;simp[aa,fz,hi]
 ·rw[if_neg e];simp[aa,fz,show i≠j from λ z=>e z.symm]
theorem sO:∀(ws:List (Nat×Nat)) (row:List Int),(sN ws row).length=row.length
 |[],row=>rfl
 |w::ws,row=>by show (sN ws _).length=_;rw[sO ws];simp
theorem IX:∀(ws:List (Nat×Nat)) (row:List Int),(∀w∈ws,w.1<row.length)->∀j,(((sN ws row).getD j 0:Int):Rat)=((row.getD j 0:Int):Rat)-wj (oj ws) j
 |[],row,_,j=>by simp only[sN,gv,oj,bQ,wj];grind
 |w::ws,row,h,j=>by
  show (((sN ws (row.set w.1 (row.getD w.1 0-(w.2:Int)))).getD j 0:Int):Rat)=_;rw[IX ws _ (λ u hu=>by rw[cy];exact h u (by simp[hu])) j,kL (h w (by simp))];simp only[oj,aU,wj]
  by_cases e:j=w.1
  ·subst e;simp only[if_true]
   rw[fV,bg];grind
  ·simp only[e,if_false];grind
theorem Sn(n place:Nat)(os:List kU)(e:Int)(k:Nat):(IW n place os e k).length=n+1:=by
 unfold IW;split<;>simp[sO]
theorem Q4{n place:Nat}{os:List kU}{e:Int}{k:Nat}(hp:place<n)(hw:∀w∈(os.getD k jz).ways,w.1<n) :
  (∀j,j<n->(((IW n place os e k).getD j 0:Int):Rat)=(wJ os e k).am place j)/\(((IW n place os e k).getD n 0:Int):Rat)=(wJ os e k).rhs:=by
 have rz:∀j,(aF (n+1) (0:Int)).getD j 0=0:=λ j=>by
  rw[aa,e7];split<;>rfl
 by_cases h:os.length=0
 ·simp only[IW,wJ,h,if_true]
  constructor
  ·intro j hj;rw[kL (by simp),if_neg (by omega),kL (by simp;omega),rz];simp only[nL.am,wj]
   split<;>simp<;>grind
  ·rw[kL (by simp),if_pos rfl]
 ·simp only[IW,wJ,h,if_false]
  constructor
  ·intro j hj;rw[kL (by rw[sO];simp),if_neg (by omega),IX _ _ (λ w uh=>by simp;have:=hw w uh;omega),kL (by simp;omega),rz];simp only[nL.am,qA]
   split<;>simp
  ·rw[kL (by rw[sO];simp),if_pos rfl];rfl
section
variable(iZ:List (List kU))(ends:List Int)(n:Nat)
def kM(ji:List Int)(s:Nat):nL:=wJ (iZ.getD s []) (ends.getD s 0) (ji.getD s 0).toNat
def m8(ji:List Int):List (List Int):=(ay n).map λ s=>IW n s (iZ.getD s []) (ends.getD s 0) (ji.getD s 0).toNat
def ko(ji:List Int):List Int×Int:=lF (m8 iZ ends n ji)
def mC(ji jf:List Int)(bot:Int):List Int:=(ay n).map λ s=>if (iZ.getD s []).length=0 then ji.getD s 0 else ((pick (iZ.getD s []) jf bot (ji.getD s 0).toNat:Nat):Int)
def nextM(ji:List Int):List Int:=mC iZ n ji (ko iZ ends n ji).1 (ko iZ ends n ji).2
def jV(v:List Int×Int)(s:Nat):Rat:=((v.1.getD s 0:Int):Rat)/((v.2:Int):Rat)
end
structure Fits(iZ:List (List kU))(n:Nat)(ji:List Int):Prop where
 len:ji.length=n
 at_:∀s,s<n->(iZ.getD s []).length≠0->0<=ji.getD s 0/\(ji.getD s 0).toNat<(iZ.getD s []).length
theorem getD_mem{os:List kU}{k:Nat}(h:k<os.length):os.getD k jz∈os:=by
 rw[aa,af h];exact aW h
section
variable{iZ:List (List kU)}{ends:List Int}{n:Nat}{ji:List Int}
theorem IY(hw:∀os∈iZ,∀o∈os,∀w∈o.ways,w.1<n)(F:Fits iZ n ji):∀s,s<n->∀w∈((iZ.getD s []).getD (ji.getD s 0).toNat jz).ways,w.1<n:=λ s hs w uh=>by
 by_cases h:(iZ.getD s []).length=0
 ·have:iZ.getD s []=[]:=dh.mp h
  rw[this] at uh;simp[jz] at uh
 ·have hk:=(F.at_ s hs h).2
  have hs':s<iZ.length:=by
   by_cases q:s<iZ.length
   ·exact q
   ·rw[aa,bO (by omega)] at h;exact absurd rfl h
  have m:iZ.getD s []∈iZ:=by rw[aa,af hs'];exact aW hs'
  exact hw _ m _ (getD_mem hk) w uh
theorem ED{i:Nat}(hi:i<n):(m8 iZ ends n ji).getD i []=IW n i (iZ.getD i []) (ends.getD i 0) (ji.getD i 0).toNat:=by
 simp[m8,aa,aj,aO hi]
theorem Ag:(m8 iZ ends n ji).length=n/\∀r∈m8 iZ ends n ji,r.length=n+1:=
 ⟨by simp[m8],λ r hr=>by
  obtain⟨s,_,rfl⟩:=az.mp hr;exact Sn _ _ _ _ _⟩
theorem EE(hw:∀os∈iZ,∀o∈os,∀w∈o.ways,w.1<n)(F:Fits iZ n ji){i j:Nat}(hi:i<n)(hj:j<n):ent (m8 iZ ends n ji) i j=(kM iZ ends ji i).am i j:=by
 unfold ent
 rw[ED hi];exact (Q4 hi (IY hw F i hi)).1 j hj
theorem IZ(hw:∀os∈iZ,∀o∈os,∀w∈o.ways,w.1<n)(F:Fits iZ n ji){u:Nat->Rat}(K:Keeps (kM iZ ends ji) n u):Dom (ent (m8 iZ ends n ji)) n u where
 off:=λ i j hi hj e=>by rw[EE hw F hi hj];exact K.dom.off i j hi hj e
 pos:=K.pos
 sum:=λ i hi=>by
  rw[kW (g:=λ j=>(kM iZ ends ji i).am i j*u j) λ j hj=>by rw[EE hw F hi hj]];exact K.dom.sum i hi
end
theorem zf{iZ:List (List kU)}{ends:List Int}{n:Nat}{ji:List Int}(hw:∀os∈iZ,∀o∈os,∀w∈o.ways,w.1<n)(F:Fits iZ n ji){u:Nat->Rat}(K:Keeps (kM iZ ends ji) n u) :
  0<(ko iZ ends n ji).2/\(ko iZ ends n ji).1.length=n/\∀s,s<n->(kM iZ ends ji s).lhs s (jV (ko iZ ends n ji))=(kM iZ ends ji s).rhs:=by
 obtain⟨a,b,c⟩:=Nn Ag.1 Ag.2 (IZ hw F K)
 have pos:0<(ko iZ ends n ji).2:=by
  have:((0:Int):Rat)<((lF (m8 iZ ends n ji)).2:Rat):=a;exact cK.mp this
 refine⟨pos,b,λ s hs=>?_⟩
 have c':=c s hs
 unfold ent at c'
 rw[ED hs,(Q4 hs (IY hw F s hs)).2,kW (g:=λ m=>(kM iZ ends ji s).am s m*(((lF (m8 iZ ends n ji)).1.getD m 0:Int):Rat)) λ m hm=>by have:=EE (ends:=ends) hw F hs hm;unfold ent at this;rw[ED hs] at this;rw[this],nL.dot hs (K.to s hs)] at c'
 have sc:∀(r:nL) (x:Nat->Rat) (k:Rat),r.lhs s (λ t=>x t/k)=r.lhs s x/k:=λ r x k=>by
  have Z8:∀ws:List (Nat×Rat),wd ws (λ t=>x t/k)=wd ws x/k:=λ ws=>by
   induction ws with
   |nil=>simp only[wd];grind
   |cons w ws ih=>simp only[wd];rw[ih];grind
  simp only[nL.lhs];rw[Z8];grind
 show (kM iZ ends ji s).lhs s (λ t=>(((lF (m8 iZ ends n ji)).1.getD t 0:Int):Rat)/((lF (m8 iZ ends n ji)).2:Rat))=_
 rw[sc,c']
 show _*(kM iZ ends ji s).rhs/_=_
 grind
theorem KN{o p q:kU}{jf:List Int}{bot:Int}(ho:0<o.tot)(hp:0<p.tot)(hq:0<q.tot)(h:o.top jf bot*p.tot<p.top jf bot*o.tot)(k:IM p q jf bot):o.top jf bot*q.tot<q.top jf bot*o.tot:=by
 unfold IM at k
 have h1:=Int.mul_lt_mul_of_pos_right h hq
 have h2:=bR k (fy ho)
 generalize o.top jf bot=a at *
 generalize p.top jf bot=b at *
 generalize q.top jf bot=c at *
 have e1:a*p.tot*q.tot=a*q.tot*p.tot:=by grind
 have e2:b*o.tot*q.tot=b*q.tot*o.tot:=by grind
 have e3:c*p.tot*o.tot=c*o.tot*p.tot:=by grind
 have e:a*q.tot*p.tot<c*o.tot*p.tot:=by omega
 exact Int.lt_of_mul_lt_mul_right e (fy hp)
theorem vd{os:List kU}{jf:List Int}{bot:Int}(ht:∀o∈os,0<o.tot):∀(r:List kU) (i b:Nat),os.drop i=r->b<os.length ->
  kK os jf bot i r b=b\/(os.getD b jz).top jf bot*(os.getD (kK os jf bot i r b) jz).tot<(os.getD (kK os jf bot i r b) jz).top jf bot*(os.getD b jz).tot
 |[],i,b,_,hb=>.inl rfl
 |o::r,i,b,hd,hb=>by
  have hil:i<os.length:=by
   have:=congrArg dU hd;rw[fJ] at this;simp at this;omega
  have UX:os[i]=o:=by
   rw[bB hil] at hd;exact (gJ hd).1
  have hdr:os.drop (i+1)=r:=by
   rw[bB hil] at hd;exact (gJ hd).2
  have gD:∀{j:Nat} (hj:j<os.length),os.getD j jz=os[j]:=λ hj=>by rw[aa,af hj];rfl
  have tD:∀{j:Nat} (hj:j<os.length),0<(os.getD j jz).tot:=λ hj=>by rw[gD hj];exact ht _ (aW hj)
  have un:kK os jf bot i (o::r) b=kK os jf bot (i+1) r (if o.better (os.getD b jz) jf bot=true then i else b):=rfl;rw[un]
  by_cases q:o.better (os.getD b jz) jf bot=true
  ·rw[if_pos q];obtain⟨i1,i2,i3⟩:=Ac ht r (i+1) i hdr hil;unfold kU.better at q;rw[decide_eq_true_eq] at q;exact .inr (KN (tD hb) (tD hil) (tD i1) (by rw[gD hil,UX];exact q) i2)
  ·rw[if_neg q];exact vd ht r (i+1) b hdr hb
theorem DJ{jf:List Int}{bot:Int}(hb:0<bot):∀ws:List (Nat×Nat),((ahead ws jf:Int):Rat)=(bot:Rat)*wd (oj ws) (jV (jf,bot))
 |[]=>by show ((0:Int):Rat)=_;simp only[oj,bQ,wd];grind
 |w::ws=>by
  have i:=DJ (jf:=jf) hb ws;have e:ahead (w::ws) jf=(w.2:Int)*jf.getD w.1 0+ahead ws jf:=by simp[ahead]
  rw[e,fX,aL,i];have hb':(bot:Rat)≠0:=λ z=>by
   have:((bot:Int):Rat)=((0:Int):Rat):=z;rw[dH] at this;omega
  simp only[oj,aU,wd,jV,bg]
  grind
def Cg(o:kU)(v:Nat->Rat):Rat:=(qA o).rhs+wd (oj o.ways) v
theorem I0{o:kU}{jf:List Int}{bot:Int}(hb:0<bot):((o.top jf bot:Int):Rat)=(bot:Rat)*Cg o (jV (jf,bot)):=by
 unfold kU.top Cg
 rw[fX,DJ hb,aL]
 simp only[qA];grind
theorem mD{z:Int}(h:0<z):(0:Rat)<(z:Rat):=by
 have:((0:Int):Rat)<(z:Rat):=cK.mpr h
 exact this
theorem EF{o p:kU}{jf:List Int}{bot:Int}(hb:0<bot):(o.top jf bot*p.tot<p.top jf bot*o.tot↔Cg o (jV (jf,bot))*(p.tot:Rat)<Cg p (jV (jf,bot))*(o.tot:Rat)) /\
  (IM o p jf bot↔Cg o (jV (jf,bot))*(p.tot:Rat)<=Cg p (jV (jf,bot))*(o.tot:Rat)):=by
 have hb':=mD hb
 have e1:((o.top jf bot*p.tot:Int):Rat)=(bot:Rat)*(Cg o (jV (jf,bot))*(p.tot:Rat)):=by rw[aL,I0 hb];grind
 have e2:((p.top jf bot*o.tot:Int):Rat)=(bot:Rat)*(Cg p (jV (jf,bot))*(o.tot:Rat)):=by rw[aL,I0 hb];grind
 constructor
 ·rw[<-cK,e1,e2]
  exact⟨λ h=>eO h (bU hb'),λ h=>dZ h hb'⟩
 ·unfold IM
  rw[<-cM,e1,e2];exact⟨λ h=>bC h hb',λ h=>bA h (bU hb')⟩
section
variable{iZ:List (List kU)}{ends:List Int}{n:Nat}
theorem Bu{s:Nat}(h:(iZ.getD s []).length≠0):iZ.getD s []∈iZ:=by
 have hs':s<iZ.length:=by
  by_cases q:s<iZ.length
  ·exact q
  ·rw[aa,bO (by omega)] at h;exact absurd rfl h
 rw[aa,af hs'];exact aW hs'
theorem yo{ji:List Int}{s:Nat}(hs:s<n):(nextM iZ ends n ji).getD s 0=if (iZ.getD s []).length=0 then ji.getD s 0 else ((pick (iZ.getD s []) (ko iZ ends n ji).1 (ko iZ ends n ji).2 (ji.getD s 0).toNat:Nat):Int):=by
 simp[nextM,mC,aa,aj,aO hs]
theorem KO(ht:∀os∈iZ,∀o∈os,0<o.tot){ji:List Int}(F:Fits iZ n ji):Fits iZ n (nextM iZ ends n ji) where
 len:=by simp[nextM,mC]
 at_:=λ s hs h=>by
  rw[yo hs,if_neg h];exact⟨by omega,by rw[bP];exact (Bl (ht _ (Bu h)) (F.at_ s hs h).2).1⟩
theorem zg(hw:∀os∈iZ,∀o∈os,∀w∈o.ways,w.1<n)(ht:∀os∈iZ,∀o∈os,0<o.tot){ji:List Int}(F:Fits iZ n ji){u:Nat->Rat}(K:Keeps (kM iZ ends ji) n u)(s:Nat)(hs:s<n) :
  (kM iZ ends (nextM iZ ends n ji) s).lhs s (jV (ko iZ ends n ji))<=(kM iZ ends (nextM iZ ends n ji) s).rhs /\
  ((nextM iZ ends n ji).getD s 0≠ji.getD s 0->(kM iZ ends (nextM iZ ends n ji) s).lhs s (jV (ko iZ ends n ji))<(kM iZ ends (nextM iZ ends n ji) s).rhs):=by
 obtain⟨hb,hl,hv⟩:=zf hw F K
 have v:=hv s hs
 by_cases h:(iZ.getD s []).length=0
 ·have e:(nextM iZ ends n ji).getD s 0=ji.getD s 0:=by rw[yo hs,if_pos h]
  have e2:kM iZ ends (nextM iZ ends n ji) s=kM iZ ends ji s:=by simp only[kM];rw[e]
  rw[e2,v];exact⟨bK,λ q=>absurd e q⟩
 ·have fit:=F.at_ s hs h
  have m:=Bu h;have nx:=yo (iZ:=iZ) (ends:=ends) (n:=n) (ji:=ji) hs;rw[if_neg h] at nx;obtain⟨p1,p2⟩:=Bl (jf:=(ko iZ ends n ji).1) (bot:=(ko iZ ends n ji).2) (ht _ m) fit.2;have st:=vd (jf:=(ko iZ ends n ji).1) (bot:=(ko iZ ends n ji).2) (ht _ m) (iZ.getD s []) 0 (ji.getD s 0).toNat rfl fit.2;generalize hk:pick (iZ.getD s []) (ko iZ ends n ji).1 (ko iZ ends n ji).2 (ji.getD s 0).toNat=k at *
  have hk':kK (iZ.getD s []) (ko iZ ends n ji).1 (ko iZ ends n ji).2 0 (iZ.getD s []) (ji.getD s 0).toNat=k:=hk;rw[hk'] at st;have cur:=ht _ m _ (getD_mem fit.2);have new:=ht _ m _ (getD_mem p1);have sy:kM iZ ends ji s=qA ((iZ.getD s []).getD (ji.getD s 0).toNat jz):=by simp only[kM,wJ,h,if_false]
  have sy':kM iZ ends (nextM iZ ends n ji) s=qA ((iZ.getD s []).getD k jz):=by simp only[kM,wJ,h,if_false];rw[nx,bP]
  rw[sy] at v;rw[sy',nx];generalize hc:(iZ.getD s []).getD (ji.getD s 0).toNat jz=c at *
  generalize hd:(iZ.getD s []).getD k jz=d at *
  have le:=(EF hb).2.mp (p2 c (by rw[<-hc];exact getD_mem fit.2));have cq:=mD cur;have dq:=mD new;have vv:jV ((ko iZ ends n ji).1,(ko iZ ends n ji).2)=jV (ko iZ ends n ji):=rfl;rw[vv] at le;have bc:Cg c (jV (ko iZ ends n ji))=(c.tot:Rat)*jV (ko iZ ends n ji) s:=by
   unfold Cg;simp only[nL.lhs,qA] at v;simp only[qA];grind
  have bd:(qA d).lhs s (jV (ko iZ ends n ji))=(d.tot:Rat)*jV (ko iZ ends n ji) s-Cg d (jV (ko iZ ends n ji))+(qA d).rhs:=by
   unfold Cg;simp only[nL.lhs,qA];grind
  constructor
  ·rw[bd];have:(c.tot:Rat)*((d.tot:Rat)*jV (ko iZ ends n ji) s)<=(c.tot:Rat)*Cg d (jV (ko iZ ends n ji)):=by rw[bc] at le;grind
   have:=bC this cq;grind
  ·intro q;have ne:k≠(ji.getD s 0).toNat:=λ z=>q (by rw[z];omega)
   have lt:=(EF hb).1.mp (st.resolve_left ne);rw[vv,bc] at lt;rw[bd];have:(c.tot:Rat)*((d.tot:Rat)*jV (ko iZ ends n ji) s)<(c.tot:Rat)*Cg d (jV (ko iZ ends n ji)):=by grind
   have:=eO this (bU cq);grind
theorem KP(hw:∀os∈iZ,∀o∈os,∀w∈o.ways,w.1<n)(ht:∀os∈iZ,∀o∈os,0<o.tot){ji:List Int}(F:Fits iZ n ji){u:Nat->Rat}(K:Keeps (kM iZ ends ji) n u)(e:nextM iZ ends n ji=ji)(s:Nat)(hs:s<n) :
  ∀o∈iZ.getD s [],Cg o (jV (ko iZ ends n ji))<=(o.tot:Rat)*jV (ko iZ ends n ji) s:=by
 intro o ho
 obtain⟨hb,hl,hv⟩:=zf hw F K
 have v:=hv s hs
 have h:(iZ.getD s []).length≠0:=λ z=>by rw[dh.mp z] at ho;cases ho
 have fit:=F.at_ s hs h
 have m:=Bu h
 have nx:=yo (iZ:=iZ) (ends:=ends) (n:=n) (ji:=ji) hs
 rw[if_neg h,e] at nx
 obtain⟨p1,p2⟩:=Bl (jf:=(ko iZ ends n ji).1) (bot:=(ko iZ ends n ji).2) (ht _ m) fit.2
 have nx':(ji.getD s 0).toNat=pick (iZ.getD s []) (ko iZ ends n ji).1 (ko iZ ends n ji).2 (ji.getD s 0).toNat:=by omega
 have le:=p2 o ho
 rw[<-nx'] at le
 have sy:kM iZ ends ji s=qA ((iZ.getD s []).getD (ji.getD s 0).toNat jz):=by simp only[kM,wJ,h,if_false]
 rw[sy] at v
 have cq:=mD (ht _ m _ (getD_mem fit.2))
 generalize hc:(iZ.getD s []).getD (ji.getD s 0).toNat jz=c at *
 have le:=(EF hb).2.mp le
 have bc:Cg c (jV (ko iZ ends n ji))=(c.tot:Rat)*jV (ko iZ ends n ji) s:=by
  unfold Cg;simp only[nL.lhs,qA] at v;simp only[qA];grind
 have le':Cg o (jV (ko iZ ends n ji))*(c.tot:Rat)<=Cg c (jV (ko iZ ends n ji))*(o.tot:Rat):=le
 rw[bc] at le'
 have:(c.tot:Rat)*Cg o (jV (ko iZ ends n ji))<=(c.tot:Rat)*((o.tot:Rat)*jV (ko iZ ends n ji) s):=by grind
 exact bC this cq
theorem F4(hw:∀os∈iZ,∀o∈os,∀w∈o.ways,w.1<n)(ht:∀os∈iZ,∀o∈os,0<o.tot){π₀:List Int}(P:List Int->Prop)(h₀:P π₀)(hF:∀π,P π->Fits iZ n π)(hE:∀π,P π->∀s,s<n->(iZ.getD s []).length=0->π.getD s 0 = π₀.getD s 0)
  (hK:∀π,P π->∃u,Keeps (kM iZ ends π) n u) (hN:∀π,P π->P (nextM iZ ends n π)) :
  ∃k,nextM iZ ends n (iter (nextM iZ ends n) k π₀)=iter (nextM iZ ends n) k π₀/\P (iter (nextM iZ ends n) k π₀):=by
 let V:=λ π=>jV (ko iZ ends n π)
 have Pi:∀k,P (iter (nextM iZ ends n) k π₀):=λ k=>by
  induction k with
  |zero=>exact h₀
  |succ k ih=>rw[oH];exact hN _ ih
 obtain⟨k,_,e⟩:=Bt (nextM iZ ends n) P (λ a b=>(∀s,s<n->V a s<=V b s)/\∃s,s<n/\V a s<V b s)
  ((sM ((ay n).map λ s=>(iZ.getD s []).length)).map λ p=>(ay n).map λ s=>if (iZ.getD s []).length=0 then π₀.getD s 0 else ((p.getD s 0:Nat):Int)) π₀ h₀ hN
  (λ π hp=>by
   have F:=hF π hp;refine az.mpr ⟨(ay n).map λ s=>if (iZ.getD s []).length=0 then 0 else (π.getD s 0).toNat,ze (by simp) λ s hs=>?_,?_⟩
   ·have hs:s<n:=by simpa using hs
    by_cases h:(iZ.getD s []).length=0
    ·simp[aa,aj,aO hs] at h ⊢
     simp[h]
    ·have:=(F.at_ s hs h).2;simp[aa,aj,aO hs] at h this ⊢
     simp[h];omega
   ·refine fO (by simp[F.len]) λ s h1 h2=>?_
    have hs:s<n:=by simpa using h1
    have gp:π.getD s 0 = π[s]:=by rw[aa,af h2];rfl
    rw[<-gp]
    by_cases h:(iZ.getD s []).length=0
    ·have:=hE π hp s hs h;simp only[List.getElem_map,List.getElem_range,h,if_true];exact this.symm
    ·have:=(F.at_ s hs h).1;have e:((ay n).map λ s=>if (iZ.getD s []).length=0 then 0 else (π.getD s 0).toNat).getD s 0=(π.getD s 0).toNat:=by
      rw[aa,aj,aO hs];simp only[bE,di,h,if_false]
     simp only[List.getElem_map,List.getElem_range,h,if_false]
     rw[e];omega)
  (λ π hp ne=>by
   obtain⟨u,K⟩:=hK π hp;obtain⟨u',K'⟩:=hK _ (hN π hp);obtain⟨hb',hl',hv'⟩:=zf hw (hF _ (hN π hp)) K';obtain⟨g1,g2⟩:=K'.better (x:=V π) hv' λ s hs=>(zg hw ht (hF π hp) K s hs).1
   refine⟨g1,?_⟩;have:∃s,s<n/\(nextM iZ ends n π).getD s 0≠π.getD s 0:=by
    by_cases q:∃s,s<n/\(nextM iZ ends n π).getD s 0≠π.getD s 0
    ·exact q
    ·exfalso
     refine ne (fO (by rw[(hF π hp).len,(hF _ (hN π hp)).len]) λ s h1 h2=>?_);have hs:s<n:=by rw[(hF π hp).len] at h2;exact h2
     have gp:π.getD s 0 = π[s]:=by rw[aa,af h2];rfl
     have gq:(nextM iZ ends n π).getD s 0=(nextM iZ ends n π)[s]:=by rw[aa,af h1];rfl
     rw[<-gp,<-gq]
     by_cases z:(nextM iZ ends n π).getD s 0 = π.getD s 0
     ·exact z
     ·exact absurd ⟨s,hs,z⟩ q
   obtain⟨s,hs,z⟩:=this;exact⟨s,hs,g2 s hs ((zg hw ht (hF π hp) K s hs).2 z)⟩)
  (λ a b c _ _ _ h k=>⟨λ s hs=>iW (h.1 s hs) (k.1 s hs),by
   obtain⟨s,hs,lt⟩:=h.2;have:=k.1 s hs;exact⟨s,hs,by grind⟩⟩)
  (λ a _ h=>by obtain⟨s,_,lt⟩:=h.2;exact absurd lt Rat.lt_irrefl)
 exact⟨k,e,Pi k⟩
end
def val(x:Fr):Rat:=(x.num:Rat)/((x.den:Int):Rat)
structure CH(x:Fr):Prop where
 pos:0<x.den
 cop:bq x.num.natAbs x.den=1
theorem l9{x:Fr}(h:0<x.den):(0:Rat)<((x.den:Int):Rat):=mD (by omega)
theorem CH.eq{x y:Fr}(hx:CH x)(hy:CH y)(h:val x=val y):x=y:=by
 have dx:=l9 hx.pos
 have dy:=l9 hy.pos
 have e:x.num*(y.den:Int)=y.num*(x.den:Int):=by
  unfold val at h;have:(x.num:Rat)*((y.den:Int):Rat)=(y.num:Rat)*((x.den:Int):Rat):=by
   have a:(x.num:Rat)=(x.num:Rat)/((x.den:Int):Rat)*((x.den:Int):Rat):=by grind
   have b:(y.num:Rat)=(y.num:Rat)/((y.den:Int):Rat)*((y.den:Int):Rat):=by grind
   rw[h] at a;grind
  rw[<-aL,<-aL] at this;exact dH.mp this
 have e2:x.num.natAbs*y.den=y.num.natAbs*x.den:=by
  have:=congrArg Int.natAbs e
  rwa [gu,gu,gw,gw] at this
 have d1:x.den ∣ y.den:=by
  have:x.den ∣ x.num.natAbs*y.den:=⟨y.num.natAbs,by rw[e2,gT]⟩
  exact (Nat.Coprime.symm hx.cop).dvd_of_dvd_mul_left this
 have d2:y.den ∣ x.den:=by
  have:y.den ∣ y.num.natAbs*x.den:=⟨x.num.natAbs,by rw[<-e2,gT]⟩
  exact (Nat.Coprime.symm hy.cop).dvd_of_dvd_mul_left this
 have de:x.den=y.den:=Nat.dvd_antisymm d1 d2
 have ne:x.num=y.num:=by
  rw[de] at e;exact Int.eq_of_mul_eq_mul_right (by have:=hy.pos;omega) e
 cases x;cases y;simp only at de ne;rw[de,ne]
theorem Bv{z:Int}{d:Nat}(h:0<d):CH (fr z d):=by
 have g0:0<bq z.natAbs d:=cX _ h
 have gm:max 1 (bq z.natAbs d)=bq z.natAbs d:=by omega
 refine⟨Na h,?_⟩
 unfold fr
 simp only[gm]
 have:(z/((bq z.natAbs d:Nat):Int)).natAbs=z.natAbs/bq z.natAbs d:=by
  have dv:((bq z.natAbs d:Nat):Int) ∣ z:=by
   have:=Nat.gcd_dvd_left z.natAbs d;exact Int.ofNat_dvd_left.mpr this
  rw[Int.natAbs_ediv_of_dvd dv,gw]
 rw[this]
 exact Nat.gcd_div_gcd_div_gcd_of_pos_right h
theorem Sq{x:Fr}{a b:Int}(h:Is x a b):val x=(a:Rat)/(b:Rat):=by
 have dx:=l9 h.1
 have db:=mD h.2.1
 have e:(x.num:Rat)*(b:Rat)=(a:Rat)*((x.den:Int):Rat):=by rw[<-aL,<-aL,h.2.2]
 unfold val
 have:(x.num:Rat)=(a:Rat)*((x.den:Int):Rat)/(b:Rat):=by grind
 rw[this];grind
theorem Ss{x:Fr}{a b:Int}(hx:0<x.den)(hb:0<b)(h:val x=(a:Rat)/(b:Rat)):Is x a b:=by
 have dx:=l9 hx
 have db:=mD hb
 refine⟨hx,hb,?_⟩
 unfold val at h
 have:(x.num:Rat)*(b:Rat)=(a:Rat)*((x.den:Int):Rat):=by
  have a1:(x.num:Rat)=(x.num:Rat)/((x.den:Int):Rat)*((x.den:Int):Rat):=by grind
  rw[h] at a1;grind
 rw[<-aL,<-aL] at this
 exact dH.mp this
theorem xj{z:Int}{d:Nat}(h:0<d):val (fr z d)=(z:Rat)/((d:Int):Rat):=Sq (UW h)
theorem Ja{x y:Fr}(hx:0<x.den)(hy:0<y.den):CH (x.add y):=Bv (ef hx hy)
theorem Jb{x y:Fr}(hx:0<x.den)(hy:0<y.den):CH (x.sub y):=Bv (ef hx hy)
theorem EG{x y:Fr}(hx:0<x.den)(hy:0<y.den):CH (x.mul y):=Bv (ef hx hy)
theorem val_add{x y:Fr}(hx:0<x.den)(hy:0<y.den):val (x.add y)=val x+val y:=by
 have a:=l9 hx;have b:=l9 hy
 unfold Fr.add
 rw[xj (ef hx hy),fX,aL,aL,fY,aL]
 unfold val;grind
theorem val_sub{x y:Fr}(hx:0<x.den)(hy:0<y.den):val (x.sub y)=val x-val y:=by
 have a:=l9 hx;have b:=l9 hy
 unfold Fr.sub
 rw[xj (ef hx hy),fV,aL,aL,fY,aL]
 unfold val;grind
theorem val_mul{x y:Fr}(hx:0<x.den)(hy:0<y.den):val (x.mul y)=val x*val y:=by
 have a:=l9 hx;have b:=l9 hy
 unfold Fr.mul
 rw[xj (ef hx hy),aL,fY,aL]
 unfold val;grind
theorem Bw{x:Fr}(hx:0<x.den):x.num=0↔val x=0:=by
 have a:=l9 hx
 unfold val
 constructor
 ·intro h;rw[h];show ((0:Int):Rat)/_=0;grind
 ·intro h
  have:(x.num:Rat)=((0:Int):Rat):=by
   have e:(x.num:Rat)=(x.num:Rat)/((x.den:Int):Rat)*((x.den:Int):Rat):=by grind
   rw[h] at e;rw[e];show 0*_=(0:Rat);grind
  exact dH.mp this
theorem Jc{x y:Fr}(hx:0<x.den)(hy:0<y.den)(h:val y≠0):CH (x.div y):=by
 have:y.num≠0:=λ z=>h ((Bw hy).mp z)
 exact Bv (ef hx (by omega))
theorem Jd{x y:Fr}(hx:0<x.den)(hy:0<y.den)(h:val y≠0):val (x.div y)=val x/val y:=by
 have n0:y.num≠0:=λ z=>h ((Bw hy).mp z)
 have a:=l9 hx;have b:=l9 hy
 unfold Fr.div
 rw[xj (ef hx (by omega)),fY,aL,aL,aL]
 have n1:(y.num:Rat)≠0:=λ z=>n0 (by have:(y.num:Rat)=((0:Int):Rat):=z;exact dH.mp this)
 rcases Int.lt_trichotomy y.num 0 with l | l | l
 ·rw[Int.sign_eq_neg_one_of_neg l,show ((y.num.natAbs:Nat):Int) = - y.num by omega,fW]
  show _*((-1:Int):Rat)/_=_;rw[show ((-1:Int):Rat) = -1 from rfl];unfold val;grind
 ·exact absurd l n0
 ·rw[Int.sign_eq_one_of_pos l,show ((y.num.natAbs:Nat):Int)=y.num by omega]
  show _*((1:Int):Rat)/_=_;rw[show ((1:Int):Rat)=1 from rfl];unfold val;grind
theorem Np{x y:Fr}(hx:0<x.den)(hy:0<y.den):x.less y=decide (val x<val y):=by
 have a:=l9 hx;have b:=l9 hy
 unfold Fr.less
 refine decide_eq_decide.mpr ?_
 rw[<-cK,aL,aL]
 have ex:(x.num:Rat)=val x*((x.den:Int):Rat):=by unfold val;grind
 have ey:(y.num:Rat)=val y*((y.den:Int):Rat):=by unfold val;grind
 rw[ex,ey]
 have pq:(0:Rat)<((x.den:Int):Rat)*((y.den:Int):Rat):=fT a b
 constructor
 ·intro h
  have:(((x.den:Int):Rat)*((y.den:Int):Rat))*val x<(((x.den:Int):Rat)*((y.den:Int):Rat))*val y:=by grind
  exact eO this (bU pq)
 ·intro h
  have:=dZ h pq;grind
theorem sP:CH none_:=⟨by decide,by decide⟩
theorem Je:CH one_:=⟨by decide,by decide⟩
theorem sQ:val none_=0:=by unfold val none_;show ((0:Int):Rat)/_=0;grind
theorem val_one:val one_=1:=by
 unfold val one_
 show ((1:Int):Rat)/((1:Int):Rat)=1
 rw[show ((1:Int):Rat)=1 from rfl];grind
def pX(m:List Row)(i j:Nat):Rat:=val (at_ (m.getD i []) j)
def oQ(m:List Row)(n:Nat):Prop:=m.length=n/\∀r∈m,r.length=n+1/\∀x∈r,CH x
theorem Su{r:Row}{j:Nat}(h:j<r.length):at_ r j∈r:=by
 unfold at_
 rw[aa,af h];exact aW h
theorem oQ.row{m:List Row}{n i:Nat}(L:oQ m n)(hi:i<n):m.getD i []∈m:=by
 have:i<m.length:=by rw[L.1];exact hi
 rw[aa,af this];exact aW this
theorem oQ.low{m:List Row}{n i j:Nat}(L:oQ m n)(hi:i<n)(hj:j<=n):CH (at_ (m.getD i []) j):=by
 obtain⟨a,b⟩:=L.2 _ (L.row hi)
 exact b _ (Su (by omega))
theorem KQ{p:Nat->Bool}{n i:Nat}(hi:i<n)(h1:p i=true)(h2:∀j,j<i->p j=false):(ay n).find? p=some i:=by
 rw[gG]
 exact⟨h1,by simpa using hi,λ j hj=>by rw[h2 j hj];rfl⟩
theorem Sv{f:Fr->Fr->Fr}{a b:Row}{j:Nat}(ha:j<a.length)(hb:j<b.length):at_ (iV f a b) j=f (at_ a j) (at_ b j):=by
 simp[at_,aa,fF,af ha,af hb]
theorem Nq{f:Fr->Fr}{a:Row}{j:Nat}(ha:j<a.length):at_ (a.map f) j=f (at_ a j):=by
 simp[at_,aa,aj,af ha]
theorem HA{m:List Row}{n k:Nat}(L:oQ m n)(hk:k<n)(hp:pX m k k≠0) :
  oQ (cleared m k) n/\∀i j,i<n->j<=n->pX (cleared m k) i j=if i=k then pX m k j/pX m k k else pX m i j-pX m i k*(pX m k j/pX m k k):=by
 have lk:=L.low hk (aY hk)
 have Nr:=(L.2 _ (L.row hk)).1
 have fd:((ay m.length).find? λ j=>decide (k<=j)&&(at_ (m.getD j []) k).num != 0)=some k:=by
  rw[L.1];refine KQ hk ?_ λ j hj=>?_
  ·have:(at_ (m.getD k []) k).num≠0:=λ z=>hp ((Bw lk.pos).mp z)
   simp only[aq,decide_true,bZ,bne_iff_ne,ne_eq];exact this
  ·simp;omega
 have un:cleared m k=(((m.set k (m.getD k [])).set k ((m.getD k []).map λ a=>a.div (at_ (m.getD k []) k))).zipIdx.map λ x=>if x.2=k then x.1 else less x.1 (at_ x.1 k) ((m.getD k []).map λ a=>a.div (at_ (m.getD k []) k))):=by
  unfold cleared;rw[fd]
 have Ov:∀i,i<n->(cleared m k).getD i []=if i=k then (m.getD k []).map λ a=>a.div (at_ (m.getD k []) k) else less (m.getD i []) (at_ (m.getD i []) k) ((m.getD k []).map λ a=>a.div (at_ (m.getD k []) k)):=λ i hi=>by
  have hm:i<m.length:=by rw[L.1];exact hi
  have hkm:k<m.length:=by rw[L.1];exact hk
  rw[un]
  by_cases e:i=k
  ·subst e;simp[aa,dY,fz,hm]
  ·have e':k≠i:=λ z=>e z.symm
   simp[aa,dY,fz,hm,e,e']
 have U3:(cleared m k).length=n:=by rw[un];simp[L.1]
 refine⟨⟨U3,λ r hr=>?_⟩,λ i j hi hj=>?_⟩
 ·obtain⟨i,hi,rfl⟩:=bN hr
  have hi':i<n:=by rw[U3] at hi;exact hi
  have e:=Ov i hi';rw[aa,af hi] at e;rw[show (cleared m k)[i]=_ from e];have ql:∀x∈(m.getD k []).map λ a=>a.div (at_ (m.getD k []) k),CH x:=λ x hx=>by
   obtain⟨a,ha,rfl⟩:=az.mp hx;exact Jc ((L.2 _ (L.row hk)).2 a ha).pos lk.pos hp
  split
  ·exact⟨by rw[ah,Nr],ql⟩
  ·have li:=L.2 _ (L.row hi');refine⟨by simp only[less,eT,ah,li.1,Nr];omega,λ x hx=>?_⟩;obtain⟨t,ht,rfl⟩:=bN hx;have hx2:CH ((less (m.getD i []) (at_ (m.getD i []) k) ((m.getD k []).map λ a=>a.div (at_ (m.getD k []) k)))[t]):=by
    simp only[less,List.getElem_zipWith]
    have ht':=ht;simp only[less,eT,ah] at ht'
    have l1:=li.2 _ (aW (show t<(m.getD i []).length by omega));have l2:=ql _ (aW (show t<((m.getD k []).map λ a=>a.div (at_ (m.getD k []) k)).length by rw[ah];omega));exact Jb l1.pos (EG (L.low hi' (aY hk)).pos l2.pos).pos
   exact hx2
 ·simp only[pX]
  rw[Ov i hi]
  by_cases e:i=k
  ·rw[if_pos e,if_pos e,Nq (by rw[Nr];omega),Jd (L.low hk hj).pos lk.pos hp]
  ·rw[if_neg e,if_neg e];have li:=(L.2 _ (L.row hi)).1;unfold less;rw[Sv (by rw[li];omega) (by rw[ah,Nr];omega),Nq (by rw[Nr];omega)];have dv:=Jc (L.low hk hj).pos lk.pos hp;rw[val_sub (L.low hi hj).pos (EG (L.low hi (aY hk)).pos dv.pos).pos,val_mul (L.low hi (aY hk)).pos dv.pos,Jd (L.low hk hj).pos lk.pos hp]
theorem DK{m:List Row}{n:Nat}(L:oQ m n)(hp:∀k,k<n->G (pX m) k k k≠0):∀k,k<=n->oQ ((ay k).foldl cleared m) n/\∀i j,i<n->j<=n->pX ((ay k).foldl cleared m) i j=G (pX m) k i j
 |0,_=>⟨L,λ _ _ _ _=>rfl⟩
 |k+1,hk=>by
  obtain⟨a,b⟩:=DK L hp k (aY hk);rw[ia,cV,dD,gv];obtain⟨c,d⟩:=HA a hk (by rw[b k k hk (aY hk)];exact hp k hk);refine⟨c,λ i j hi hj=>?_⟩;rw[d i j hi hj,b k j hk hj,b k k hk (aY hk),b i j hi hj,b i k hi (aY hk)];rfl
theorem KR{m:List Row}{n:Nat}(L:oQ m n){u:Nat->Rat}(K:Dom (pX m) n u):(solved m).length=n/\(∀i,i<n->CH (at_ (solved m) i))/\∀i,i<n->sm n (λ t=>pX m i t*val (at_ (solved m) t))=pX m i n:=by
 have hp:=(IQ K n (aq n)).1
 have G4:∀k,k<n->G (pX m) k k k≠0:=λ k hk=>by have:=hp k hk;grind
 obtain⟨a,b⟩:=DK L G4 n (aq n)
 have sv:∀i,i<n->at_ (solved m) i=at_ (((ay n).foldl cleared m).getD i []) n:=λ i hi=>by
  have:i<((ay n).foldl cleared m).length:=by rw[a.1];exact hi
  unfold solved;rw[L.1];simp[at_,aa,aj,af this]
 refine⟨by unfold solved;rw[L.1,ah,a.1],λ i hi=>by rw[sv i hi];exact a.low hi (aq n),λ i hi=>?_⟩
 have bk:=Bp G4 n (aq n) i n
 rw[if_neg (by omega)] at bk
 rw[kW (g:=λ t=>pX m i t*G (pX m) n t n) λ t ht=>by
  have:=b t n ht (aq n);simp only[pX] at this ⊢
  rw[sv t ht,this]]
 grind
def CI(x:Fr×List (Nat×Fr)):nL:=⟨1,x.2.map λ y=>(y.1,val y.2),val x.1⟩
theorem yp{t:Nat}:∀(ys:List (Nat×Fr)) (a:Fr),0<a.den->(∀y∈ys,0<y.2.den)->0<((ys.filter λ y=>y.1==t).foldl (λ a y=>a.add y.2) a).den/\val ((ys.filter λ y=>y.1==t).foldl (λ a y=>a.add y.2) a)=val a+wj (ys.map λ y=>(y.1,val y.2)) t
 |[],a,ha,_=>⟨ha,by simp only[List.filter_nil,gv,bQ,wj];grind⟩
 |y::ys,a,ha,h=>by
  have hy:=h y (by simp)
  by_cases e:(y.1==t)=true
  ·rw[List.filter_cons_of_pos (p:=λ y:Nat×Fr=>y.1==t) e,dD];obtain⟨p,q⟩:=yp (t:=t) ys (a.add y.2) (Ja ha hy).pos λ z hz=>h z (by simp[hz])
   refine⟨p,?_⟩;rw[q,val_add ha hy];simp only[aU,wj]
   rw[if_pos (beq_iff_eq.mp e).symm];grind
  ·rw[List.filter_cons_of_neg (p:=λ y:Nat×Fr=>y.1==t) e];obtain⟨p,q⟩:=yp (t:=t) ys a ha λ z hz=>h z (by simp[hz])
   refine⟨p,?_⟩;rw[q];simp only[aU,wj]
   rw[if_neg (λ z=>e (beq_iff_eq.mpr z.symm))];grind
theorem F5{n:Nat}{f:Nat->Fr×List (Nat×Fr)}{u:Nat->Rat}(hl:∀s,s<n->CH (f s).1/\∀y∈(f s).2,0<y.2.den)(K:Keeps (λ s=>CI (f s)) n u) :
  (standing n f).length=n/\(∀s,s<n->CH (at_ (standing n f) s))/\∀s,s<n->(CI (f s)).lhs s (λ t=>val (at_ (standing n f) t))=(CI (f s)).rhs:=by
 let m:List Row:=(ay n).map λ s=>((ay n).map λ t=>(if t=s then one_ else none_).sub (((f s).2.filter λ y=>y.1==t).foldl (λ a y=>a.add y.2) none_))++[(f s).1]
 have hst:standing n f=solved m:=rfl
 have rowAt:∀s,s<n->m.getD s []=((ay n).map λ t=>(if t=s then one_ else none_).sub (((f s).2.filter λ y=>y.1==t).foldl (λ a y=>a.add y.2) none_))++[(f s).1]:=λ s hs=>by
  simp[m,aa,aj,aO hs]
 have e0:∀t s:Nat,CH (if t=s then one_ else none_):=λ t s=>by split;exact Je;exact sP
 have L:oQ m n:=by
  refine⟨by simp[m],λ r hr=>?_⟩;obtain⟨s,hs,rfl⟩:=az.mp hr;have hs:=aG.mp hs;refine⟨by simp,λ x hx=>?_⟩
  rcases br.mp hx with h | h
  ·obtain⟨t,_,rfl⟩:=az.mp h;exact Jb (e0 t s).pos (yp _ _ sP.pos (hl s hs).2).1
  ·rw[List.mem_singleton.mp h];exact (hl s hs).1
 have eA:∀s t,s<n->t<n->pX m s t=(CI (f s)).am s t:=λ s t hs ht=>by
  simp only[pX]
  rw[rowAt s hs];have:at_ (((ay n).map λ t=>(if t=s then one_ else none_).sub (((f s).2.filter λ y=>y.1==t).foldl (λ a y=>a.add y.2) none_))++[(f s).1]) t=(if t=s then one_ else none_).sub (((f s).2.filter λ y=>y.1==t).foldl (λ a y=>a.add y.2) none_):=by
   unfold at_;rw[aa,bL (by simpa using ht),aj,aO ht];rfl
  obtain⟨p,q⟩:=yp (t:=t) _ _ sP.pos (hl s hs).2;rw[this,val_sub (e0 t s).pos p,q,sQ];simp only[nL.am,CI]
  by_cases e:t=s
  ·simp only[e,if_true,val_one];grind
  ·simp only[e,if_false,sQ];grind
 have eN:∀s,s<n->pX m s n=(CI (f s)).rhs:=λ s hs=>by
  simp only[pX]
  rw[rowAt s hs];have:at_ (((ay n).map λ t=>(if t=s then one_ else none_).sub (((f s).2.filter λ y=>y.1==t).foldl (λ a y=>a.add y.2) none_))++[(f s).1]) n=(f s).1:=by
   unfold at_;rw[aa,cP (by simp)];simp
  rw[this];rfl
 have D:Dom (pX m) n u:={
  off:=λ i j hi hj e=>by rw[eA i j hi hj];exact K.dom.off i j hi hj e
  pos:=K.pos
  sum:=λ i hi=>by
   rw[kW (g:=λ j=>(CI (f i)).am i j*u j) λ j hj=>by rw[eA i j hi hj]];exact K.dom.sum i hi }
 obtain⟨a,b,c⟩:=KR L D
 rw[hst]
 refine⟨a,b,λ s hs=>?_⟩
 have c':=c s hs
 rw[eN s hs,kW (g:=λ t=>(CI (f s)).am s t*val (at_ (solved m) t)) λ t ht=>by rw[eA s t hs ht],nL.dot hs (K.to s hs)] at c'
 exact c'
theorem xm{α:Type}{f:α->α}{x:α}(h:f x=x):∀k,iter f k x=x
 |0=>rfl
 |k+1=>by show iter f k (f x)=x;rw[h];exact xm h k
theorem zK(value:Plan->Row)(change:Plan->Row->Plan):∀(fuel k:Nat) (p:Plan),k<=fuel->change (iter (λ p=>change p (value p)) k p) (value (iter (λ p=>change p (value p)) k p))=iter (λ p=>change p (value p)) k p ->
  improved value change fuel p=value (iter (λ p=>change p (value p)) k p)
 |0,k,p,hk,_=>by
  have:k=0:=by omega
  subst this;rfl
 |fuel+1,0,p,_,h=>by
  have h':change p (value p)=p:=h;show (if change p (value p)=p then value p else improved value change fuel (change p (value p)))=value p;rw[if_pos h']
 |fuel+1,k+1,p,hk,h=>by
  show (if change p (value p)=p then value p else improved value change fuel (change p (value p)))=_
  by_cases e:change p (value p)=p
  ·rw[if_pos e,xm (f:=λ p=>change p (value p)) e]
  ·rw[if_neg e];exact zK value change fuel k (change p (value p)) (by omega) h
theorem Bx{v:Row}{n:Nat}(hv:∀s,s<n->0<(at_ v s).den):∀(ps:List (Nat×Fr)) (a:Fr),0<a.den->(∀y∈ps,0<y.2.den/\y.1<n) ->
  0<(ps.foldl (λ a w=>a.add (w.2.mul (at_ v w.1))) a).den/\val (ps.foldl (λ a w=>a.add (w.2.mul (at_ v w.1))) a)=val a+wd (ps.map λ y=>(y.1,val y.2)) (λ t=>val (at_ v t))
 |[],a,ha,_=>⟨ha,by simp only[gv,bQ,wd];grind⟩
 |y::ys,a,ha,h=>by
  obtain⟨h1,h2⟩:=h y (by simp);have hm:=EG h1 (hv y.1 h2);obtain⟨p,q⟩:=Bx hv ys (a.add (y.2.mul (at_ v y.1))) (Ja ha hm.pos).pos λ z hz=>h z (by simp[hz])
  rw[dD];refine⟨p,?_⟩;rw[q,val_add ha hm.pos,val_mul h1 (hv y.1 h2)];simp only[aU,wd];grind
theorem DL{c:Choice}(hW:0<c.weight):∀y∈c.parts,CH y.2:=λ y hy=>by
 obtain⟨w,_,rfl⟩:=az.mp hy
 exact Bv hW
theorem By{c:Choice}(hW:0<c.weight)(x:Nat->Rat):(((c.weight:Nat):Int):Rat)*wd (c.parts.map λ y=>(y.1,val y.2)) x=wd (oj c.ways) x:=by
 have hq:=mD (show (0:Int)<(c.weight:Int) by omega)
 have:∀ws:List (Nat×Nat),(((c.weight:Nat):Int):Rat)*wd ((ws.map λ w=>(w.1,fr (w.2:Nat) c.weight)).map λ y=>(y.1,val y.2)) x=wd (oj ws) x:=λ ws=>by
  induction ws with
  |nil=>simp only[bQ,wd,oj];grind
  |cons w ws ih=>
   simp only[aU,wd,oj] at ih ⊢
   rw[<-ih,xj hW,bg,bg];rw[bg] at hq;grind
 exact this c.ways
theorem EH{c:Choice}(hW:0<c.weight):wd (c.parts.map λ y=>(y.1,val y.2)) (λ _=>1)=1:=by
 have hq:=mD (show (0:Int)<(c.weight:Int) by omega)
 have e:=By hW (λ _=>1)
 have:∀ws:List (Nat×Nat),wd (oj ws) (λ _=>1)=((((ws.map λ w=>w.2).sum:Nat):Int):Rat):=λ ws=>by
  induction ws with
  |nil=>simp only[oj,bQ,wd,List.sum_nil];rfl
  |cons w ws ih=>
   simp only[oj,aU,wd,cW] at ih ⊢
   rw[ih,Int.natCast_add,fX,bg w.2];grind
 rw[this] at e
 have e':(((c.weight:Nat):Int):Rat)*wd (c.parts.map λ y=>(y.1,val y.2)) (λ _=>1)=(((c.weight:Nat):Int):Rat):=e
 clear e this
 generalize wd (c.parts.map λ y=>(y.1,val y.2)) (λ _=>1)=x at *
 generalize (((c.weight:Nat):Int):Rat)=a at *
 have h1:a*x<=a*1:=by grind
 have h2:a*1<=a*x:=by grind
 have:=bC h1 hq
 have:=bC h2 hq
 grind
section
variable{N:Net}{p q:Nat}
theorem ny(G:Good N){s:Nat}{c:Choice}(h:c∈choicesOf N s):0<c.weight/\(∀w∈c.ways,w.1<N.length)/\(choicesOf N s).length<=8:=by
 obtain⟨x,hx,hc⟩:=qP h
 obtain⟨a,b,d,_⟩:=G.ways x hx c hc
 refine⟨Bo a λ w hw=>(d w hw).2.1,λ w hw=>(d w hw).1,?_⟩
 unfold choicesOf at h ⊢
 cases e:N[s]? with
 |none=>simp
 |some y=>simp only[bE,di];exact G.few y (au e)
end
section
variable{N:Net}{p q:Nat}
end
theorem KU{a b c:Rat}(h:a+b<=c):a<=c-b:=by grind
section
variable{N:Net}{p q:Nat}
end
end La
end
noncomputable section
namespace La
def In(x b:Rat):Prop:=-b<=x/\x<=b
theorem In.mul{x y a b:Rat}(ha:In x a)(hb:In y b)(a0:0<=a)(b0:0<=b):In (x*y) (a*b):=by
 obtain⟨p,q⟩:=ha
 obtain⟨r,s⟩:=hb
 have h1:0<=(a-x)*(b+y):=bh (by grind) (by grind)
 have h2:0<=(a+x)*(b-y):=bh (by grind) (by grind)
 have h3:0<=(a-x)*(b-y):=bh (by grind) (by grind)
 have h4:0<=(a+x)*(b+y):=bh (by grind) (by grind)
 constructor<;>grind
theorem U4{X:Rat}:∀(C:List Nat) (f:Nat->List Nat->Rat),(∀c cs,c∈C->(∀x∈cs,x∈C)->cs.length+1=C.length->In (f c cs) X)->In (S f C) ((C.length:Rat)*X)
 |[],f,_=>by
  show In 0 (((0:Nat):Rat)*X);have:((0:Nat):Rat)=0:=rfl;rw[this]
  constructor<;>grind
 |a::C,f,h=>by
  have i:=U4 C (λ d ds=>f d (a::ds)) λ c cs hc hcs hl=>h c (a::cs) (by simp[hc]) (λ x hx=>by
   rcases aB.mp hx with rfl | hx
   ·simp
   ·simp[hcs x hx]) (by simp[hl])
  have j:=h a C (by simp) (λ x hx=>by simp[hx]) rfl;have e:(((a::C).length:Nat):Rat)=(C.length:Rat)+1:=by rw[aK,Rat.natCast_add];rfl
  simp only[S]
  rw[e];obtain⟨p,q⟩:=i;obtain⟨r,s⟩:=j
  constructor<;>grind
theorem PR{M L:Rat}(hM:0<=M)(hL:0<=L)(h1:1<=L*M):∀(V:List (Nat->Rat)) (R:List Nat),(R.length:Rat)<=L->(∀v∈V,∀r∈R,In (v r) M)->In (D V R) ((L*M)^V.length)
 |[],R,_,_=>by
  show In 1 ((L*M)^0);rw[gg]
  constructor<;>grind
 |v::V,R,hR,h=>by
  have X0:0<=(L*M)^V.length:=by
   have:0<L*M:=by grind
   induction V.length with
   |zero=>rw[gg];grind
   |succ k ih=>rw[dB];exact bh ih (by grind)
  have s:=U4 (X:=M*(L*M)^V.length) R (λ r R'=>v r*D V R') λ c cs hc hcs hl=>by
   refine In.mul (h v (by simp) c hc) (PR hM hL h1 V cs ?_ λ u hu r hr=>h u (by simp[hu]) r (hcs r hr)) hM X0;have:(cs.length:Rat)<=(R.length:Rat):=cu.mpr (by omega);grind
  rw[aK,dB];have m:(R.length:Rat)*(M*(L*M)^V.length)<=L*(M*(L*M)^V.length):=cD hR (bh hM X0);show In (S (λ r R'=>v r*D V R') R) _;obtain⟨p,q⟩:=s
  constructor<;>grind
theorem qB:∀k,(desc k).length=k
 |0=>rfl
 |k+1=>by simp[desc,qB k]
section
variable{A:Nat->Nat->Rat}{n:Nat}
theorem KW{x:Rat}(h:1<=x):∀{a b:Nat},a<=b->x^a<=x^b:=λ {a b} hab=>by
 induction b with
 |zero=>
   have:a=0:=by omega
   subst this;exact bK
 |succ b ih=>
  by_cases e:a=b+1
  ·subst e;exact bK
  ·have i:=ih (by omega);have p:0<=x^b:=by
    clear i ih hab e
    induction b with
    |zero=>rw[gg];grind
    |succ b ih=>rw[dB];exact bh ih (by grind)
   have q:=bA h p;rw[dB];grind
theorem PU{M L:Rat}(hM:0<=M)(hL:0<=L)(h1:1<=L*M)(hn:((n+1:Nat):Rat)<=L)(hA:∀i j,i<n->j<=n->In (A i j) M)(hp:∀k,k<n->G A k k k≠0)(k:Nat)(hk:k<=n) :
  In (dd A k) ((L*M)^(n+1))/\∀i j,i<n->j<=n->In (dd A k*G A k i j) ((L*M)^(n+1)):=by
 have up:∀{x:Rat} {a:Nat},a<=n+1->In x ((L*M)^a)->In x ((L*M)^(n+1)):=λ {x a} ha h=>by
  have:=KW h1 ha;obtain⟨p,q⟩:=h
  constructor<;>grind
 have len:∀m:Nat,m<=n+1->((m:Nat):Rat)<=L:=λ m hm=>iW (cu.mpr hm) hn
 obtain⟨one,two⟩:=Ni hp k hk
 have Sw:∀(l:List Nat),(∀x∈l,x<=n)->∀(R:List Nat),(∀r∈R,r<n)->∀v∈l.map (col A),∀r∈R,In (v r) M:=λ l hl R hR v hv r hr=>by
  obtain⟨j,hj,rfl⟩:=az.mp hv;exact hA r j (hR r hr) (hl j hj)
 have dk:∀x∈desc k,x<n:=λ x hx=>aI (m7.mp hx) hk
 refine⟨?_,λ i j hi hj=>?_⟩
 ·rw[<-one]
  refine up (a:=((desc k).map (col A)).length) (by rw[ah,qB];omega) (PR hM hL h1 _ _ (by rw[qB];exact len k (by omega)) (Sw _ (λ x hx=>aY (dk x hx)) _ dk))
 ·by_cases hik:k<=i
  ·rw[<-two i j hik];refine up (a:=(col A j::(desc k).map (col A)).length) (by rw[aK,ah,qB];omega) (PR hM hL h1 _ _ (by rw[aK,qB];exact len (k+1) (by omega)) (Sw (j::desc k) (λ x hx=>?_) _ λ r hr=>?_))
   ·rcases aB.mp hx with rfl | hx
    ·exact hj
    ·exact aY (dk x hx)
   ·rcases aB.mp hr with rfl | hr
    ·exact hi
    ·exact dk r hr
  ·have hi':i<k:=by omega
   obtain⟨s,t,e⟩:=dw (m7.mpr hi');obtain⟨c,hc⟩:=IU (k:=k) (desc k) (λ r hr=>m7.mp hr) λ r R'=>D ((s++t).map (col A)) R'
   have y:∀l,D (col A l::(s++t).map (col A)) (desc k)=sm k (λ m=>A m l*c m):=λ l=>hc (col A l)
   obtain⟨σ,hs,mv⟩:=Hz (col A i) (s.map (col A)) (t.map (col A));have yi:sm k (λ m=>A m i*c m) = σ*dd A k:=by
    rw[<-y,bu,mv,<-one,e];simp
   have y0:∀l,l<k->l≠i->sm k (λ m=>A m l*c m)=0:=λ l hl hne=>by
    rw[<-y];have hm:l∈s++t:=by
     have:=m7.mpr hl;rw[e] at this;simp only[br,aB] at this ⊢
     rcases this with h | h | h
     ·exact .inl h
     ·exact absurd h hne
     ·exact .inr h
    obtain⟨a,b,e2⟩:=dw hm;rw[e2,bu,aU];exact IS _ _ _ _
   have stl:∀x∈s++t,x∈desc k:=λ x hx=>by
    rw[e]
    rcases br.mp hx with h | h
    ·exact br.mpr (.inl h)
    ·exact br.mpr (.inr (aM _ h))
   have ln:(s++t).length+1=k:=by
    have:=congrArg dU e;rw[qB] at this;simp at this ⊢;omega
   have yj:In (D (col A j::(s++t).map (col A)) (desc k)) ((L*M)^(n+1)):=by
    refine up (a:=(col A j::(s++t).map (col A)).length) (by rw[aK,ah,ln];omega) (PR hM hL h1 _ _ (by rw[qB];exact len k (by omega)) (Sw (j::(s++t)) (λ x hx=>?_) _ dk))
    rcases aB.mp hx with rfl | hx
    ·exact hj
    ·exact aY (dk x (stl x hx))
   rw[y,Br hp hk c j,zd (i:=i) hi' λ l hl hne=>by rw[y0 l hl hne];grind,yi] at yj
   rcases hs with rfl | rfl
   ·have:(1:Rat)*dd A k*G A k i j=dd A k*G A k i j:=by grind
    rwa [this] at yj
   ·have:dd A k*G A k i j = - (-1*dd A k*G A k i j):=by grind
    rw[this];obtain⟨p,q⟩:=yj
    constructor<;>grind
end
theorem F6{rows:List (List Int)}{n:Nat}(hl:rows.length=n)(hw:∀r∈rows,r.length=n+1)(hn:n<=16)(hA:∀i j,i<n->j<=n->((rows.getD i []).getD j 0).natAbs<2^40)(hp:∀k,k<n->0<G (ent rows) k k k)(k:Nat)(hk:k<=n) :
  (jx rows k).2.natAbs<2^1000/\∀i j,i<n->j<=n->(((jx rows k).1.getD i []).getD j 0).natAbs<2^1000:=by
 obtain⟨a,b,c,d⟩:=qz hl hw hp k hk
 have G4:∀k,k<n->G (ent rows) k k k≠0:=λ k hk=>by have:=hp k hk;grind
 have W0:∀{z:Int} {m:Nat},z.natAbs<m->In (z:Rat) ((m:Nat):Rat):=λ {z m} h=>by
  constructor
  ·have:(((-(m:Int)):Int):Rat)<=(z:Rat):=cM.mpr (by omega);rw[fW,bg] at this;exact this
  ·have:(z:Rat)<=(((m:Nat):Int):Rat):=cM.mpr (by omega);rw[bg] at this;exact this
 have Nt:∀{z:Int} {m:Nat},In (z:Rat) ((m:Nat):Rat)->z.natAbs<=m:=λ {z m} h=>by
  obtain⟨p,q⟩:=h;rw[<-bg] at p q;rw[<-fW] at p;have:=cM.mp p;have:=cM.mp q;omega
 obtain⟨e,f⟩:=PU (A:=ent rows) (n:=n) (M:=((2^40:Nat):Rat)) (L:=((17:Nat):Rat)) gx gx (by
  rw[<-eX];have:((1:Nat):Rat)<=((17*2^40:Nat):Rat):=cu.mpr (by decide);exact this) (cu.mpr (by omega)) (λ i j hi hj=>W0 (hA i j hi hj)) G4 k hk
 have pw:(((17:Nat):Rat)*((2^40:Nat):Rat))^(n+1)=(((17*2^40)^(n+1):Nat):Rat):=by
  rw[<-eX];generalize 17*2^40=q
  induction (n+1) with
  |zero=>rw[gg,Nat.pow_zero];rfl
  |succ m ih=>rw[dB,cg,eX,ih]
 rw[pw] at e f
 have small:(17*2^40)^(n+1)<2^1000:=by
  have:(17*2^40)^(n+1)<=(17*2^40)^17:=dW (by decide) (by omega);exact bF this (by decide +kernel)
 rw[<-c] at e
 refine⟨bF (Nt e) small,λ i j hi hj=>?_⟩
 have g:=f i j hi hj
 rw[<-d i j hi hj] at g
 exact bF (Nt g) small
theorem Q5{n:Nat}{u:Nat->Rat}{U d:Rat}:∀{ws:List (Nat×Rat)}{w₀:Nat×Rat},w₀∈ws->(∀w∈ws,w.1<n/\0<=w.2)->(∀t,t<n->u t<=U)->u w₀.1<=U-d->wd ws u<=wd ws (λ _=>1)*U-w₀.2*d
 |w::ws,w₀,h,a,b,c=>by
  have rest:wd ws u<=wd ws (λ _=>1)*U:=by
   have e:wd ws (λ _=>U)=wd ws (λ _=>1)*U:=by
    clear a h
    induction ws with
    |nil=>simp only[wd];grind
    |cons x ws ih=>simp only[wd];rw[ih];grind
   rw[<-e];exact Af (n:=n) b (λ x hx=>(a x (by simp[hx])).1) λ x hx=>(a x (by simp[hx])).2
  have w0:=(a w (by simp)).2;simp only[wd]
  by_cases e:w₀ = w
  ·subst e;have:=bA c w0;grind
  ·have hm:w₀∈ws:=by
    rcases aB.mp h with z | z
    ·exact absurd z e
    ·exact z
   have i:=Q5 hm (λ x hx=>a x (by simp[hx])) b c;have:=bA (b w.1 (a w (by simp)).1) w0;grind
structure HB(R:Nat->nL)(n K:Nat):Prop where
 row:∀s,s<n->((R s).tot=1/\(R s).ways=[])\/((R s).ways≠[]/\0<(R s).tot/\wd (R s).ways (λ _=>1)=(R s).tot)
 way:∀s,s<n->∀w∈(R s).ways,w.1<n/\0<w.2/\(R s).tot<=(K:Rat)*w.2
theorem BA{x:Rat}(h:0<x):∀k:Nat,0<x^k
 |0=>by rw[gg];decide
 |k+1=>by rw[dB];exact fT (BA h k) h
theorem HC{R:Nat->nL}{n K B:Nat}(L:HB R n K)(rk:Nat->Nat)(hB:∀s,s<n->rk s<=B)(hr:∀s,s<n->(R s).ways≠[]->∃w∈(R s).ways,rk w.1<rk s) :
  ∃u,Keeps R n u:=by
 let x:Rat:=(K:Rat)+1
 have k0:(0:Rat)<=(K:Rat):=gx
 have x0:0<x:=by show 0<(K:Rat)+1;grind
 have x1:1<=x:=by show 1<=(K:Rat)+1;grind
 let g:Nat->Rat:=λ s=>x^(B-rk s)
 have g0:∀s,0<g s:=λ s=>BA x0 _
 have mono:∀a b:Nat,a<=b->x^a<=x^b:=λ a b h=>by
  induction b with
  |zero=>
    have:a=0:=by omega
    subst this;exact bK
  |succ b ih=>
   by_cases e:a=b+1
   ·subst e;exact bK
   ·have:=ih (by omega);rw[dB];have q:=bA x1 (bU (BA x0 b));grind
 let U:Rat:=x^B+1
 have gU:∀s,g s<U:=λ s=>by
  have:=mono (B-rk s) B (by omega);show x^(B-rk s)<x^B+1;grind
 refine⟨λ s=>U-g s,λ s hs w hw=>(L.way s hs w hw).1,λ s hs w hw=>bU (L.way s hs w hw).2.1,λ s _=>by have:=gU s;grind,λ s hs=>?_⟩
 rcases L.row s hs with ⟨e1,e2⟩ | ⟨ne,t0,e1⟩
 ·simp only[nL.lhs]
  rw[e1,e2];have:=gU s;simp only[wd];grind
 ·obtain⟨w,hw,lt⟩:=hr s hs ne
  obtain⟨wn,wp,wk⟩:=L.way s hs w hw;have b:=Q5 (n:=n) (u:=λ s=>U-g s) (U:=U) (d:=g w.1) hw (λ y hy=>⟨(L.way s hs y hy).1,bU (L.way s hs y hy).2.1⟩) (λ t _=>by have:=g0 t;grind) bK;rw[e1] at b;simp only[nL.lhs]
  have step:(K:Rat)*g s<g w.1:=by
   have h1:x^(B-rk s+1)<=x^(B-rk w.1):=mono _ _ (by have:=hB s hs;omega);rw[dB] at h1;have:=g0 s;show (K:Rat)*x^(B-rk s)<x^(B-rk w.1);have e:x^(B-rk s)*x=(K:Rat)*x^(B-rk s)+x^(B-rk s):=by show _*((K:Rat)+1)=_;grind
   have:0<x^(B-rk s):=g0 s;grind
  have s1:=dZ step wp;have s2:(R s).tot*g s<=((K:Rat)*w.2)*g s:=cD wk (bU (g0 s));grind
def ve(R:Nat->nL)(n:Nat):Prop:=∀C:Nat->Prop,(∃s,C s)->(∀s,C s->s<n/\(R s).ways≠[])->∃s,C s/\∃w∈(R s).ways,¬C w.1
theorem least{p:Nat->Prop}:∀k,p k->∃j,p j/\∀i,i<j->¬p i:=by
 intro k
 induction k using g8 with
 |_ k ih=>
  intro h
  by_cases e:∃i,i<k/\p i
  ·obtain⟨i,hi,hp⟩:=e;exact ih i hi hp
  ·exact⟨k,h,λ i hi hp=>e ⟨i,hi,hp⟩⟩
def Nu(R:Nat->nL):Nat->Nat->Prop
 |0,s=>(R s).ways=[]
 |k+1,s=>Nu R k s\/∃w∈(R s).ways,Nu R k w.1
theorem PV{R:Nat->nL}{n:Nat}(P:ve R n)(hw:∀s,s<n->∀w∈(R s).ways,w.1<n):∃(rk:Nat->Nat) (B:Nat),(∀s,s<n->rk s<=B)/\∀s,s<n->(R s).ways≠[]->∃w∈(R s).ways,rk w.1<rk s:=by
 have all:∀s,s<n->∃k,Nu R k s:=by
  by_cases h:∃s,s<n/\∀k,¬Nu R k s
  ·exfalso
   obtain⟨s₀,h0,h1⟩:=h;obtain⟨s,⟨hs,hc⟩,w,uh,hn⟩:=P (λ s=>s<n/\∀k,¬Nu R k s) ⟨s₀,h0,h1⟩ λ s hs=>⟨hs.1,λ z=>hs.2 0 z⟩
   refine hn ⟨hw s hs w uh,λ k hk=>hc (k+1) (.inr ⟨w,uh,hk⟩)⟩
  ·intro s hs
   by_cases e:∃k,Nu R k s
   ·exact e
   ·exact absurd ⟨s,hs,λ k hk=>e ⟨k,hk⟩⟩ h
 have pick:∀s,∃j,s<n->Nu R j s/\∀i,i<j->¬Nu R i s:=λ s=>by
  by_cases hs:s<n
  ·obtain⟨k,hk⟩:=all s hs;obtain⟨j,a,b⟩:=least (p:=λ k=>Nu R k s) k hk;exact⟨j,λ _=>⟨a,b⟩⟩
  ·exact⟨0,λ h=>absurd h hs⟩
 let rk:Nat->Nat:=λ s=>gR (pick s)
 have hrk:∀s,s<n->Nu R (rk s) s/\∀i,i<rk s->¬Nu R i s:=λ s hs=>fG (pick s) hs
 have bound:∀m,∃B,∀s,s<m->rk s<=B:=λ m=>by
  induction m with
  |zero=>exact⟨0,λ s h=>absurd h (g9 s)⟩
  |succ m ih=>
   obtain⟨B,hB⟩:=ih;refine⟨max B (rk m),λ s hs=>?_⟩
   by_cases e:s=m
   ·subst e;omega
   ·have:=hB s (by omega);omega
 obtain⟨B,hB⟩:=bound n
 refine⟨rk,B,hB,λ s hs ne=>?_⟩
 obtain⟨a,b⟩:=hrk s hs
 cases e:rk s with
 |zero=>rw[e] at a;exact absurd a ne
 |succ k=>
  rw[e] at a b
  rcases a with a | ⟨w,uh,hk⟩
  ·exact absurd a (b k (aD k))
  ·refine⟨w,uh,?_⟩;have:=(hrk w.1 (hw s hs w uh)).2
   by_cases z:rk w.1<k+1
   ·exact z
   ·exact absurd hk (this k (by omega))
theorem ve.keeps{R:Nat->nL}{n K:Nat}(P:ve R n)(L:HB R n K):∃u,Keeps R n u:=by
 obtain⟨rk,B,h1,h2⟩:=PV P λ s hs w hw=>(L.way s hs w hw).1
 exact HC L rk h1 h2
theorem xo{v:Nat->Rat}:∀(n:Nat) (C:Nat->Prop),(∃s,s<n/\C s)->∃m,m<n/\C m/\∀s,s<n->C s->v s<=v m
 |0,C,h=>by obtain⟨s,hs,_⟩:=h;omega
 |n+1,C,h=>by
  by_cases e:∃s,s<n/\C s
  ·obtain⟨m,hm,cm,hx⟩:=xo (v:=v) n C e
   by_cases q:C n/\v m<v n
   ·refine⟨n,by omega,q.1,λ s hs hc=>?_⟩
    by_cases z:s=n
    ·subst z;exact bK
    ·have:=hx s (by omega) hc;have:=q.2;grind
   ·refine⟨m,by omega,cm,λ s hs hc=>?_⟩
    by_cases z:s=n
    ·subst z;have:¬v m<v s:=λ y=>q ⟨hc,y⟩
     grind
    ·exact hx s (by omega) hc
  ·obtain⟨s,hs,hc⟩:=h;have:s=n:=by
    by_cases z:s=n
    ·exact z
    ·exact absurd ⟨s,by omega,hc⟩ e
   subst this;refine⟨s,hs,hc,λ t ht hct=>?_⟩;have:t=s:=by
    by_cases z:t=s
    ·exact z
    ·exact absurd ⟨t,by omega,hct⟩ e
   subst this;exact bK
theorem EI{v:Nat->Rat}{M:Rat}:∀{ws:List (Nat×Rat)},(∀w∈ws,0<w.2/\v w.1<=M)->wd ws v<=wd ws (λ _=>1)*M/\(wd ws v=wd ws (λ _=>1)*M->∀w∈ws,v w.1=M)
 |[],_=>⟨by simp only[wd];grind,λ _ w hw=>by cases hw⟩
 |x::ws,h=>by
  obtain⟨a,b⟩:=EI (ws:=ws) λ w hw=>h w (by simp[hw])
  obtain⟨p,q⟩:=h x (by simp);have m:=bA q (bU p);refine⟨by simp only[wd];grind,λ e w hw=>?_⟩;simp only[wd] at e
  have e1:x.2*v x.1=x.2*M:=by grind
  have e2:wd ws v=wd ws (λ _=>1)*M:=by grind
  rcases aB.mp hw with rfl | hw
  ·have l1:=bC (a:=M) (b:=v w.1) (c:=w.2) (by rw[e1];exact bK) p;grind
  ·exact b e2 w hw
theorem ve.next{R R':Nat->nL}{n K K':Nat}(P:ve R n)(L:HB R n K)(L':HB R' n K'){v:Nat->Rat}(hv:∀s,s<n->(R s).ways≠[]->(R s).lhs s v=0)
  (h:∀s,s<n->(R' s).ways≠[]->R' s=R s\/(R' s).lhs s v<0):ve R' n:=by
 intro C hne hC
 by_cases z:∃s,C s/\∃w∈(R' s).ways,¬C w.1
 ·exact z
 ·exfalso
  have closed:∀s,C s->∀w∈(R' s).ways,C w.1:=λ s hs w hw=>by
   by_cases q:C w.1
   ·exact q
   ·exact absurd ⟨s,hs,w,hw,q⟩ z
  obtain⟨s₀,hs₀⟩:=hne;obtain⟨m,hm,cm,most⟩:=xo (v:=v) n C ⟨s₀,(hC s₀ hs₀).1,hs₀⟩;have key:∀s,C s->v s=v m->R' s=R s/\∀w∈(R' s).ways,v w.1=v m:=λ s hs e=>by
   obtain⟨hn,ne⟩:=hC s hs;obtain⟨_,t0,sum⟩:=(L'.row s hn).resolve_left λ y=>ne y.2
   obtain⟨b1,b2⟩:=EI (v:=v) (M:=v m) (ws:=(R' s).ways) λ w hw=>⟨(L'.way s hn w hw).2.1,most _ (L'.way s hn w hw).1 (closed s hs w hw)⟩
   rw[sum] at b1 b2
   rcases h s hn ne with same | lt
   ·refine⟨same,b2 ?_⟩;have:=hv s hn (by rw[<-same];exact ne);rw[<-same] at this;simp only[nL.lhs] at this
    rw[e] at this;grind
   ·exfalso
    simp only[nL.lhs] at lt
    rw[e] at lt;grind
  obtain⟨s,⟨cs,es⟩,w,hw,hn⟩:=P (λ s=>C s/\v s=v m) ⟨m,cm,rfl⟩ λ s hs=>⟨(hC s hs.1).1,by rw[<-(key s hs.1 hs.2).1];exact (hC s hs.1).2⟩
  rw[<-(key s cs es).1] at hw;exact hn ⟨closed s cs w hw,(key s cs es).2 w hw⟩
end La
end
noncomputable section
namespace La
open Ra61 Fq
theorem zh{α:Type}(f:α->α)(μ:α->Nat)(n:Nat)(P:α->Prop)(hP:∀x,P x->P (f x))(hb:∀x,P x->μ x<=n)(hm:∀x,P x->f x≠x->μ x<μ (f x)) :
  ∀(k:Nat) (x:α),P x->n<=μ x+k->f (iter f k x)=iter f k x
 |0,x,p,h=>by
  apply aH
  intro e;have:=hm x p e;have:=hb _ (hP x p);omega
 |k+1,x,p,h=>by
  apply Classical.byCases (p:=f x=x)
  ·intro e;rw[xm e,e]
  ·intro e;have:=hm x p e;exact zh f μ n P hP hb hm k (f x) (hP x p) (by omega)
theorem oJ{α:Type}{f:α->α}{P:α->Prop}(hP:∀x,P x->P (f x)):∀(k:Nat) (x:α),P x->P (iter f k x)
 |0,_,p=>p
 |k+1,x,p=>oJ hP k (f x) (hP x p)
def m9(r:Rat)(c:Choice):nL:=⟨1,c.parts.map λ y=>(y.1,val y.2),r⟩
theorem DM{c:Choice}(hW:0<c.weight)(m:Int)(r:Rat)(s:Nat)(x:Nat->Rat) :
  (qA (lX m c)).lhs s x=(((c.weight:Nat):Int):Rat)*(m9 r c).lhs s x/\(qA (lX m c)).rhs=(((c.weight:Nat):Int):Rat)*((c.gain*m:Int):Rat)/\(0:Rat)<(((c.weight:Nat):Int):Rat):=by
 refine⟨?_,?_,mD (by omega)⟩
 ·have e:=By hW x
  show (((c.weight:Nat):Int):Rat)*x s-wd (oj c.ways) x=(((c.weight:Nat):Int):Rat)*(1*x s-wd (c.parts.map λ y=>(y.1,val y.2)) x);rw[<-e];grind
 ·show ((c.gain*m*((c.weight:Nat):Int):Int):Rat)=_
  rw[aL];grind
theorem DN{N:Net}(G:Good N){s:Nat}{c:Choice}(hc:c∈choicesOf N s):c.weight<=16000/\∀w∈c.ways,1<=w.2:=by
 obtain⟨x,hx,hc'⟩:=qP hc
 obtain⟨a,b,d,_⟩:=G.ways x hx c hc'
 have:∀ws:List (Nat×Nat),(∀w∈ws,w.2<=1000)->(ws.map λ w=>w.2).sum<=ws.length*1000:=λ ws=>by
  induction ws with
  |nil=>intro _;simp
  |cons w ws ih=>
   intro h;have i:=ih λ x hx=>h x (by simp[hx])
   have:=h w (by simp);rw[aU,cW,aK];omega
 have t:=this c.ways λ w hw=>(d w hw).2.2
 refine⟨?_,λ w hw=>(d w hw).2.1⟩
 show (c.ways.map λ w=>w.2).sum<=16000
 omega
theorem Ah{N:Net}(G:Good N){s:Nat}{c:Choice}(hc:c∈choicesOf N s):c.ways≠[]:=by
 obtain⟨x,hx,hc'⟩:=qP hc
 exact (G.ways x hx c hc').1
structure Jf(N:Net)(r:nL):Prop where
 row:(r.tot=1/\r.ways=[])\/(r.ways≠[]/\0<r.tot/\wd r.ways (λ _=>1)=r.tot)
 way:∀w∈r.ways,w.1<N.length/\0<w.2/\r.tot<=((16000:Nat):Rat)*w.2
theorem EJ(N:Net)(x:Rat):Jf N ⟨1,[],x⟩:=⟨.inl ⟨rfl,rfl⟩,λ w hw=>by cases hw⟩
theorem BB{N:Net}(G:Good N){s:Nat}{c:Choice}(hc:c∈choicesOf N s)(r:Rat):Jf N (m9 r c):=by
 obtain⟨hW,hn,_⟩:=ny G hc
 obtain⟨w16,w1⟩:=DN G hc
 refine⟨.inr ⟨?_,by show (0:Rat)<1;decide,EH hW⟩,λ w hw=>?_⟩
 ·intro e
  have e:(c.parts.map λ y=>(y.1,val y.2))=[]:=e;have:c.ways=[]:=by
   unfold Choice.parts at e;rw[eF] at e;exact f9.mp e
  exact Ah G hc this
 ·obtain⟨y,hy,rfl⟩:=az.mp hw
  obtain⟨w',uh,rfl⟩:=az.mp hy;have a:=w1 w' uh;have q:=mD (show (0:Int)<((c.weight:Nat):Int) by omega);have p:=mD (show (0:Int)<((w'.2:Nat):Int) by omega);refine⟨hn w' uh,?_,?_⟩
  ·show 0<val (fr (w'.2:Nat) c.weight);rw[xj hW,Rat.div_def];exact fT p (Rat.inv_pos.mpr q)
  ·show 1<=_*val (fr (w'.2:Nat) c.weight);rw[xj hW];have le:((c.weight:Nat):Rat)<=((16000*w'.2:Nat):Rat):=cu.mpr (by omega);rw[eX] at le;rw[bg] at p q ⊢;rw[bg];generalize ((c.weight:Nat):Rat)=x at *
   generalize ((w'.2:Nat):Rat)=y at *
   generalize ((16000:Nat):Rat)=k at *
   have e:x*(k*(y/x))=k*y:=by grind
   exact bC (a:=1) (b:=k*(y/x)) (c:=x) (by rw[e];grind) q
theorem PX{N:Net}(G:Good N){s:Nat}{c:Choice}(hc:c∈choicesOf N s)(m:Int):Jf N (qA (lX m c)):=by
 obtain⟨hW,hn,_⟩:=ny G hc
 obtain⟨w16,w1⟩:=DN G hc
 have q:=mD (show (0:Int)<((c.weight:Nat):Int) by omega)
 refine⟨.inr ⟨?_,q,?_⟩,λ w hw=>?_⟩
 ·intro e
  exact Ah G hc (f9.mp (show (c.ways.map λ w=>(w.1,(w.2:Rat)))=[] from e))
 ·have e:=By hW (λ _=>1)
  rw[EH hW] at e;show wd (oj c.ways) (λ _=>1)=(((c.weight:Nat):Int):Rat);rw[<-e];grind
 ·obtain⟨w',uh,rfl⟩:=az.mp hw
  have a:=w1 w' uh;refine⟨hn w' uh,?_,?_⟩
  ·have p:=mD (show (0:Int)<((w'.2:Nat):Int) by omega);rw[bg] at p;exact p
  ·show (((c.weight:Nat):Int):Rat)<=_*((w'.2:Nat):Rat);rw[bg,<-eX];exact cu.mpr (by omega)
theorem Jg{N:Net}{R:Nat->nL}(h:∀s,s<N.length->Jf N (R s)):HB R N.length 16000:=⟨λ s hs=>(h s hs).row,λ s hs w hw=>(h s hs).way w hw⟩
theorem xq{N:Net}{l:Plan}{stay:Nat->Bool}{ok:Choice->Bool}{better:Nat->Choice->Bool}{s:Nat}(hs:s<N.length) :
  (stay s=true/\(changed N l stay ok better).getD s 0=l.getD s 0)\/(stay s=false/\(((changed N l stay ok better).getD s 0=l.getD s 0/\∀c∈choicesOf N s,(ok c&&better s c)=false) \/
   ∃c,(choicesOf N s)[(changed N l stay ok better).getD s 0]? = some c/\(ok c&&better s c)=true)):=by
 have e:(changed N l stay ok better).getD s 0=if stay s=true then l.getD s 0 else ((choicesOf N s).findIdx? λ c=>ok c&&better s c).getD (l.getD s 0):=by
  simp[changed,aa,aj,aO hs]
 rw[e]
 cases h:stay s with
 |true=>exact .inl ⟨rfl,by rw[if_pos rfl]⟩
 |false=>
  refine .inr ⟨rfl,?_⟩;rw[if_neg (by simp)]
  cases q:(choicesOf N s).findIdx? λ c=>ok c&&better s c with
  |none=>
   rw[eL] at q;exact .inl ⟨rfl,q⟩
  |some j=>
   rw[bY] at q;obtain⟨hj,h1,_⟩:=q;exact .inr ⟨(choicesOf N s)[j],af hj,h1⟩
structure F7(N:Net)(l:Plan):Prop where
 len:l.length=N.length
 at_:∀s,s<N.length->l.getD s 0<max 1 (choicesOf N s).length
theorem F7.change{N:Net}{l:Plan}(F:F7 N l)(stay:Nat->Bool)(ok:Choice->Bool)(better:Nat->Choice->Bool):F7 N (changed N l stay ok better) where
 len:=by simp[changed]
 at_:=λ s hs=>by
  rcases xq (l:=l) (stay:=stay) (ok:=ok) (better:=better) hs with ⟨_,e⟩ | ⟨_,⟨e,_⟩ | ⟨c,e,_⟩⟩
  ·rw[e];exact F.at_ s hs
  ·rw[e];exact F.at_ s hs
  ·have:=(ao.mp e).1;omega
theorem KY(N:Net):F7 N (first N):=by
 have z:∀s,(first N).getD s 0=0:=λ s=>by
  simp only[first,aa,aj]
  cases N[s]? <;> rfl
 exact⟨by simp[first],λ s hs=>by rw[z];omega⟩
theorem HD{N:Net}(G:Good N)(value:Plan->Row)(change:Plan->Row->Plan)(start:Plan)(P:Plan->Prop)(V:Plan->Nat->Rat)(h0:P start)(hf:∀l,P l->F7 N l)(hs:∀l,P l->P (change l (value l)))
  (up:∀l,P l->(∀s,s<N.length->V l s<=V (change l (value l)) s)/\∀s,s<N.length->(change l (value l)).getD s 0≠l.getD s 0->V l s<V (change l (value l)) s) :
  ∃l,P l/\improved value change PLANS start=value l/\change l (value l)=l:=by
 let f:=λ l=>change l (value l)
 obtain⟨k,hk,e⟩:=Bt f P (λ a b=>(∀s,s<N.length->V a s<=V b s)/\∃s,s<N.length/\V a s<V b s) (sM ((ay N.length).map λ s=>(choicesOf N s).length)) start h0 hs
  (λ l p=>ze (by rw[(hf l p).len];simp) λ s hs=>by
   have hs:s<N.length:=by simpa using hs
   have e:((ay N.length).map λ s=>(choicesOf N s).length).getD s 0=(choicesOf N s).length:=by
    rw[aa,aj,aO hs];rfl
   rw[e];exact (hf l p).at_ s hs)
  (λ l p ne=>by
   obtain⟨g1,g2⟩:=up l p;refine⟨g1,?_⟩
   by_cases z:∃s,s<N.length/\(f l).getD s 0≠l.getD s 0
   ·obtain⟨s,hs,z⟩:=z;exact⟨s,hs,g2 s hs z⟩
   ·exfalso
    have F:=hf l p;have F':=hf _ (hs l p);refine ne (fO (by rw[F.len];exact F'.len) λ s h1 h2=>?_);have hs:s<N.length:=by rw[F.len] at h2;exact h2
    have gp:l.getD s 0=l[s]:=by rw[aa,af h2];rfl
    have gq:(f l).getD s 0=(f l)[s]:=by rw[aa,af h1];rfl
    rw[<-gp,<-gq]
    by_cases y:(f l).getD s 0=l.getD s 0
    ·exact y
    ·exact absurd ⟨s,hs,y⟩ z)
  (λ a b c _ _ _ h k=>⟨λ s hs=>iW (h.1 s hs) (k.1 s hs),by
   obtain⟨s,hs,lt⟩:=h.2;have:=k.1 s hs;exact⟨s,hs,by grind⟩⟩)
  (λ a _ h=>by obtain⟨s,_,lt⟩:=h.2;exact absurd lt Rat.lt_irrefl)
 have few:(sM ((ay N.length).map λ s=>(choicesOf N s).length)).length<=PLANS:=by
  refine bf (DI (m:=8) (by decide) λ b hb=>?_) ?_
  ·obtain⟨s,hs,rfl⟩:=az.mp hb;have hs:=aG.mp hs;unfold choicesOf
   cases e:N[s]? with
   |none=>simp
   |some y=>simp only[bE,di];exact G.few y (au e)
  ·rw[ah,cH];have:8^N.length<=8^16:=dW (by decide) G.len.2;exact bf this (by decide)
 exact⟨iter f k start,oJ hs k start h0,zK value change PLANS k start (bf hk few) e,e⟩
theorem KZ{N:Net}(G:Good N){v:Row}(hv:∀s,s<N.length->CH (at_ v s)){s:Nat}{c:Choice}(hc:c∈choicesOf N s) :
  0<(c.behind v).den/\val (c.behind v)=wd (c.parts.map λ y=>(y.1,val y.2)) (λ t=>val (at_ v t)):=by
 obtain⟨hW,hw,_⟩:=ny G hc
 obtain⟨b1,b2⟩:=Bx (v:=v) (n:=N.length) (λ s hs=>(hv s hs).pos) c.parts none_ sP.pos λ y hy=>⟨(DL hW y hy).pos,by
  obtain⟨w,uh,rfl⟩:=az.mp hy;exact hw w uh⟩
 have b2':val (c.behind v)=val none_+wd (c.parts.map λ y=>(y.1,val y.2)) (λ t=>val (at_ v t)):=b2
 exact⟨b1,by rw[b2',sQ];grind⟩
theorem yq{c:Choice}{r:Rat}{w:Nat×Rat}(h:w∈(m9 r c).ways):∃w'∈c.ways,w.1=w'.1:=by
 obtain⟨y,hy,rfl⟩:=az.mp h
 obtain⟨w',uh,rfl⟩:=az.mp hy
 exact⟨w',uh,rfl⟩
theorem yr{c:Choice}{r:Rat}{w:Nat×Nat}(h:w∈c.ways):∃w'∈(m9 r c).ways,w'.1=w.1:=
 ⟨(w.1,val (fr (w.2:Nat) c.weight)),az.mpr ⟨(w.1,fr (w.2:Nat) c.weight),az.mpr ⟨w,h,rfl⟩,rfl⟩,rfl⟩
theorem xr{p q:Nat->Bool}:∀l:List Nat,(∀x∈l,p x=true->q x=true)->(l.filter p).length<=(l.filter q).length/\((∃x∈l,q x=true/\p x=false)->(l.filter p).length<(l.filter q).length)
 |[],_=>⟨by simp,λ⟨x,hx,_⟩=>by cases hx⟩
 |y::l,h=>by
  obtain⟨a,b⟩:=xr (p:=p) (q:=q) l λ x hx=>h x (by simp[hx])
  have hy:=h y (by simp)
  constructor
  ·cases hp:p y with
   |true=>simp[cN,hp,hy hp];exact a
   |false=>
    cases hq:q y with
    |true=>simp[cN,hp,hq];omega
    |false=>simp[cN,hp,hq];exact a
  ·rintro⟨x,hx,q1,p1⟩
   rcases aB.mp hx with rfl | hx
   ·simp[cN,p1,q1];omega
   ·have:=b ⟨x,hx,q1,p1⟩
    cases hp:p y with
    |true=>simp[cN,hp,hy hp];exact this
    |false=>
     cases hq:q y with
     |true=>simp[cN,hp,hq];omega
     |false=>simp[cN,hp,hq];exact this
theorem BC{α β:Type}{step:α->β->α}{P:α->Prop}:∀(l:List β) (x:α),(∀x b,b∈l->P x->P (step x b))->P x->P (l.foldl step x)
 |[],_,_,p=>p
 |a::l,x,h,p=>BC l (step x a) (λ x b hb=>h x b (by simp[hb])) (h x a (by simp) p)
def on(m:List Int)(s:Nat):Prop:=m.getD s 0≠0
def U5(m m':List Int):Prop:=∀s,on m s->on m' s
structure uo(m:List Int)(n:Nat):Prop where
 len:m.length=n
 bit:∀s,m.getD s 0=0\/m.getD s 0=1
theorem uo.set{m:List Int}{n s:Nat}(B:uo m n):uo (m.set s 1) n:=
 ⟨by rw[cy];exact B.len,λ t=>by
  by_cases hs:s<m.length
  ·rw[kL hs];split
   ·exact .inr rfl
   ·exact B.bit t
  ·rw[gK (by omega)];exact B.bit t⟩
theorem uo.ext{m m':List Int}{n:Nat}(B:uo m n)(B':uo m' n)(h:U5 m m')(k:U5 m' m):m=m':=by
 refine fO (by rw[B.len,B'.len]) λ s h1 h2=>?_
 have e1:m.getD s 0=m[s]:=by rw[aa,af h1];rfl
 have e2:m'.getD s 0=m'[s]:=by rw[aa,af h2];rfl
 rw[<-e1,<-e2]
 have a:=h s
 have b:=k s
 unfold on at a b
 have c:=B.bit s
 have c':=B'.bit s
 omega
theorem PY{m:List Int}{s:Nat}:U5 m (m.set s 1):=λ t h=>by
 unfold on at h ⊢
 by_cases hs:s<m.length
 ·rw[kL hs];split
  ·decide
  ·exact h
 ·rw[gK (by omega)];exact h
def cnt(n:Nat)(m:List Int):Nat:=((ay n).filter λ s=>decide (m.getD s 0≠0)).length
theorem Sx(n:Nat)(m:List Int):cnt n m<=n:=by
 have:=ig (λ s=>decide (m.getD s 0≠0)) (ay n)
 rw[cH] at this;exact this
theorem Sy{n:Nat}{m m':List Int}(B:uo m n)(B':uo m' n)(h:U5 m m')(ne:m'≠m):cnt n m<cnt n m':=by
 refine (xr (ay n) λ x _ hx=>?_).2 ?_
 ·exact decide_eq_true (p:=m'.getD x 0≠0) (h x (of_decide_eq_true (p:=m.getD x 0≠0) hx))
 ·apply aH
  intro no;refine ne (uo.ext B' B (λ s hs=>?_) h);apply aH
  intro q;have hn:s<n:=by
   rw[<-B'.len];apply aH
   intro z;unfold on at hs;rw[aa,bO (by omega)] at hs;exact hs rfl
  exact no ⟨s,aG.mpr hn,decide_eq_true (p:=m'.getD s 0≠0) hs,decide_eq_false (p:=m.getD s 0≠0) q⟩
def rG(o:kU)(m:List Int):Bool:=o.ways.any λ w=>decide (m.getD w.1 0≠0)
theorem DO{o:kU}{m:List Int}:rG o m=true↔∃w∈o.ways,on m w.1:=by
 unfold rG on
 simp
section
variable{iZ:List (List kU)}{n:Nat}
end
section
variable{N:Net}{g:Nat}
end
def oK(n:Nat)(b:Nat->Bool)(iZ:List (List kU)):List (List kU):=(ay n).map λ s=>if b s=true then iZ.getD s [] else []
theorem F8{n:Nat}{b:Nat->Bool}{iZ:List (List kU)}{s:Nat}(h:s<n):(oK n b iZ).getD s []=if b s=true then iZ.getD s [] else []:=by
 simp[oK,aa,aj,aO h]
theorem EK{N:Net}{g s:Nat}{m:Int}(h:s<N.length):(rF N g m).getD s []=if isGoal g s=true then [] else (choicesOf N s).map (lX m):=by
 simp[rF,aa,aj,aO h]
theorem F9(r:nL)(s:Nat):r.lhs s (λ _=>0)=0:=by
 have:∀ws:List (Nat×Rat),wd ws (λ _=>0)=0:=λ ws=>by
  induction ws with
  |nil=>rfl
  |cons w ws ih=>simp only[wd];rw[ih];grind
 simp only[nL.lhs];rw[this];grind
theorem PZ{N:Net}(G:Good N){s:Nat}{c:Choice}(hc:c∈choicesOf N s){m:Int}{V:Nat->Rat}(h:Cg (lX m c) V<=((lX m c).tot:Rat)*V s):((c.gain*m:Int):Rat)<=(m9 0 c).lhs s V:=by
 obtain⟨a,b,d⟩:=DM (ny G hc).1 m 0 s V
 have h2:(qA (lX m c)).rhs<=(qA (lX m c)).lhs s V:=by
  unfold Cg at h;have t1:(qA (lX m c)).tot=((lX m c).tot:Rat):=rfl;have t2:(qA (lX m c)).ways=oj (lX m c).ways:=rfl;simp only[nL.lhs]
  rw[t1,t2];exact KU h
 rw[a,b] at h2
 exact bC h2 d
section
variable{N:Net}{g:Nat}
end
theorem BD{α β:Type}{step:α->β->α}{P:α->Prop}{le:α->α->Prop}(tr:∀x y z,le x y->le y z->le x z)(rf:∀x,le x x)(anti:∀x y,le x y->le y x->y=x):∀(l:List β) (x:α),(∀x b,b∈l->P x->P (step x b)/\le x (step x b))->P x ->
  P (l.foldl step x)/\le x (l.foldl step x)/\(l.foldl step x=x->∀b∈l,step x b=x)
 |[],x,_,p=>⟨p,rf x,λ _ b hb=>by cases hb⟩
 |a::l,x,h,p=>by
  obtain⟨p1,l1⟩:=h x a (by simp) p;obtain⟨p2,l2,fx⟩:=BD tr rf anti l (step x a) (λ x b hb=>h x b (by simp[hb])) p1;refine⟨p2,tr _ _ _ l1 l2,λ e b hb=>?_⟩;have e:l.foldl step (step x a)=x:=e;rw[e] at l2;have ea:=anti _ _ l1 l2
  rcases aB.mp hb with rfl | hb
  ·exact ea
  ·rw[ea] at e fx;exact fx e b hb
abbrev GL:=List Int×List Int
def kQ(os:List kU)(s:Nat)(x:GL)(j:Nat):GL:=if x.1.getD s 0=0/\rG (os.getD j jz) x.1=true then (x.1.set s 1,x.2.set s (j:Int)) else x
def mL(iZ:List (List kU))(x:GL)(s:Nat):GL:=(ay (iZ.getD s []).length).foldl (kQ (iZ.getD s []) s) x
def mE(iZ:List (List kU))(n:Nat)(x:GL):GL:=(ay n).foldl (mL iZ) x
def minus(n:Nat):List Int:=(ay n).map λ _=>-1
def zj(iZ:List (List kU))(m:List Int)(n:Nat):GL:=iter (mE iZ n) n (m,minus n)
structure nT(iZ:List (List kU))(m:List Int)(n:Nat)(x:GL):Prop where
 bits:uo x.1 n
 len:x.2.length=n
 old:U5 m x.1
 from_:∀s,on x.1 s->on m s\/0<=x.2.getD s 0
 at_:∀s,s<n->0<=x.2.getD s 0->(x.2.getD s 0).toNat<(iZ.getD s []).length/\on x.1 s/\¬on m s
 well:∀C:Nat->Prop,(∃s,C s)->(∀s,C s->s<n/\0<=x.2.getD s 0)->∃s,C s/\∃w∈((iZ.getD s []).getD (x.2.getD s 0).toNat jz).ways,¬C w.1/\on x.1 w.1
def P0(n:Nat)(x y:GL):Prop:=cnt n x.1<=cnt n y.1/\(cnt n x.1=cnt n y.1->y=x)
theorem BE(n:Nat)(x:GL):P0 n x x:=⟨aq _,λ _=>rfl⟩
theorem DP(n:Nat)(x y z:GL)(h:P0 n x y)(k:P0 n y z):P0 n x z:=⟨bf h.1 k.1,λ e=>by
 have h1:=h.1;have k1:=k.1
 have a:=h.2 (by omega)
 have b:=k.2 (by omega)
 rw[b,a]⟩
theorem Ga(n:Nat)(x y:GL)(h:P0 n x y)(k:P0 n y x):y=x:=h.2 (Nat.le_antisymm h.1 k.1)
theorem Gb(n s:Nat):(minus n).getD s 0=if s<n then -1 else 0:=by
 unfold minus
 rw[aa,aj]
 by_cases h:s<n
 ·rw[aO h,if_pos h];rfl
 ·rw[bO (by simpa using h),if_neg h];rfl
section
variable{iZ:List (List kU)}{m:List Int}{n:Nat}
theorem BF(B:uo m n):nT iZ m n (m,minus n) where
 bits:=B
 len:=by simp[minus]
 old:=λ _ h=>h
 from_:=λ _ h=>.inl h
 at_:=λ s hs h=>by
  have h:0<=(minus n).getD s 0:=h;rw[Gb,if_pos hs] at h;exact absurd h (by decide)
 well:=λ C hne hC=>by
  obtain⟨s,hs⟩:=hne;obtain⟨a,b⟩:=hC s hs;have b:0<=(minus n).getD s 0:=b;rw[Gb,if_pos a] at b;exact absurd b (by decide)
theorem Gd{x:GL}{s j:Nat}(T:nT iZ m n x)(hs:s<n)(hj:j<(iZ.getD s []).length):nT iZ m n (kQ (iZ.getD s []) s x j)/\P0 n x (kQ (iZ.getD s []) s x j):=by
 unfold kQ
 split
 ·rename_i c
  obtain⟨c0,cl⟩:=c;have l1:s<x.1.length:=by rw[T.bits.len];exact hs
  have l2:s<x.2.length:=by rw[T.len];exact hs
  have g2:∀t,(x.2.set s (j:Int)).getD t 0=if t=s then (j:Int) else x.2.getD t 0:=λ t=>kL l2
  have o1:∀t,on (x.1.set s 1) t↔(t=s\/on x.1 t):=λ t=>by
   unfold on;rw[kL l1]
   split
   ·rename_i e
    exact⟨λ _=>.inl e,λ _=>by decide⟩
   ·rename_i e
    exact⟨.inr,λ z=>z.resolve_left e⟩
  have nm:¬on m s:=λ z=>T.old s z c0
  obtain⟨w,hw,wo⟩:=DO.mp cl;refine⟨⟨T.bits.set,by rw[cy];exact T.len,λ t h=>(o1 t).mpr (.inr (T.old t h)),λ t h=>?_,λ t ht h=>?_,λ C hne hC=>?_⟩,?_⟩
  ·show on m t\/0<=(x.2.set s (j:Int)).getD t 0;rw[g2]
   rcases (o1 t).mp h with rfl | q
   ·rw[if_pos rfl];exact .inr (by omega)
   ·split
    ·exact .inr (by omega)
    ·exact T.from_ t q
  ·have h:0<=(x.2.set s (j:Int)).getD t 0:=h;show ((x.2.set s (j:Int)).getD t 0).toNat<_/\on (x.1.set s 1) t/\¬on m t;rw[g2] at h ⊢
   split
   ·rename_i e
    subst e;exact⟨by simpa using hj,(o1 t).mpr (.inl rfl),nm⟩
   ·rename_i e
    rw[if_neg e] at h;obtain⟨a,b,d⟩:=T.at_ t ht h;exact⟨a,(o1 t).mpr (.inr b),d⟩
  ·have ge:∀t,t≠s->(x.2.set s (j:Int)).getD t 0=x.2.getD t 0:=λ t e=>by rw[g2,if_neg e]
   by_cases q:∃t,C t/\t≠s
   ·obtain⟨t,⟨ct,es⟩,w',uh,n',o'⟩:=T.well (λ t=>C t/\t≠s) q λ t ht=>by
     obtain⟨a,b⟩:=hC t ht.1;have b:0<=(x.2.set s (j:Int)).getD t 0:=b;rw[ge t ht.2] at b;exact⟨a,b⟩
    refine⟨t,ct,w',?_,λ z=>n' ⟨z,λ e=>?_⟩,(o1 _).mpr (.inr o')⟩
    ·show w'∈((iZ.getD t []).getD ((x.2.set s (j:Int)).getD t 0).toNat jz).ways;rw[ge t es];exact uh
    ·rw[e] at o';exact o' c0
   ·obtain⟨t,ct⟩:=hne;have e:t=s:=by
     apply aH
     intro z;exact q ⟨t,ct,z⟩
    subst e;refine⟨t,ct,w,?_,λ z=>?_,(o1 _).mpr (.inr wo)⟩
    ·show w∈((iZ.getD t []).getD ((x.2.set t (j:Int)).getD t 0).toNat jz).ways;rw[g2,if_pos rfl];exact hw
    ·apply q
     refine⟨w.1,z,λ e=>?_⟩;rw[e] at wo;exact wo c0
  ·have lt:cnt n x.1<cnt n (x.1.set s 1):=Sy T.bits T.bits.set PY λ e=>by
    have:on (x.1.set s 1) s:=(o1 s).mpr (.inl rfl);rw[e] at this;exact this c0
   exact⟨aY lt,λ e=>absurd e (by have:cnt n x.1<cnt n (x.1.set s 1):=lt;show cnt n x.1≠cnt n (x.1.set s 1);omega)⟩
 ·exact⟨T,BE n x⟩
theorem vF{x:GL}{s:Nat}(T:nT iZ m n x)(hs:s<n):nT iZ m n (mL iZ x s)/\P0 n x (mL iZ x s)/\(mL iZ x s=x->∀j∈ay (iZ.getD s []).length,kQ (iZ.getD s []) s x j=x):=
 BD (P:=nT iZ m n) (DP n) (BE n) (Ga n) _ x (λ _ _ hj T=>Gd T hs (aG.mp hj)) T
theorem vf{x:GL}(T:nT iZ m n x):nT iZ m n (mE iZ n x)/\P0 n x (mE iZ n x)/\(mE iZ n x=x->∀s∈ay n,mL iZ x s=x):=
 BD (P:=nT iZ m n) (DP n) (BE n) (Ga n) _ x (λ _ _ hj T=>⟨(vF T (aG.mp hj)).1,(vF T (aG.mp hj)).2.1⟩) T
theorem Nv(B:uo m n):nT iZ m n (zj iZ m n):=oJ (P:=nT iZ m n) (λ _ T=>(vf T).1) n _ (BF B)
theorem Ny(B:uo m n):mE iZ n (zj iZ m n)=zj iZ m n:=
 zh (mE iZ n) (λ x=>cnt n x.1) n (nT iZ m n) (λ _ T=>(vf T).1) (λ x _=>Sx n x.1) (λ x T ne=>by
  obtain⟨_,l,_⟩:=vf T;have:=l.1
  by_cases e:cnt n x.1=cnt n (mE iZ n x).1
  ·exact absurd (l.2 e) ne
  ·omega) n _ (BF B) (by omega)
theorem P1(B:uo m n){s:Nat}(hs:s<n)(h:¬on (zj iZ m n).1 s):∀o∈iZ.getD s [],rG o (zj iZ m n).1=false:=λ o ho=>by
 cases e:rG o (zj iZ m n).1 with
 |false=>rfl
 |true=>
  exfalso
  have T:=Nv (iZ:=iZ) B;have r1:=(vf T).2.2 (Ny B) s (aG.mpr hs);obtain⟨j,hj,ej⟩:=bN ho;have r2:=(vF T hs).2.2 r1 j (aG.mpr hj);have go:(iZ.getD s []).getD j jz=o:=by rw[aa,af hj,ej];rfl
  have z:(zj iZ m n).1.getD s 0=0:=by
   apply aH
   intro q;exact h q
  unfold kQ at r2;rw[if_pos ⟨z,by rw[go];exact e⟩] at r2;have e1:=congrArg Prod.fst r2;have e1:(zj iZ m n).1.set s 1=(zj iZ m n).1:=e1;have:((zj iZ m n).1.set s 1).getD s 0=1:=by rw[kL (by rw[T.bits.len];exact hs),if_pos rfl]
  rw[e1,z] at this;exact absurd this (by decide)
end
section
variable{N:Net}{g:Nat}
def U6(next:Nat->List Nat)(n:Nat)(l:List Nat):List Nat:=(ay n).filter λ s=>l.contains s||(next s).any λ t=>l.contains t
theorem tX(next:Nat->List Nat)(n:Nat):∀(k:Nat) (l:List Nat),comes next k n l=iter (U6 next n) k l
 |0,_=>rfl
 |k+1,l=>tX next n k (U6 next n l)
theorem DQ{n:Nat}(f:Nat->Bool):(ay n).filter f=(ay n).filter λ s=>((ay n).filter f).contains s:=by
 refine List.filter_congr λ x hx=>?_
 cases e:f x with
 |true=>exact (by simp[e,aG.mp hx]:_=true).symm
 |false=>exact (by simp[e]:_=false).symm
theorem HE(next:Nat->List Nat)(n:Nat)(f:Nat->Bool):U6 next n (comes next n n ((ay n).filter f))=comes next n n ((ay n).filter f):=by
 rw[tX]
 refine zh (U6 next n) dU n (λ l=>l=(ay n).filter λ s=>l.contains s) (λ l _=>DQ _) (λ l h=>?_) (λ l h ne=>?_) n _ (DQ f) (by omega)
 ·rw[h]
  have:=ig (λ s=>l.contains s) (ay n);rw[cH] at this;exact this
 ·have e:=xr (p:=λ s=>l.contains s) (q:=λ s=>l.contains s||(next s).any λ t=>l.contains t) (ay n) λ x _ hx=>by rw[hx];rfl
  have lt:=e.2 ?_
  ·rw[<-h] at lt;exact lt
  ·apply aH
   intro no;refine ne ?_;have:(ay n).filter (λ s=>l.contains s||(next s).any λ t=>l.contains t)=(ay n).filter λ s=>l.contains s:=List.filter_congr λ x hx=>by
    cases q:l.contains x||(next x).any λ t=>l.contains t with
    |false=>exact (Bool.or_eq_false_iff.mp q).1.symm
    |true=>
     cases p:l.contains x with
     |true=>rfl
     |false=>exact absurd ⟨x,hx,q,p⟩ no
   exact this.trans h.symm
def BG(N:Net)(g:Nat)(l:Plan)(s:Nat):List Nat:=if isGoal g s=true then [] else ((chosen N l s).map λ c=>c.ways.map λ w=>w.1).getD []
def nZ(N:Net)(g:Nat)(l:Plan):List Nat:=comes (BG N g l) N.length N.length (goals N g)
theorem Nz{l:Plan}:U6 (BG N g l) N.length (nZ N g l)=nZ N g l:=HE _ _ _
theorem Ge{l:Plan}{s:Nat}(hs:s<N.length)(h:isGoal g s=true):s∈nZ N g l:=by
 unfold nZ
 rw[tX]
 refine oJ (P:=λ l=>s∈l) (λ l hl=>bM.mpr ⟨aG.mpr hs,?_⟩) _ _ (bM.mpr ⟨aG.mpr hs,h⟩)
 rw[show l.contains s=true by simpa using hl];rfl
theorem BH{l:Plan}{s t:Nat}(hs:s<N.length)(h:t∈BG N g l s)(k:t∈nZ N g l):s∈nZ N g l:=by
 rw[<-Nz]
 refine bM.mpr ⟨aG.mpr hs,iI.mpr (.inr (gP.mpr ⟨t,h,by simpa using k⟩))⟩
theorem DR{l:Plan}{C:Nat->Prop}(h0:∀s,s<N.length->isGoal g s=true->C s)(h1:∀s,s<N.length->∀t∈BG N g l s,C t->C s):∀s∈nZ N g l,C s:=by
 unfold nZ
 rw[tX]
 refine oJ (P:=λ l=>∀s∈l,C s) (λ l hl s hs=>?_) _ _ λ s hs=>h0 s (aG.mp (bM.mp hs).1) (bM.mp hs).2
 obtain⟨a,b⟩:=bM.mp hs
 rcases iI.mp b with q | q
 ·exact hl s (by simpa using q)
 ·obtain⟨t,ht,q⟩:=gP.mp q
  exact h1 s (aG.mp a) t ht (hl t (by simpa using q))
theorem vg{l:Plan}{s:Nat}{c:Choice}(hg:isGoal g s=false)(e:(choicesOf N s)[l.getD s 0]? = some c):BG N g l s=c.ways.map λ w=>w.1:=by
 unfold BG chosen
 rw[if_neg (by rw[hg];simp),e];rfl
def fC(N:Net)(g:Nat)(l:Plan)(s:Nat):Fr×List (Nat×Fr):=if isGoal g s=true then (one_,[]) else if (nZ N g l).contains s=false then (none_,[]) else (none_,((chosen N l s).map Choice.parts).getD [])
def Ow(N:Net)(g:Nat)(l:Plan)(v:Row):Plan:=changed N l (isGoal g) (λ _=>true) λ s c=>(at_ v s).less (c.behind v)
def ph(N:Net)(g:Nat)(l:Plan)(s:Nat):nL:=if isGoal g s=true then ⟨1,[],1⟩ else if (nZ N g l).contains s=false then ⟨1,[],0⟩ else match (choicesOf N s)[l.getD s 0]? with
 |some c=>m9 0 c
 |none=>⟨1,[],0⟩
theorem Jh(l:Plan)(s:Nat):CI (fC N g l s)=ph N g l s:=by
 unfold fC ph chosen
 split
 ·show (⟨1,[],val one_⟩:nL)=_
  rw[val_one]
 ·split
  ·show (⟨1,[],val none_⟩:nL)=_;rw[sQ]
  ·cases (choicesOf N s)[l.getD s 0]? with
   |none=>
    show (⟨1,[],val none_⟩:nL)=_;rw[sQ]
   |some c=>
    show (⟨1,c.parts.map λ y=>(y.1,val y.2),val none_⟩:nL)=_;rw[sQ];rfl
theorem p5{l:Plan}{s:Nat}(h:isGoal g s=true):ph N g l s=⟨1,[],1⟩:=by unfold ph;rw[if_pos h]
theorem vh{l:Plan}{s:Nat}(hg:isGoal g s=false)(h:s ∉ nZ N g l):ph N g l s=⟨1,[],0⟩:=by
 unfold ph
 rw[if_neg (by rw[hg];simp),if_pos (by simpa using h)]
theorem vG{l:Plan}{s:Nat}(hg:isGoal g s=false)(h:s∈nZ N g l){c:Choice}(e:(choicesOf N s)[l.getD s 0]? = some c):ph N g l s=m9 0 c:=by
 unfold ph
 rw[if_neg (by rw[hg];simp),if_neg (by simpa using h),e]
theorem sR{l:Plan}{s:Nat}(hg:isGoal g s=false):ph N g l s=⟨1,[],0⟩\/(s∈nZ N g l/\∃c∈choicesOf N s,(choicesOf N s)[l.getD s 0]? = some c/\ph N g l s=m9 0 c):=by
 by_cases h:s∈nZ N g l
 ·cases e:(choicesOf N s)[l.getD s 0]? with
  |none=>
   left
   unfold ph;rw[if_neg (by rw[hg];simp),if_neg (by simpa using h),e]
  |some c=>exact .inr ⟨h,c,au e,rfl,vG hg h e⟩
 ·exact .inl (vh hg h)
theorem vH(G:Good N)(l:Plan):HB (ph N g l) N.length 16000:=Jg λ s hs=>by
 cases hg:isGoal g s with
 |true=>rw[p5 hg];exact EJ N _
 |false=>
  rcases sR (N:=N) (l:=l) hg with e | ⟨_,c,hc,_,e⟩
  ·rw[e];exact EJ N _
  ·rw[e];exact BB G hc 0
theorem zk{l:Plan}{s:Nat}(ne:(ph N g l s).ways≠[]):isGoal g s=false/\s∈nZ N g l/\∃c∈choicesOf N s,(choicesOf N s)[l.getD s 0]? = some c/\ph N g l s=m9 0 c:=by
 have hg:isGoal g s=false:=by
  cases e:isGoal g s with
  |false=>rfl
  |true=>rw[p5 e] at ne;exact absurd rfl ne
 rcases sR (N:=N) (l:=l) hg with e | h
 ·rw[e] at ne;exact absurd rfl ne
 ·exact⟨hg,h⟩
theorem pA(l:Plan):ve (ph N g l) N.length:=by
 intro C hne hC
 apply aH
 intro no
 have out:∀s∈nZ N g l,¬C s:=DR (λ s hs hg cs=>by rw[(zk (hC s cs).2).1] at hg;cases hg) λ s hs t ht nt cs=>by
  obtain⟨hg,_,c,hc,e,er⟩:=zk (hC s cs).2;rw[vg hg e] at ht;obtain⟨w,hw,rfl⟩:=az.mp ht;obtain⟨w',uh,e'⟩:=yr (r:=0) hw;exact no ⟨s,cs,w',by rw[er];exact uh,by rw[e'];exact nt⟩
 obtain⟨s,hs⟩:=hne
 exact out s (zk (hC s hs).2).2.1 hs
def xC(N:Net)(g:Nat)(l:Plan)(s:Nat):Rat:=val (at_ (chances N g l) s)
theorem nJ(G:Good N)(l:Plan):(chances N g l).length=N.length/\(∀s,s<N.length->CH (at_ (chances N g l) s))/\∀s,s<N.length->(ph N g l s).lhs s (xC N g l)=(ph N g l s).rhs:=by
 obtain⟨u,K⟩:=(pA (N:=N) (g:=g) l).keeps (vH G l)
 obtain⟨a,b,c⟩:=F5 (f:=fC N g l) (λ s hs=>by
  unfold fC
  split
  ·exact⟨Je,λ y hy=>by cases hy⟩
  ·split
   ·exact⟨sP,λ y hy=>by cases hy⟩
   ·refine⟨sP,λ y hy=>?_⟩;unfold chosen at hy
    cases e:(choicesOf N s)[l.getD s 0]? with
    |none=>rw[e] at hy;cases hy
    |some c=>rw[e] at hy;exact (DL (ny G (au e)).1 y hy).pos) (u:=u) (by
   have:(λ s=>CI (fC N g l s))=ph N g l:=funext λ s=>Jh l s
   rw[this];exact K)
 refine⟨a,b,λ s hs=>?_⟩
 have:=c s hs
 rw[Jh] at this
 exact this
theorem Ji(G:Good N){l:Plan}{s:Nat}(hs:s<N.length)(hg:isGoal g s=true):xC N g l s=1:=by
 have:=(nJ (g:=g) G l).2.2 s hs
 rw[p5 hg] at this
 have h2:1*xC N g l s-0=1:=this
 grind
theorem EL(G:Good N){l:Plan}{s:Nat}(hs:s<N.length)(e:ph N g l s=⟨1,[],0⟩):xC N g l s=0:=by
 have:=(nJ (g:=g) G l).2.2 s hs
 rw[e] at this
 have h2:1*xC N g l s-0=0:=this
 grind
theorem Q6(G:Good N)(l:Plan):∀s,s<N.length->0<=xC N g l s:=by
 obtain⟨u,K⟩:=(pA (N:=N) (g:=g) l).keeps (vH G l)
 refine K.le (x:=λ _=>0) λ s hs=>?_
 rw[(nJ G l).2.2 s hs,F9]
 cases hg:isGoal g s with
 |true=>rw[p5 hg];show (0:Rat)<=1;decide
 |false=>
  rcases sR (N:=N) (l:=l) hg with e | ⟨_,c,hc,_,e⟩
  ·rw[e];exact bK
  ·rw[e];exact bK
theorem HF{M:Rat}{x:Nat->Rat}:∀{ws:List (Nat×Rat)},(∀w∈ws,x w.1=M)->wd ws x=wd ws (λ _=>1)*M
 |[],_=>by simp only[wd];grind
 |w::ws,h=>by
  have i:=HF (x:=x) (ws:=ws) λ y hy=>h y (by simp[hy])
  have:=h w (by simp);simp only[wd];rw[i,this];grind
theorem NB(G:Good N){s:Nat}{c:Choice}(hc:c∈choicesOf N s)(r:Rat):wd (m9 r c).ways (λ _=>1)=1:=EH (ny G hc).1
theorem BI(G:Good N){l:Plan}{s:Nat}(hs:s<N.length)(hg:isGoal g s=false){c:Choice}(e:(choicesOf N s)[l.getD s 0]? = some c):(m9 0 c).lhs s (xC N g l)=0:=by
 by_cases h:s∈nZ N g l
 ·have:=(nJ (g:=g) G l).2.2 s hs
  rw[vG hg h e] at this;exact this
 ·have hc:=au e
  have z:=EL (g:=g) G hs (vh hg h);have a:wd (m9 0 c).ways (xC N g l)=wd (m9 0 c).ways (λ _=>1)*0:=HF λ w hw=>by
   obtain⟨w',uh,ew⟩:=yq hw;rw[ew];have lt:=(ny G hc).2.1 w' uh;have no:w'.1 ∉ nZ N g l:=λ q=>h (BH hs (by rw[vg hg e];exact az.mpr ⟨w',uh,rfl⟩) q)
   have ng:isGoal g w'.1=false:=by
    cases q:isGoal g w'.1 with
    |false=>rfl
    |true=>exact absurd (Ge lt q) no
   exact EL G lt (vh ng no)
  show 1*xC N g l s-wd (m9 0 c).ways (xC N g l)=0;rw[a,z];grind
theorem NC(G:Good N){l:Plan}{s:Nat}(hs:s<N.length){c:Choice}(hc:c∈choicesOf N s):(at_ (chances N g l) s).less (c.behind (chances N g l))=decide ((m9 0 c).lhs s (xC N g l)<0):=by
 obtain⟨_,b,_⟩:=nJ (g:=g) G l
 obtain⟨p,e⟩:=KZ G b hc
 rw[Np (b s hs).pos p,e]
 refine decide_eq_decide.mpr ?_
 show xC N g l s<wd (m9 0 c).ways (xC N g l)↔1*xC N g l s-wd (m9 0 c).ways (xC N g l)<0
 constructor<;>intro h<;>grind
theorem BJ(G:Good N){l:Plan}{s:Nat}(hs:s<N.length)(hg:isGoal g s=false) :
  ((Ow N g l (chances N g l)).getD s 0=l.getD s 0/\∀c∈choicesOf N s,0<=(m9 0 c).lhs s (xC N g l)) \/
  ((Ow N g l (chances N g l)).getD s 0≠l.getD s 0/\∃c∈choicesOf N s,(choicesOf N s)[(Ow N g l (chances N g l)).getD s 0]? = some c/\(m9 0 c).lhs s (xC N g l)<0):=by
 rcases xq (l:=l) (stay:=isGoal g) (ok:=λ _=>true) (better:=λ s c=>(at_ (chances N g l) s).less (c.behind (chances N g l))) hs with ⟨st,e⟩ | ⟨st,⟨e,no⟩ | ⟨c,e,yes⟩⟩
 ·rw[hg] at st;cases st
 ·refine .inl ⟨e,λ c hc=>?_⟩
  have:=no c hc;rw[bZ,NC G hs hc,decide_eq_false_iff_not] at this;grind
 ·have e:(choicesOf N s)[(Ow N g l (chances N g l)).getD s 0]? = some c:=e
  have hc:=au e;rw[bZ,NC G hs hc,decide_eq_true_eq] at yes;refine .inr ⟨λ z=>?_,c,hc,e,yes⟩;rw[z] at e;rw[BI G hs hg e] at yes;exact absurd yes (by grind)
theorem ND(G:Good N){l:Plan}(F:F7 N l){s:Nat}(hs:s<N.length)(h:s ∉ nZ N g (Ow N g l (chances N g l))):xC N g l s=0:=by
 generalize hl:Ow N g l (chances N g l)=l' at *
 apply aH
 intro nz
 obtain⟨m,hm,cm,most⟩:=xo (v:=xC N g l) N.length (λ t=>t ∉ nZ N g l') ⟨s,hs,h⟩
 have m0:0<xC N g l m:=by
  have a:=most s hs h;have b:=Q6 (g:=g) G l s hs;grind
 have key:∀t,(t<N.length/\t ∉ nZ N g l'/\xC N g l t=xC N g l m)->∃c∈choicesOf N t,(choicesOf N t)[l.getD t 0]? = some c/\ph N g l t=m9 0 c/\∀w∈c.ways,(w.1<N.length/\w.1 ∉ nZ N g l'/\xC N g l w.1=xC N g l m):=λ t ⟨tn,tc,te⟩=>by
  have tg:isGoal g t=false:=by
   cases q:isGoal g t with
   |false=>rfl
   |true=>exact absurd (Ge tn q) tc
  have row:∃c∈choicesOf N t,(choicesOf N t)[l.getD t 0]? = some c/\ph N g l t=m9 0 c:=by
   rcases sR (N:=N) (l:=l) tg with e | ⟨_,c,hc,e1,e2⟩
   ·have:=EL G tn e;rw[te] at this;exact absurd m0 (by rw[this];grind)
   ·exact⟨c,hc,e1,e2⟩
  have stay:∀c∈choicesOf N t,(choicesOf N t)[l'.getD t 0]? = some c->(m9 0 c).lhs t (xC N g l)<=0->(m9 0 c).lhs t (xC N g l)=0/\∀w∈c.ways,(w.1<N.length/\w.1 ∉ nZ N g l'/\xC N g l w.1=xC N g l m):=λ c hc e le=>by
   have W2:∀w∈c.ways,w.1<N.length/\w.1 ∉ nZ N g l':=λ w hw=>⟨(ny G hc).2.1 w hw,λ q=>tc (BH tn (by rw[vg tg e];exact az.mpr ⟨w,hw,rfl⟩) q)⟩
   obtain⟨b1,b2⟩:=EI (v:=xC N g l) (M:=xC N g l m) (ws:=(m9 0 c).ways) λ w hw=>by
    obtain⟨w',uh,ew⟩:=yq hw;obtain⟨i1,i2⟩:=W2 w' uh;exact⟨((BB G hc 0).way w hw).2.1,by rw[ew];exact most _ i1 i2⟩
   rw[NB G hc] at b1 b2;have le2:1*xC N g l t-wd (m9 0 c).ways (xC N g l)<=0:=le;have eq:wd (m9 0 c).ways (xC N g l)=1*xC N g l m:=by rw[te] at le2;grind
   refine⟨?_,λ w hw=>?_⟩
   ·show 1*xC N g l t-wd (m9 0 c).ways (xC N g l)=0;rw[eq,te];grind
   ·obtain⟨w',h1,h2⟩:=yr (r:=0) hw;have:=b2 eq w' h1;rw[h2] at this;exact⟨(W2 w hw).1,(W2 w hw).2,this⟩
  have ch:=BJ (g:=g) (l:=l) G tn tg;rw[hl] at ch;obtain⟨c,hc,e1,e2⟩:=row
  rcases ch with ⟨same,_⟩ | ⟨_,c',hc',e',lt⟩
  ·exact⟨c,hc,e1,e2,(stay c hc (by rw[same];exact e1) (by rw[BI G tn tg e1];exact bK)).2⟩
  ·have:=(stay c' hc' e' (bU lt)).1;rw[this] at lt;exact absurd lt (by grind)
 obtain⟨t,ct,w,hw,nw⟩:=pA (N:=N) (g:=g) l (λ t=>t<N.length/\t ∉ nZ N g l'/\xC N g l t=xC N g l m) ⟨m,hm,cm,rfl⟩ λ t ht=>by
  obtain⟨c,hc,_,e,_⟩:=key t ht;refine⟨ht.1,?_⟩;rw[e];intro z;obtain⟨w,hw⟩:=gz _ (Ah G hc);obtain⟨w',h1,_⟩:=yr (r:=0) hw;rw[z] at h1;cases h1
 obtain⟨c,hc,_,e,cl⟩:=key t ct
 rw[e] at hw
 obtain⟨w',uh,ew⟩:=yq hw
 rw[ew] at nw
 exact nw (cl w' uh)
theorem HG(G:Good N):∃l,F7 N l/\best N g=chances N g l/\Ow N g l (chances N g l)=l:=by
 refine HD G (chances N g) (Ow N g) (first N) (F7 N) (xC N g) (KY N) (λ _ h=>h) (λ l F=>F.change _ _ _) λ l F=>?_
 have ch:=λ s (hs:s<N.length) hg=>BJ (g:=g) (l:=l) (s:=s) G hs hg
 have oz:=λ s (hs:s<N.length) h=>ND (g:=g) (l:=l) (s:=s) G F hs h
 have st:∀s,s<N.length->isGoal g s=true->(Ow N g l (chances N g l)).getD s 0=l.getD s 0:=λ s hs hg=>by
  rcases xq (l:=l) (stay:=isGoal g) (ok:=λ _=>true) (better:=λ s c=>(at_ (chances N g l) s).less (c.behind (chances N g l))) hs with ⟨_,e⟩ | ⟨q,_⟩
  ·exact e
  ·rw[hg] at q;cases q
 generalize Ow N g l (chances N g l)=l' at *
 obtain⟨u,K⟩:=(pA (N:=N) (g:=g) l').keeps (vH G l')
 have rows:∀s,s<N.length->(ph N g l' s).lhs s (xC N g l)<=(ph N g l' s).rhs/\(l'.getD s 0≠l.getD s 0->isGoal g s=false->(ph N g l' s).lhs s (xC N g l)<(ph N g l' s).rhs):=λ s hs=>by
  cases hg:isGoal g s with
  |true=>
   refine⟨?_,λ _ z=>by cases z⟩;rw[p5 hg];show 1*xC N g l s-0<=1;rw[Ji G hs hg];grind
  |false=>
   by_cases hc':s∈nZ N g l'
   ·rcases ch s hs hg with ⟨same,_⟩ | ⟨_,c,hc,e,lt⟩
    ·refine⟨?_,λ z=>absurd same z⟩
     rcases sR (N:=N) (l:=l') hg with e | ⟨_,c,hc,e1,e2⟩
     ·-- no choice at all
      have none:(choicesOf N s)[l'.getD s 0]? = none:=by
       cases q:(choicesOf N s)[l'.getD s 0]? with
       |none=>rfl
       |some c=>
        exfalso
        rw[vG hg hc' q] at e;have e2:=congrArg nL.ways e;obtain⟨w,hw⟩:=gz _ (Ah G (au q));obtain⟨w',h1,_⟩:=yr (r:=0) hw;rw[e2] at h1;cases h1
      have z:xC N g l s=0:=EL G hs (by
       by_cases h:s∈nZ N g l
       ·unfold ph;rw[if_neg (by rw[hg];simp),if_neg (by simpa using h),<-same,none]
       ·exact vh hg h)
      rw[e];show 1*xC N g l s-0<=0;rw[z];grind
     ·rw[e2,BI G hs hg (by rw[<-same];exact e1)];exact bK
    ·rw[vG hg hc' e];exact⟨bU lt,λ _ _=>lt⟩
   ·have z:=oz s hs hc';refine⟨?_,λ ne _=>?_⟩
    ·rw[vh hg hc'];show 1*xC N g l s-0<=0;rw[z];grind
    ·exfalso
     rcases ch s hs hg with ⟨same,_⟩ | ⟨_,c,hc,e,lt⟩
     ·exact ne same
     ·have a:wd (m9 0 c).ways (xC N g l)=wd (m9 0 c).ways (λ _=>1)*0:=HF λ w hw=>by
       obtain⟨w',uh,ew⟩:=yq hw;rw[ew];exact oz _ ((ny G hc).2.1 w' uh) λ q=>hc' (BH hs (by rw[vg hg e];exact az.mpr ⟨w',uh,rfl⟩) q)
      have lt:1*xC N g l s-wd (m9 0 c).ways (xC N g l)<0:=lt;rw[a,z] at lt;exact absurd lt (by grind)
 obtain⟨g1,g2⟩:=K.better (x:=xC N g l) (nJ G l').2.2 λ s hs=>(rows s hs).1
 refine⟨g1,λ s hs z=>g2 s hs ((rows s hs).2 z ?_)⟩
 cases hg:isGoal g s with
 |false=>rfl
 |true=>exact absurd (st s hs hg) z
end
section
variable{N:Net}{g:Nat}
theorem qC{s:Nat}(h:s<N.length):(jy N g).getD s 0=if isGoal g s=true then 1 else 0:=by
 simp only[jy,aa,aj,aO h,bE,di]
theorem xu:uo (jy N g) N.length where
 len:=by simp[jy]
 bit:=λ s=>by
  by_cases h:s<N.length
  ·rw[qC h];split
   ·exact .inr rfl
   ·exact .inl rfl
  ·rw[aa,bO (by simpa [jy] using h)];exact .inl rfl
theorem yt{s:Nat}(h:s<N.length):on (jy N g) s↔isGoal g s=true:=by
 unfold on
 rw[qC h]
 split
 ·rename_i e;exact⟨λ _=>e,λ _=>by decide⟩
 ·rename_i e;exact⟨λ z=>absurd rfl z,λ z=>absurd z e⟩
def SA(N:Net)(g:Nat):GL:=zj (rF N g 0) (jy N g) N.length
def lO(N:Net)(g:Nat):List Int:=(SA N g).2
def jO(N:Net)(g:Nat):List (List kU):=oK N.length (λ s=>decide (0<=(lO N g).getD s 0)) (rF N g 0)
theorem DS:nT (rF N g 0) (jy N g) N.length (SA N g):=Nv xu
theorem vj{s:Nat}(h:s<N.length)(hp:0<=(lO N g).getD s 0):isGoal g s=false/\(jO N g).getD s []=(choicesOf N s).map (lX 0)/\(rF N g 0).getD s []=(choicesOf N s).map (lX 0):=by
 have hg:isGoal g s=false:=by
  cases e:isGoal g s with
  |false=>rfl
  |true=>exact absurd ((yt h).mpr e) (DS.at_ s h hp).2.2
 have ht:(rF N g 0).getD s []=(choicesOf N s).map (lX 0):=by rw[EK h,if_neg (by rw[hg];simp)]
 refine⟨hg,?_,ht⟩
 unfold jO
 rw[F8 h,if_pos (decide_eq_true hp),ht]
theorem oM{s:Nat}(h:s<N.length)(e:(jO N g).getD s []≠[]):isGoal g s=false/\0<=(lO N g).getD s 0/\(jO N g).getD s []=(choicesOf N s).map (lX 0):=by
 have hp:0<=(lO N g).getD s 0:=by
  apply aH
  intro q;unfold jO at e;rw[F8 h,if_neg (by rw[decide_eq_true_eq];exact q)] at e;exact e rfl
 exact⟨(vj h hp).1,hp,(vj h hp).2.1⟩
theorem DT{os:List kU}(h:os∈jO N g):∀o∈os,∃s,∃c∈choicesOf N s,o=lX 0 c:=λ o ho=>by
 obtain⟨s,hs,rfl⟩:=az.mp h
 split at ho
 ·rw[EK (aG.mp hs)] at ho
  split at ho
  ·cases ho
  ·obtain⟨c,hc,rfl⟩:=az.mp ho;exact⟨s,c,hc,rfl⟩
 ·cases ho
theorem nU(G:Good N):(∀os∈jO N g,∀o∈os,∀w∈o.ways,w.1<N.length)/\∀os∈jO N g,∀o∈os,0<o.tot:=by
 refine⟨λ os hos o ho w hw=>?_,λ os hos o ho=>?_⟩
 ·obtain⟨s,c,hc,rfl⟩:=DT hos o ho
  exact (ny G hc).2.1 w hw
 ·obtain⟨s,c,hc,rfl⟩:=DT hos o ho
  have:=(ny G hc).1;show (0:Int)<((c.weight:Nat):Int);omega
theorem HH{π:List Int}(F:Fits (jO N g) N.length π){s:Nat}(hs:s<N.length):((jO N g).getD s []=[]/\kM (jO N g) (jy N g) π s=⟨1,[],(((jy N g).getD s 0:Int):Rat)⟩)\/((jO N g).getD s []≠[]/\∃c∈choicesOf N s,kM (jO N g) (jy N g) π s=qA (lX 0 c)):=by
 unfold kM wJ
 by_cases h:((jO N g).getD s []).length=0
 ·exact .inl ⟨dh.mp h,by rw[if_pos h]⟩
 ·have ne:(jO N g).getD s []≠[]:=λ e=>h (by rw[e];rfl)
  refine .inr ⟨ne,?_⟩;have fit:=(F.at_ s hs h).2;have e:=(oM hs ne).2.2;rw[if_neg h];rw[e] at fit ⊢;rw[ah] at fit;refine⟨(choicesOf N s)[(π.getD s 0).toNat],aW fit,?_⟩;rw[aa,aj,af fit];rfl
theorem NE(G:Good N){π:List Int}(F:Fits (jO N g) N.length π):HB (kM (jO N g) (jy N g) π) N.length 16000:=Jg λ s hs=>by
 rcases HH F hs with ⟨_,e⟩ | ⟨_,c,hc,e⟩
 ·rw[e];exact EJ N _
 ·rw[e];exact PX G hc 0
theorem P4(c:Choice):(qA (lX 0 c)).rhs=0:=by
 show ((c.gain*0*((c.weight:Nat):Int):Int):Rat)=0
 rw[Int.mul_zero,Int.zero_mul];rfl
structure Gf(N:Net)(g:Nat)(π:List Int):Prop where
 fit:Fits (jO N g) N.length π
 no:∀s,s<N.length->((jO N g).getD s []).length=0->π.getD s 0=(lO N g).getD s 0
 prop:ve (kM (jO N g) (jy N g) π) N.length
theorem EM(G:Good N){π:List Int}(F:Gf N g π):∃u,Keeps (kM (jO N g) (jy N g) π) N.length u:=F.prop.keeps (NE G F.fit)
theorem BK:Gf N g (lO N g):=by
 have T:=DS (N:=N) (g:=g)
 have F:Fits (jO N g) N.length (lO N g):=⟨T.len,λ s hs h=>by
  obtain⟨hg,hp,e⟩:=oM hs (λ z=>h (by rw[z];rfl));refine⟨hp,?_⟩;have:=(T.at_ s hs hp).1;rw[(vj hs hp).2.2] at this;rw[e];exact this⟩
 refine⟨F,λ _ _ _=>rfl,λ C hne hC=>?_⟩
 have pl:∀s,C s->s<N.length/\0<=(lO N g).getD s 0:=λ s hs=>by
  obtain⟨hn,ne⟩:=hC s hs
  rcases HH F hn with ⟨_,e⟩ | ⟨q,_⟩
  ·rw[e] at ne;exact absurd rfl ne
  ·exact⟨hn,(oM hn q).2.1⟩
 obtain⟨s,cs,w,hw,nw,_⟩:=T.well C hne pl
 refine⟨s,cs,(w.1,(w.2:Rat)),?_,nw⟩
 obtain⟨hn,hp⟩:=pl s cs
 have lt:=(T.at_ s hn hp).1
 obtain⟨_,e1,e2⟩:=vj hn hp
 have hw:w∈(((rF N g 0).getD s []).getD ((lO N g).getD s 0).toNat jz).ways:=hw
 unfold kM wJ
 rw[e2] at hw lt
 rw[e1,if_neg (by omega)]
 exact az.mpr ⟨w,hw,rfl⟩
theorem DU(G:Good N){π:List Int}(F:Gf N g π):Gf N g (nextM (jO N g) (jy N g) N.length π):=by
 obtain⟨u,K⟩:=EM G F
 have F':=KO (ends:=jy N g) (nU G).2 F.fit
 refine⟨F',λ s hs h=>by rw[yo hs,if_pos h];exact F.no s hs h,F.prop.next (NE G F.fit) (NE G F') (v:=jV (ko (jO N g) (jy N g) N.length π)) (λ s hs ne=>?_) λ s hs ne=>?_⟩
 ·rw[(zf (nU G).1 F.fit K).2.2 s hs]
  rcases HH F.fit hs with ⟨_,e⟩ | ⟨_,c,_,e⟩
  ·rw[e] at ne;exact absurd rfl ne
  ·rw[e];exact P4 c
 ·by_cases q:(nextM (jO N g) (jy N g) N.length π).getD s 0 = π.getD s 0
  ·left
   unfold kM;rw[q]
  ·right
   have:=(zg (nU G).1 (nU G).2 F.fit K s hs).2 q
   rcases HH F' hs with ⟨_,e⟩ | ⟨_,c,_,e⟩
   ·rw[e] at ne;exact absurd rfl ne
   ·rw[show (kM (jO N g) (jy N g) (nextM (jO N g) (jy N g) N.length π) s).rhs=0 by rw[e];exact P4 c] at this;exact this
theorem Gg(G:Good N):∃k,nextM (jO N g) (jy N g) N.length (iter (nextM (jO N g) (jy N g) N.length) k (lO N g))=iter (nextM (jO N g) (jy N g) N.length) k (lO N g)/\Gf N g (iter (nextM (jO N g) (jy N g) N.length) k (lO N g)):=
 F4 (nU G).1 (nU G).2 (Gf N g) BK (λ _ F=>F.fit) (λ _ F=>F.no) (λ _ F=>EM G F) λ _ F=>DU G F
theorem NF(G:Good N){π:List Int}(F:Gf N g π)(e:nextM (jO N g) (jy N g) N.length π = π) :
  0<(ko (jO N g) (jy N g) N.length π).2/\(ko (jO N g) (jy N g) N.length π).1.length=N.length /\
  Nb (best N g) (ko (jO N g) (jy N g) N.length π).1 (ko (jO N g) (jy N g) N.length π).2:=by
 obtain⟨u,K⟩:=EM G F
 obtain⟨hb,hl,hv⟩:=zf (nU G).1 F.fit K
 have opt:=KP (nU (g:=g) G).1 (nU (g:=g) G).2 F.fit K e
 obtain⟨l,FS,es,fx⟩:=HG (g:=g) G
 obtain⟨sl,W3,sv⟩:=nJ (g:=g) G l
 obtain⟨uS,KS⟩:=(pA (N:=N) (g:=g) l).keeps (vH G l)
 rw[es]
 generalize hV:ko (jO N g) (jy N g) N.length π = V at *
 have better:∀s,s<N.length->(jO N g).getD s []≠[]->∀c∈choicesOf N s,0<=(m9 0 c).lhs s (jV V):=λ s hs ne c hc=>by
  have:=PZ G hc (opt s hs (lX 0 c) (by rw[(oM hs ne).2.2];exact az.mpr ⟨c,hc,rfl⟩));rw[Int.mul_zero] at this;exact this
 have U7:∀s,s<N.length->isGoal g s=true->jV V s=1:=λ s hs hg=>by
  rcases HH F.fit hs with ⟨_,e1⟩ | ⟨ne,_⟩
  ·have:=hv s hs;rw[e1,qC hs,if_pos hg] at this;have h2:1*jV V s-0=((1:Int):Rat):=this;rw[show ((1:Int):Rat)=1 from rfl] at h2;grind
  ·rw[(oM hs ne).1] at hg;cases hg
 have Vnn:∀s,s<N.length->0<=jV V s:=K.le (x:=λ _=>0) λ s hs=>by
  rw[hv s hs,F9]
  rcases HH F.fit hs with ⟨_,e1⟩ | ⟨_,c,hc,e1⟩
  ·rw[e1,qC hs]
   split
   ·show 0<=((1:Int):Rat);decide
   ·show 0<=((0:Int):Rat);decide
  ·rw[e1,P4];exact bK
 have rest:∀s,s<N.length->isGoal g s=false->∀c∈choicesOf N s,0<=(m9 0 c).lhs s (xC N g l):=λ s hs hg=>by
  rcases BJ (l:=l) G hs hg with ⟨_,q⟩ | ⟨q,_⟩
  ·exact q
  ·rw[fx] at q;exact absurd rfl q
 have ge:∀s,s<N.length->jV V s<=xC N g l s:=K.le λ s hs=>by
  rw[hv s hs]
  rcases HH F.fit hs with ⟨h0,e1⟩ | ⟨ne,c,hc,e1⟩
  ·rw[e1,qC hs]
   split
   ·rename_i hg
    have:=Ji (l:=l) G hs hg;show ((1:Int):Rat)<=1*xC N g l s-0;rw[show ((1:Int):Rat)=1 from rfl];grind
   ·have:=Q6 (g:=g) G l s hs;show ((0:Int):Rat)<=1*xC N g l s-0;rw[show ((0:Int):Rat)=0 from rfl];grind
  ·obtain⟨hg,_,_⟩:=oM hs ne;obtain⟨a,_,d⟩:=DM (ny G hc).1 0 0 s (xC N g l);rw[e1,P4,a];exact bh (bU d) (rest s hs hg c hc)
 have reach:∀s∈nZ N g l,on (SA N g).1 s:=DR (λ s hs hg=>DS.old s ((yt hs).mpr hg)) λ s hs t ht ot=>by
  apply aH
  intro no
  cases hg:isGoal g s with
  |true=>exact no (DS.old s ((yt hs).mpr hg))
  |false=>
   cases q:(choicesOf N s)[l.getD s 0]? with
   |none=>
    unfold BG chosen at ht;rw[if_neg (by rw[hg];simp),q] at ht
    cases ht
   |some c=>
    rw[vg hg q] at ht;obtain⟨w,hw,rfl⟩:=az.mp ht;have:=P1 (iZ:=rF N g 0) xu hs no (lX 0 c) (by rw[EK hs,if_neg (by rw[hg];simp)];exact az.mpr ⟨c,au q,rfl⟩);have yes:rG (lX 0 c) (zj (rF N g 0) (jy N g) N.length).1=true:=DO.mpr ⟨w,hw,ot⟩;rw[yes] at this
    cases this
 have le:∀s,s<N.length->xC N g l s<=jV V s:=KS.le λ s hs=>by
  rw[sv s hs]
  cases hg:isGoal g s with
  |true=>
   have:=U7 s hs hg;rw[p5 hg];show (1:Rat)<=1*jV V s-0;grind
  |false=>
   rcases sR (N:=N) (l:=l) hg with e1 | ⟨hc',c,hc,_,e1⟩
   ·have:=Vnn s hs;rw[e1];show (0:Rat)<=1*jV V s-0;grind
   ·rw[e1];refine better s hs ?_ c hc;have hp:0<=(lO N g).getD s 0:=(DS.from_ s (reach s hc')).resolve_left λ z=>by
     rw[(yt hs).mp z] at hg;cases hg
    rw[(vj hs hp).2.1];intro z;rw[f9.mp z] at hc
    cases hc
 refine⟨hb,hl,⟨by rw[sl,hl],λ s hs=>?_⟩⟩
 rw[hl] at hs
 refine Ss (W3 s hs).pos hb ?_
 have e1:=le s hs
 have e2:=ge s hs
 have e3:val (at_ (chances N g l) s)=jV V s:=by unfold xC at e1 e2;grind
 rw[e3];rfl
end
end La
end
noncomputable section
namespace Ck
open PySem PySem.Spec PyProof.Rows L2
def EW(l:Addr)(p:Int):List (Str×V):=mV "place" (.int p) (mV "text" (.ref l) [])
theorem yu(l:Addr)(p:Int):(EW l p).lookup ("text":Str)=some (.ref l):=by
 unfold EW;rw[jq,if_neg (by decide),jq,if_pos rfl]
theorem lz(l:Addr)(p:Int):(EW l p).lookup ("place":Str)=some (.int p):=by
 unfold EW;rw[jq,if_pos rfl]
theorem vm(l:Addr)(p:Int){m:Str}(h1:¬m = "place")(h2:¬m = "text"):(EW l p).lookup m=none:=by
 unfold EW;rw[jq,if_neg h1,jq,if_neg h2];rfl
theorem P5(l:Addr)(p q:Int):mV "place" (.int q) (EW l p)=EW l q:=rfl
def jL(bs:List Nat):List V:=bs.map λ(b:Nat)=>V.int (b:Int)
theorem jT(bs:List Nat):(jL bs).length=bs.length:=by unfold jL;rw[ah]
def pl(bs rest:List Nat):Int:=((bs.length-rest.length:Nat):Int)
structure yw(K:ai)(t:nF)(H:Hp)(r dx l:Addr)(bs rest:List Nat):Prop where
 ins:H r=some (.ins t.j7 dx (EW l (pl bs rest)))
 txt:jE K H l (jL bs)
 yx:rest <:+ bs
 len:bs.length<=65536
def kN(t:nF)(H:Hp)(r dx l:Addr)(bs rest:List Nat):Hp:=upd H r (.ins t.j7 dx (EW l (pl bs rest)))
def Kp(r:Addr)(H H':Hp):Prop:=∀b o,b≠r->H b=some o->H' b=some o
theorem Kp.refl(r:Addr)(H:Hp):Kp r H H:=λ _ _ _ e=>e
theorem Kp.trans{r:Addr}{H H1 H2:Hp}(a:Kp r H H1)(b:Kp r H1 H2):Kp r H H2:=λ c o h e=>b c o h (a c o h e)
theorem Kp.upd{r:Addr}{H:Hp}{o:HO}:Kp r H (upd H r o):=λ b u h e=>by rw[je h];exact e
theorem Kp.of{r:Addr}{H H':Hp}(s:jm H H'):Kp r H H':=λ b o _ e=>s b o e
theorem P6{K:ai}{H:Hp}{a r:Addr}{xs:List V}{o u:HO}(h:jE K H a xs)(e:H r=some u)(hu:∀ys ob,u≠.lst ys/\u≠.Lp ob (.lst ys)):jE K (upd H r o) a xs:=by
 rcases h with (h | ⟨ob,h⟩) | h
 ·exact .inl (.inl (by rw[je (λ z=>by rw[z,e] at h;cases h;exact (hu xs ⟨.none,none,.seq #[] 0,#[]⟩).1 rfl)];exact h))
 ·exact .inl (.inr ⟨ob,by rw[je (λ z=>by rw[z,e] at h;cases h;exact (hu xs ob).2 rfl)];exact h⟩)
 ·exact .inr h
theorem yw.put{K:ai}{t:nF}{H:Hp}{r dx l:Addr}{bs rest rest':List Nat}(R:yw K t H r dx l bs rest)(s:rest' <:+ bs):yw K t (kN t H r dx l bs rest') r dx l bs rest':=
 ⟨jb,P6 R.txt R.ins λ _ _=>⟨λ z=>(by cases z),λ z=>(by cases z)⟩,s,R.len⟩
theorem pB{t:nF}{H:Hp}{r dx l:Addr}{bs x y:List Nat}:kN t (kN t H r dx l bs x) r dx l bs y=kN t H r dx l bs y:=jU
theorem yw.same{K:ai}{t:nF}{H H':Hp}{r dx l:Addr}{bs rest:List Nat}(R:yw K t H r dx l bs rest)(s:jm H H'):yw K t H' r dx l bs rest:=⟨s _ _ R.ins,s.seq R.txt,R.yx,R.len⟩
theorem yw.self{K:ai}{t:nF}{H:Hp}{r dx l:Addr}{bs rest:List Nat}(R:yw K t H r dx l bs rest):kN t H r dx l bs rest=H:=by
 funext b
 unfold kN upd
 split
 ·rename_i e;rw[e];exact R.ins.symm
 ·rfl
theorem P7{bs rest:List Nat}(s:rest <:+ bs)(i:Nat):bs[bs.length-rest.length+i]? = rest[i]?:=by
 obtain⟨p,rfl⟩:=s
 rw[aE,Nat.add_sub_cancel,cP (by omega)]
 congr 1;omega
theorem NG{bs rest:List Nat}(s:rest <:+ bs):bs.drop (bs.length-rest.length)=rest:=by
 obtain⟨p,rfl⟩:=s
 rw[aE,Nat.add_sub_cancel,List.drop_left]
theorem P8{bs rest:List Nat}(s:rest <:+ bs){c:Nat}{r:List Nat}(e:rest=c::r):Fe (jL bs) (pl bs rest)=some (.int (c:Int)):=by
 refine sZ ?_
 unfold jL
 rw[aj]
 have:=P7 s 0
 rw[gX,e] at this
 rw[e,this];rfl
section
variable{P:Program}{w:World}{K:ai}{mg:Str->Option Value}{base:Heap}{t:nF}
def P9(K:ai)(t:nF):Sp:=λ vs H Q _=>∃r dx l bs rest,vs=[.ref r]/\yw K t H r dx l bs rest/\Q (.int (Rd.here rest:Nat)) H
theorem oR(T:Txt K mg t):Ok P w K mg base 1 t.wz t.uU ["self"] (P9 K t):=by
 refine T.kJ.fn.qD AV (λ vs H Q E h=>?_) λ cdv A outer s H vs Q E hr h=>?_
 ·obtain⟨r,dx,l,bs,rest,rfl,_⟩:=h;rfl
 ·obtain⟨r,dx,l,bs,rest,rfl,R,h⟩:=h
  refine⟨_,jc (rJ (lU LO (nA (pv 0) rfl) (jX jK (by rfl) T.qx nH (ja (nA (pv 0) rfl) jd)) (kC _))
   (jg (jB (lZ Im (nA (pv 0) rfl) (nA (pv 0) rfl) (λ _ _=>rfl)))) nc) (jg (jB (kh T.xg rfl))),?_⟩
  refine⟨_,rfl,r,_,dx,_,_,rfl,R.ins,T.jo.cl,T.jC,lz _ _,_,rfl,r,_,dx,_,_,rfl,R.ins,T.jo.cl,T.m6,yu _ _,l,_,rfl,.inl R.txt,_,_,rfl,rfl,_,rfl,?_⟩;rw[jT];have hl:=R.yx.length_le
  cases e:rest with
  |nil=>
   rw[e] at h;rw[show decide (pl bs []<(bs.length:Int))=false from decide_eq_false (by unfold pl;simp)];exact qS h
  |cons c q=>
   rw[show decide (pl bs (c::q)<(bs.length:Int))=true from decide_eq_true (by rw[e] at hl;simp at hl;unfold pl;simp;omega)];rw[e] at h;refine uA ⟨_,rfl,r,_,dx,_,_,rfl,R.ins,T.jo.cl,T.m6,yu _ _,_,rfl,r,_,dx,_,_,rfl,R.ins,T.jo.cl,T.jC,lz _ _,l,_,_,_,rfl,rfl,R.txt,P8 R.yx e,?_⟩;exact h
theorem sS{bs rest:List Nat}(s:rest <:+ bs):rest.tail <:+ bs:=(List.tail_suffix rest).trans s
theorem Qa{bs rest:List Nat}(s:rest <:+ bs)(h:rest≠[]):pl bs rest+1=pl bs rest.tail:=by
 have:=s.length_le
 have:0<rest.length:=List.length_pos_iff.mpr h
 unfold pl
 rw[List.length_tail]
 omega
theorem vn{t:nF}{H:Hp}{r dx l:Addr}{bs rest:List Nat}(s:rest <:+ bs)(h:rest≠[]) :
  upd H r (.ins t.j7 dx (mV "place" (.int (pl bs rest+1)) (EW l (pl bs rest))))=kN t H r dx l bs rest.tail:=by
 rw[P5,Qa s h];rfl
theorem BL:Rd.here []=256:=rfl
theorem sU(c:Nat)(r:List Nat):Rd.here (c::r)=c:=rfl
def Jj(K:ai)(t:nF)(f:List Nat->List Nat):Sp:=λ vs H Q _=>∃r dx l bs rest,vs=[.ref r]/\yw K t H r dx l bs rest/\(∀c∈bs,c<256)/\Q .pZ (kN t H r dx l bs (f rest))
theorem yz{i j:Nat}:decide (V.int (i:Int)=V.int (j:Int))=decide (i=j):=by
 rw[mq,aT,beq_iff_eq,decide_eq_true_eq];omega
theorem BN(T:Txt K mg t):Ok P w K mg base 2 t.oZ t.n8 ["self"] (Jj K t λ b=>b.dropWhile λ x=>x != 10):=by
 refine T.qw.fn.qD uq (λ vs H Q E h=>?_) λ cdv A outer s H vs Q E hr h=>?_
 ·obtain⟨r,dx,l,bs,rest,rfl,_⟩:=h;rfl
 ·obtain⟨r,dx,l,bs,rest,rfl,R,hb,h⟩:=h
  refine⟨_,jg (mU mW (PW.pt (LB (lU CY (lC T.jo T.kJ (oR T) hr jF (pv 0)) (kh T.Bd rfl) (kC _))
   (HZ (lU CY (lC T.jo T.kJ (oR T) hr jF (pv 0)) (kh T.xg rfl) (kC _))))) (jg (rL (pv 0) jv Aw))),?_⟩
  refine⟨λ m σ H'=>∃x,x <:+ bs/\(x.dropWhile λ y=>y != 10)=(rest.dropWhile λ y=>y != 10)/\m=x.length/\σ=[some (.ref r)]/\H'=kN t H r dx l bs x,⟨_,rest,R.yx,rfl,rfl,rfl,R.self.symm⟩,?_⟩;rintro m σ H' ⟨x,hx,ex,rfl,rfl,rfl⟩;have R':=R.put hx;have nh:(EW l (pl bs x)).lookup ("here":Str)=none:=vm _ _ (by decide) (by decide);refine⟨_,rfl,r,dx,_,rfl,R'.ins,nh,r,dx,l,bs,x,rfl,R',rfl,_,rfl,?_⟩
  cases x with
  |nil=>
   refine uA ⟨_,rfl,r,dx,_,rfl,R'.ins,nh,r,dx,l,bs,[],rfl,R',rfl,_,rfl,qS ?_⟩;have h:Q V.pZ (kN t H r dx l bs (rest.dropWhile λ y=>y != 10)):=h;rw[<-ex] at h;exact h
  |cons c q=>
   have hc:c<256:=hb c (hx.subset aP);rw[sU]
   by_cases U8:c=10
   ·subst U8;refine qS (qS ?_);have h:Q V.pZ (kN t H r dx l bs (rest.dropWhile λ y=>y != 10)):=h;rw[<-ex] at h;exact h
   ·have e1:(!decide (V.int ((c:Nat):Int)=V.int 10))=true:=by rw[show decide (V.int ((c:Nat):Int)=V.int 10)=decide (c=10) from yz,decide_eq_false U8];rfl
    have e2:(!decide (V.int ((c:Nat):Int)=V.int 256))=true:=by rw[show decide (V.int ((c:Nat):Int)=V.int 256)=decide (c=256) from yz,decide_eq_false (by omega)];rfl
    refine tW e1 ⟨_,rfl,r,dx,_,rfl,R'.ins,nh,r,dx,l,bs,c::q,rfl,R',rfl,_,rfl,tW e2 ?_⟩;refine⟨λ σ H'=>σ=[some (.ref r)]/\H'=kN t H r dx l bs q,?_,?_⟩
    ·rintro σ' H' ⟨rfl,rfl⟩;exact⟨q.length,aD _,q,sS hx,by rw[<-ex,bH (by simpa using U8)],rfl,rfl,rfl⟩
    ·refine⟨_,rfl,r,_,dx,_,_,rfl,R'.ins,T.jo.cl,T.jC,lz _ _,_,_,rfl,rfl,dx,_,R'.ins,(by show 2<1000;decide),?_⟩;refine⟨rfl,?_⟩;rw[vn hx (by simp),pB];rfl
end
end Ck
end
noncomputable section
namespace Ck
open PySem PySem.Spec PyProof.Rows L2
section
variable{P:Program}{w:World}{K:ai}{mg:Str->Option Value}{base:Heap}{t:nF}
theorem mO{bs x:List Nat}(s:x <:+ bs):Rd.skip false x <:+ bs:=(Rd.oX false x).trans s
theorem oS{l:Addr}{p:Int}:(EW l p).lookup ("here":Str)=none:=vm _ _ (by decide) (by decide)
theorem nV(T:Txt K mg t):Ok P w K mg base 3 t.o5 t.n9 ["self"] (Jj K t (Rd.skip false)):=by
 refine T.lD.fn.qD ur (λ vs H Q E h=>?_) λ cdv A outer s H vs Q E hr h=>?_
 ·obtain⟨r,dx,l,bs,rest,rfl,_⟩:=h;rfl
 ·obtain⟨r,dx,l,bs,rest,rfl,R,hb,h⟩:=h
  have hr1:=hr.mono (show 1<=2 by decide);refine⟨_,jg (mU mW (PW.pt (TV (lU nN (lC T.jo T.kJ (oR T) hr1 jF (pv 0)) (kh T.II rfl) (kC _))
   (Rt (lU Aq (lC T.jo T.kJ (oR T) hr1 jF (pv 0)) (kh T.M6 rfl) (kC _)))))
   (jg (rJ (lU Aq (lC T.jo T.kJ (oR T) hr1 jF (pv 0)) (kh T.M6 rfl) (kC _))
    (jg (jJ (lC T.jo T.qw (BN T) hr jF (pv 0)))) (jg (rL (pv 0) jv Aw))))),?_⟩
  refine⟨λ m σ H'=>∃x,x <:+ bs/\Rd.skip false x=Rd.skip false rest/\m=x.length/\σ=[some (.ref r)]/\H'=kN t H r dx l bs x,⟨_,rest,R.yx,rfl,rfl,rfl,R.self.symm⟩,?_⟩;rintro m σ H' ⟨x,hx,ex,rfl,rfl,rfl⟩;have R':=R.put hx;rw[<-ex] at h;refine⟨_,rfl,r,dx,_,rfl,R'.ins,oS,r,dx,l,bs,x,rfl,R',_,_,rfl,rfl,_,rfl,?_⟩
  cases x with
  |nil=>exact qS ⟨_,rfl,r,dx,_,rfl,R'.ins,oS,r,dx,l,bs,[],rfl,R',rfl,_,rfl,qS h⟩
  |cons c q=>
   have hc:c<256:=hb c (hx.subset aP);have step:∀e:(Rd.skip false (c::q)=Rd.skip false q),∀(e2:c≠35),∃N:L2.St->Hp->Prop,(∀σ' H',N σ' H'->∃m',m'<(c::q).length/\∃x,x <:+ bs/\Rd.skip false x=Rd.skip false rest/\m'=x.length/\σ'=[some (.ref r)]/\H'=kN t H r dx l bs x) /\
     N [some (.ref r)] (kN t H r dx l bs q):=λ e _=>
    ⟨λ σ H'=>σ=[some (.ref r)]/\H'=kN t H r dx l bs q,λ σ' H' ⟨a,b⟩=>⟨q.length,aD _,q,sS hx,by rw[<-ex,e],rfl,a,b⟩,rfl,rfl⟩
   by_cases Yw:c<=32
   ·have U9:c≠35:=by omega
    obtain⟨N,n1,n2⟩:=step (by simp[Rd.skip,Yw]) U9;refine tW (decide_eq_true (show ((c:Nat):Int)<=32 by omega)) (uA ⟨N,n1,?_⟩);refine⟨_,rfl,r,dx,_,rfl,R'.ins,oS,r,dx,l,bs,c::q,rfl,R',rfl,_,rfl,sX (by rw[sU];exact decide_eq_false (λ z=>U9 (by injection z with z;omega))) ?_⟩;refine⟨_,rfl,r,_,dx,_,_,rfl,R'.ins,T.jo.cl,T.jC,lz _ _,_,_,rfl,rfl,dx,_,R'.ins,(by show 2<1000;decide),?_⟩;rw[vn hx (by simp),pB];exact n2
   ·refine sX (decide_eq_false (show ¬((c:Nat):Int)<=32 by omega)) ?_;refine⟨_,rfl,r,dx,_,rfl,R'.ins,oS,r,dx,l,bs,c::q,rfl,R',rfl,_,rfl,?_⟩
    by_cases W4:c=35
    ·subst W4;have e0:Rd.skip false (35::q)=Rd.skip false (q.dropWhile λ y=>y != 10):=by
      rw[<-Rd.Dk];simp[Rd.skip]
     have e1:((35::q).dropWhile λ y=>y != 10)=q.dropWhile λ y=>y != 10:=by rw[bH (by decide)]
     refine uA ⟨λ σ H'=>σ=[some (.ref r)]/\H'=kN t H r dx l bs (q.dropWhile λ y=>y != 10),?_,?_⟩
     ·rintro σ' H' ⟨rfl,rfl⟩;exact⟨_,dQ (Rd.dropWhile_len _ q),q.dropWhile (λ y=>y != 10),(dM (l:=q) _).trans (sS hx),by rw[<-ex,e0],rfl,rfl,rfl⟩
     ·refine⟨_,rfl,r,dx,_,rfl,R'.ins,oS,r,dx,l,bs,35::q,rfl,R',rfl,_,rfl,uA ?_⟩;refine⟨_,rfl,r,dx,_,rfl,R'.ins,vm _ _ (by decide) (by decide),r,dx,l,bs,35::q,rfl,R',hb,?_⟩;refine⟨rfl,?_⟩;show kN t (kN t H r dx l bs (35::q)) r dx l bs ((35::q).dropWhile λ y=>y != 10)=_;rw[pB,e1]
    ·refine sX (by rw[sU];exact decide_eq_false (λ z=>W4 (by injection z with z;omega))) ?_;have e:Rd.skip false (c::q)=c::q:=by simp[Rd.skip,Yw,W4]
     rw[e] at h;exact h
theorem K0(T:Txt K mg t):Ok P w K mg base 4 t.uc t.sj ["self"] (λ vs H Q _=>∃r dx l bs rest,vs=[.ref r]/\yw K t H r dx l bs rest/\(∀c∈bs,c<256)/\Q (.bl (decide (Rd.skip false rest=[]))) (kN t H r dx l bs (Rd.skip false rest))):=by
 refine T.wI.fn.qD yW (λ vs H Q E h=>?_) λ cdv A outer s H vs Q E hr h=>?_
 ·obtain⟨r,dx,l,bs,rest,rfl,_⟩:=h;rfl
 ·obtain⟨r,dx,l,bs,rest,rfl,R,hb,h⟩:=h
  refine⟨_,jc (jJ (lC T.jo T.lD (nV T) hr jF (pv 0))) (jg (jB (nO Aq (lC T.jo T.kJ (oR T) (hr.mono (by decide)) jF (pv 0)) (kh T.xg rfl) (kC _)))),?_⟩;have R':=R.put (mO R.yx);refine⟨_,rfl,r,dx,_,rfl,R.ins,vm _ _ (by decide) (by decide),r,dx,l,bs,rest,rfl,R,hb,?_⟩;refine⟨_,rfl,r,dx,_,rfl,R'.ins,oS,r,dx,l,bs,_,rfl,R',rfl,?_⟩;have e:decide (V.int (Rd.here (Rd.skip false rest):Nat)=V.int 256)=decide (Rd.skip false rest=[]):=by
   rw[show decide (V.int (Rd.here (Rd.skip false rest):Nat)=V.int 256)=decide (Rd.here (Rd.skip false rest)=256) from yz,aT,decide_eq_true_eq,decide_eq_true_eq]
   cases e:Rd.skip false rest with
   |nil=>simp[BL]
   |cons c q=>
    have:c<256:=hb c ((mO R.yx).subset (by rw[e];exact aP));rw[sU];simp;omega
  show Q (.bl (decide (V.int (Rd.here (Rd.skip false rest):Nat)=V.int 256))) _;rw[e];exact h
def K2(K:ai)(t:nF):Sp:=λ vs H Q _=>∃r dx l bs rest,∃m:Nat,vs=[.ref r,.int m]/\m<256/\yw K t H r dx l bs rest/\(∀c∈bs,c<256)/\Q (.bl (Rd.passes m rest).1) (kN t H r dx l bs (Rd.passes m rest).2)
theorem jQ{m:Nat}{bs rest:List Nat}(s:rest <:+ bs):(Rd.passes m rest).2 <:+ bs:=by
 unfold Rd.passes
 split
 ·exact sS (mO s)
 ·exact mO s
theorem oN(T:Txt K mg t):Ok P w K mg base 4 t.ud t.sr ["self","mark"] (K2 K t):=by
 refine T.lu.fn.qD yX (λ vs H Q E h=>?_) λ cdv A outer s H vs Q E hr h=>?_
 ·obtain⟨r,dx,l,bs,rest,m,rfl,_⟩:=h;rfl
 ·obtain⟨r,dx,l,bs,rest,m,rfl,hm,R,hb,h⟩:=h
  refine⟨_,jc (jJ (lC T.jo T.lD (nV T) hr jF (pv 0)))
   (jc (rJ (lU CY (lC T.jo T.kJ (oR T) (hr.mono (by decide)) jF (pv 0)) (pv 1) (kC _)) (jg (jB LA)) nc)
   (jc (rL (pv 0) jv Aw) (jg (jB LA)))),?_⟩
  have R':=R.put (mO R.yx);refine⟨_,rfl,r,dx,_,rfl,R.ins,vm _ _ (by decide) (by decide),r,dx,l,bs,rest,rfl,R,hb,?_⟩;refine⟨_,rfl,r,dx,_,rfl,R'.ins,oS,r,dx,l,bs,_,rfl,R',_,rfl,rfl,_,rfl,?_⟩;unfold Rd.passes at h
  by_cases e:Rd.here (Rd.skip false rest)=m
  ·rw[if_pos e] at h;refine sX (by rw[yz,decide_eq_true e];rfl) ?_;have hne:Rd.skip false rest≠[]:=λ z=>by rw[z,BL] at e;omega
   refine⟨_,rfl,r,_,dx,_,_,rfl,R'.ins,T.jo.cl,T.jC,lz _ _,_,_,rfl,rfl,dx,_,R'.ins,(by show 2<1000;decide),?_⟩;rw[vn (mO R.yx) hne,pB];exact h
  ·rw[if_neg e] at h;exact tW (by rw[yz,decide_eq_false e];rfl) h
theorem BO{f:Nat->Bool}:∀b:List Nat,b.drop (b.takeWhile f).length=b.dropWhile f
 |[]=>rfl
 |c::r=>by
  by_cases h:f c=true
  ·rw[bz h,bH h];exact BO r
  ·rw[dX h,eu h];rfl
theorem EN{f:Nat->Bool}(b:List Nat):(b.takeWhile f).length+(b.dropWhile f).length=b.length:=by
 have:=congrArg dU (fD (p:=f) (l:=b))
 rw[aE] at this;exact this
theorem Jk{f:Nat->Bool}{bs c:List Nat}(s:c <:+ bs):JH (jL bs) (some (pl bs c)) (some (pl bs (c.dropWhile f)))=jL (c.takeWhile f):=by
 have h1:=s.length_le
 have h2:=EN (f:=f) c
 unfold JH pl
 rw[HT.Ig,HT.Ig,jT,Nat.min_eq_left (by omega),Nat.min_eq_left (by omega)]
 unfold jL
 rw[<-List.map_drop,<-List.map_take,NG s]
 congr 1
 rw[show bs.length-(c.dropWhile f).length-(bs.length-c.length)=(c.takeWhile f).length by omega]
 have z:(c.takeWhile f++c.dropWhile f).take (c.takeWhile f).length=c.takeWhile f:=List.take_left
 rw[fD] at z
 exact z
def HJ{α:Type}(o:Option α)(n:Prop)(s:α->Prop):Prop:=match o with
 |none=>n
 |some x=>s x
def yC{α:Type}(K:ai)(t:nF)(f:List Nat->Option (α×List Nat))(rep:α->V->Hp->Prop):Sp:=λ vs H Q E=>∃r dx l bs rest,vs=[.ref r]/\yw K t H r dx l bs rest/\(∀c∈bs,c<256) /\
 HJ (f rest) (∀H',E (.ref t.ju) none H') λ x=>x.2 <:+ bs/\∀v H',yw K t H' r dx l bs x.2->Kp r H H'->rep x.1 v H'->Q v H'
def W5(w:List Nat)(v:V)(H:Hp):Prop:=∃a,v=.ref a/\H a=some (.tup (jL w))
theorem zL(b:List Nat):Rd.jP b=if Ra61.isLetter (Rd.here (Rd.skip false b))=true then (if ((Rd.skip false b).takeWhile Ra61.isWord).length<=16 then some ((Rd.skip false b).takeWhile Ra61.isWord,(Rd.skip false b).dropWhile Ra61.isWord) else none) else none:=by
 unfold Rd.jP
 simp only[BO]
theorem wK(b:List Nat):Rd.jW b=if 1<=((Rd.skip false b).takeWhile Ra61.isDigit).length/\((Rd.skip false b).takeWhile Ra61.isDigit).length<=7 then (if Ra61.value ((Rd.skip false b).takeWhile Ra61.isDigit)<=1000000 then some (Ra61.value ((Rd.skip false b).takeWhile Ra61.isDigit),(Rd.skip false b).dropWhile Ra61.isDigit) else none) else none:=by
 unfold Rd.jW
 simp only[BO]
theorem pY(T:Txt K mg t)(kb:K.In base):Ok P w K mg base 4 t.qu t.pT ["self"] (yC K t Rd.jP W5):=by
 refine T.lW.fn.qD pR (λ vs H Q E h=>?_) λ cdv A outer s H vs Q E hr h=>?_
 ·obtain⟨r,dx,l,bs,rest,rfl,_⟩:=h;rfl
 ·obtain⟨r,dx,l,bs,rest,rfl,R,hb,h⟩:=h
  have hr1:=hr.mono (show 1<=3 by decide);have hr2:=hr.mono (show 2<=3 by decide);refine⟨_,jc (jJ (lC T.jo T.lD (nV T) hr jF (pv 0)))
   (jc (jJ (jI T.mK (kg T kb) hr1 rfl (jA xl_of) (ja (jI T.yZ (yl T) hr1 rfl jF (ja (lC T.jo T.kJ (oR T) hr1 jF (pv 0)) jd)) jd)))
   (jc (jD (i:=1) pR.nd rfl (Or.inl rfl) (nA (pv 0) rfl))
   (jc (mU mW (qb (jI T.ya (zZ T) hr2 rfl jF (ja (lC T.jo T.kJ (oR T) hr1 jF (pv 0)) jd))) (jg (rL (pv 0) jv Aw)))
   (jc (jJ (jI T.mK (kg T kb) hr1 rfl (jA xl_of) (ja (nO nN (kB D6 (nA (pv 0) rfl) (pv 1)) (kh T.Bb rfl) (kC _)) jd)))
   (jg (jB (rM Ct (by rfl) T.PJ M7 (ja (Fc Io (nA (pv 0) rfl) (z7 (pv 1)) (z7 (nA (pv 0) rfl))) jd)))))))),?_⟩
  have hc:=mO R.yx;generalize hcc:Rd.skip false rest=c at hc
  have R':=R.put hc;refine⟨_,rfl,r,dx,_,rfl,R.ins,vm _ _ (by decide) (by decide),r,dx,l,bs,rest,rfl,R,hb,?_⟩;rw[hcc];rw[zL,hcc] at h;refine⟨_,rfl,r,dx,_,rfl,R'.ins,oS,r,dx,l,bs,c,rfl,R',_,rfl,_,rfl,?_⟩
  by_cases hL:Ra61.isLetter (Rd.here c)=true
  ·rw[if_pos hL] at h;refine tW hL ?_;refine⟨_,rfl,r,_,dx,_,_,rfl,R'.ins,T.jo.cl,T.jC,lz _ _,?_⟩;refine⟨λ m σ H'=>∃x,x <:+ c/\x.dropWhile Ra61.isWord=c.dropWhile Ra61.isWord/\m=x.length/\σ=[some (.ref r),some (.int (pl bs c))]/\H'=kN t H r dx l bs x,⟨_,c,fL _,rfl,rfl,rfl,rfl⟩,?_⟩;rintro m σ H' ⟨x,hx,ex,rfl,rfl,rfl⟩;have Rx:=R.put (hx.trans hc);refine⟨_,rfl,r,dx,_,rfl,Rx.ins,oS,r,dx,l,bs,x,rfl,Rx,_,rfl,_,rfl,?_⟩;have done:x=c.dropWhile Ra61.isWord->JC (LF (Ic (zb t) [] E (Ax (QK (GD λ i j=>.bl (decide (i<=j))) (QK (GD λ i j=>.int (i-j)) (LW K (xy 0) "place") (xy 1)) (tC (.int 16))) E5)))
     (OJ (Wu (λ xs H Q=>∃p ys,xs=[.ref p]/\((jE K H p ys/\∀l,H l=none->Q (.ref l) (upd H l (.tup ys)))\/(rH K H p ys/\Q (.ref p) H))) (Ax (XZ (Uq K) (LW K (xy 0) "text") (L7 (xy 1)) (L7 (LW K (xy 0) "place"))) E5)))
     { nx:=λ _ H'=>Q .pZ H',rt:=Q } [some (.ref r),some (.int (pl bs c))] (kN t H r dx l bs x):=by
    intro ed;subst ed;refine⟨_,rfl,r,_,dx,_,_,rfl,Rx.ins,T.jo.cl,T.jC,lz _ _,_,rfl,_,_,rfl,rfl,_,_,rfl,rfl,_,rfl,?_⟩;have hl1:=hc.length_le;have hl2:=EN (f:=Ra61.isWord) c;have e:decide (pl bs (c.dropWhile Ra61.isWord)-pl bs c<=16)=decide ((c.takeWhile Ra61.isWord).length<=16):=by
     rw[aT,decide_eq_true_eq,decide_eq_true_eq];unfold pl;omega
    by_cases hw:(c.takeWhile Ra61.isWord).length<=16
    ·rw[if_pos hw] at h;refine tW (by rw[e];exact decide_eq_true hw) ?_;refine⟨_,rfl,r,_,dx,_,_,rfl,Rx.ins,T.jo.cl,T.m6,yu _ _,_,rfl,_,rfl,_,rfl,r,_,dx,_,_,rfl,Rx.ins,T.jo.cl,T.jC,lz _ _,_,rfl,l,_,rfl,Rx.txt,λ p hp=>?_⟩;rw[Jk hc];refine⟨p,_,rfl,.inl ⟨jE.of jb,λ a ha=>?_⟩⟩;have s2:=(jj (o:=.lst (jL (c.takeWhile Ra61.isWord))) hp).trans (jj (o:=.tup (jL (c.takeWhile Ra61.isWord))) ha);refine h.2 _ _ (Rx.same s2) (Kp.trans Kp.upd (Kp.of s2)) ⟨a,rfl,jb⟩
    ·rw[if_neg hw] at h;exact sX (by rw[e];exact decide_eq_false hw) (h _)
   cases x with
   |nil=>exact sX rfl (done (by rw[<-ex];rfl))
   |cons d q=>
    by_cases hw:Ra61.isWord d=true
    ·refine tW hw ⟨λ σ H'=>σ=[some (.ref r),some (.int (pl bs c))]/\H'=kN t H r dx l bs q,?_,?_⟩
     ·rintro σ' H' ⟨rfl,rfl⟩;exact⟨q.length,aD _,q,sS hx,by rw[<-ex,bH hw],rfl,rfl,rfl⟩
     ·refine⟨_,rfl,r,_,dx,_,_,rfl,Rx.ins,T.jo.cl,T.jC,lz _ _,_,_,rfl,rfl,dx,_,Rx.ins,(by show 2<1000;decide),rfl,?_⟩;rw[vn (hx.trans hc) (by simp),pB];rfl
    ·exact sX (show Ra61.isWord d=false by simpa using hw) (done (by rw[<-ex,eu hw]))
  ·rw[if_neg hL] at h;exact sX (by simpa using hL) (h _)
theorem HK(d:List Nat)(x:Nat):Ra61.value (d++[x])=10*Ra61.value d+(x-48):=by unfold Ra61.value;rw[cV];rfl
theorem NH{x:Nat}(h:Ra61.isDigit x=true):48<=x:=by
 unfold Ra61.isDigit at h
 rw[aR,decide_eq_true_eq] at h
 exact h.1
theorem Gh{f:Nat->Bool}:∀(b:List Nat) (x:Nat),x∈b.takeWhile f->f x=true
 |[],x,h=>by simp at h
 |c::r,x,h=>by
  by_cases hc:f c=true
  ·rw[bz hc] at h
   rcases aB.mp h with rfl | h
   ·exact hc
   ·exact Gh r x h
  ·rw[dX hc] at h;simp at h
def Xa(n:Nat)(v:V)(_:Hp):Prop:=v=.int (n:Int)
theorem vo(T:Txt K mg t)(kb:K.In base):Ok P w K mg base 4 t.o6 t.oh ["self"] (yC K t Rd.jW Xa):=by
 refine T.nG.fn.qD kr (λ vs H Q E h=>?_) λ cdv A outer s H vs Q E hr h=>?_
 ·obtain⟨r,dx,l,bs,rest,rfl,_⟩:=h;rfl
 ·obtain⟨r,dx,l,bs,rest,rfl,R,hb,h⟩:=h
  have hr1:=hr.mono (show 1<=3 by decide);refine⟨_,jc (jJ (lC T.jo T.lD (nV T) hr jF (pv 0)))
   (jc (jD (i:=1) kr.nd rfl (Or.inl rfl) (nA (pv 0) rfl))
   (jc (mU mW (qb (jI T.A3 (zI T) hr1 rfl jF (ja (lC T.jo T.kJ (oR T) hr1 jF (pv 0)) jd))) (jg (rL (pv 0) jv Aw)))
   (jc (jJ (jI T.mK (kg T kb) hr1 rfl (jA xl_of) (ja (rK nN nN jv (kB D6 (nA (pv 0) rfl) (pv 1)) (kh T.CC rfl)) jd)))
   (jc (jD (i:=2) kr.nd rfl (Or.inl rfl) jv)
   (jc (qc mW rfl (lH (Fc Io (nA (pv 0) rfl) (z7 (pv 1)) (z7 (nA (pv 0) rfl)))) (j0 (i:=3) kr.nd rfl (Or.inl rfl))
    (jg (jD (i:=2) kr.nd rfl (Or.inl rfl) (kB D6 (kB An (kB uw (pv 2) jv) (pv 3)) (kh T.Hs rfl)))))
   (jc (jJ (jI T.mK (kg T kb) hr1 rfl (jA xl_of) (ja (nO nN (pv 2) (kh T.yh rfl) (kC _)) jd)))
   (jg (jB (pv 2))))))))),?_⟩
  have hc:=mO R.yx;generalize hcc:Rd.skip false rest=c at hc
  have R':=R.put hc;refine⟨_,rfl,r,dx,_,rfl,R.ins,vm _ _ (by decide) (by decide),r,dx,l,bs,rest,rfl,R,hb,?_⟩;rw[hcc];rw[wK,hcc] at h;refine⟨_,rfl,r,_,dx,_,_,rfl,R'.ins,T.jo.cl,T.jC,lz _ _,?_⟩;refine⟨λ m σ H'=>∃x,x <:+ c/\x.dropWhile Ra61.isDigit=c.dropWhile Ra61.isDigit/\m=x.length/\σ=[some (.ref r),some (.int (pl bs c)),none,none]/\H'=kN t H r dx l bs x,⟨_,c,fL _,rfl,rfl,rfl,rfl⟩,?_⟩;rintro m σ H' ⟨x,hx,ex,rfl,rfl,rfl⟩;have Rx:=R.put (hx.trans hc);refine⟨_,rfl,r,dx,_,rfl,Rx.ins,oS,r,dx,l,bs,x,rfl,Rx,_,rfl,_,rfl,?_⟩;have fin:Ra61.isDigit (Rd.here x)=false->x=c.dropWhile Ra61.isDigit:=λ hd=>by
   cases x with
   |nil=>rw[<-ex];rfl
   |cons d q=>rw[<-ex,eu (by rw[sU] at hd;simp[hd])]
  cases hd:Ra61.isDigit (Rd.here x) with
  |true=>
   cases x with
   |nil=>rw[BL] at hd;exact absurd hd (by decide)
   |cons d q=>
    refine tW rfl ⟨λ σ H'=>σ=[some (.ref r),some (.int (pl bs c)),none,none]/\H'=kN t H r dx l bs q,?_,?_⟩
    ·rintro σ' H' ⟨rfl,rfl⟩;exact⟨q.length,aD _,q,sS hx,by rw[<-ex,bH (show Ra61.isDigit d=true from hd)],rfl,rfl,rfl⟩
    ·refine⟨_,rfl,r,_,dx,_,_,rfl,Rx.ins,T.jo.cl,T.jC,lz _ _,_,_,rfl,rfl,dx,_,Rx.ins,(by show 2<1000;decide),rfl,?_⟩;rw[vn (hx.trans hc) (by simp),pB];rfl
  |false=>
   obtain rfl:=fin hd;refine sX rfl ?_;have hl1:=hc.length_le;have hl2:=EN (f:=Ra61.isDigit) c;refine⟨_,rfl,r,_,dx,_,_,rfl,Rx.ins,T.jo.cl,T.jC,lz _ _,_,rfl,_,_,rfl,rfl,_,_,rfl,rfl,?_⟩;have q1:decide ((1:Int)<=pl bs (c.dropWhile Ra61.isDigit)-pl bs c)=decide (1<=(c.takeWhile Ra61.isDigit).length):=by
    rw[aT,decide_eq_true_eq,decide_eq_true_eq];unfold pl;omega
   have q2:decide (pl bs (c.dropWhile Ra61.isDigit)-pl bs c<=7)=decide ((c.takeWhile Ra61.isDigit).length<=7):=by
    rw[aT,decide_eq_true_eq,decide_eq_true_eq];unfold pl;omega
   refine⟨_,rfl,?_⟩
   by_cases w1:1<=(c.takeWhile Ra61.isDigit).length
   case neg=>
    rw[if_neg (λ z=>w1 z.1)] at h;exact sX (q1.trans (decide_eq_false w1)) ⟨_,rfl,qS (h _)⟩
   refine tW (q1.trans (decide_eq_true w1)) ⟨_,_,rfl,rfl,?_⟩
   by_cases hw:(c.takeWhile Ra61.isDigit).length<=7
   ·rw[if_pos ⟨w1,hw⟩] at h;refine⟨_,rfl,tW (q2.trans (decide_eq_true hw)) ?_⟩;refine⟨_,rfl,r,_,dx,_,_,rfl,Rx.ins,T.jo.cl,T.m6,yu _ _,_,rfl,_,rfl,_,rfl,r,_,dx,_,_,rfl,Rx.ins,T.jo.cl,T.jC,lz _ _,_,rfl,l,_,rfl,Rx.txt,λ p hp=>?_⟩;rw[Jk hc];have s2:=jj (o:=.lst (jL (c.takeWhile Ra61.isDigit))) hp;refine⟨p,rfl,⟨_,jE.of jb⟩,xD (K:=K) (a:=p) (xs:=jL (c.takeWhile Ra61.isDigit))
     (λ i σ H'=>∃v3,σ=[some (.ref r),some (.int (pl bs c)),some (.int (Ra61.value ((c.takeWhile Ra61.isDigit).take i):Nat)),v3]/\H'=upd (kN t H r dx l bs (c.dropWhile Ra61.isDigit)) p (.lst (jL (c.takeWhile Ra61.isDigit))))
     ⟨none,rfl,rfl⟩ (λ i σ H' _ ⟨_,_,e⟩=>by rw[e];exact jE.of jb) ?_ ?_⟩
    ·rintro i y σ H' hi ⟨v3,rfl,rfl⟩;unfold jL at hi;rw[aj] at hi
     cases ei:(c.takeWhile Ra61.isDigit)[i]? with
     |none=>rw[ei] at hi;cases hi
     |some d=>
      rw[ei] at hi;obtain rfl:=(aS hi).symm;have hd48:=NH (Gh c d (au ei));refine⟨_,rfl,_,_,rfl,rfl,.inr ⟨by decide,by decide⟩,_,rfl,_,_,rfl,rfl,_,_,rfl,rfl,some (.int (d:Int)),?_,rfl⟩;have et:(c.takeWhile Ra61.isDigit).take (i+1)=(c.takeWhile Ra61.isDigit).take i++[d]:=by rw[gC,ei];rfl
      rw[et,HK];have:((Ra61.value ((c.takeWhile Ra61.isDigit).take i):Nat):Int)*10+(d:Int)-48=((10*Ra61.value ((c.takeWhile Ra61.isDigit).take i)+(d-48):Nat):Int):=by omega
      rw[<-this];rfl
    ·rintro σ H' ⟨v3,rfl,rfl⟩;rw[jT,eG];refine⟨_,rfl,_,_,rfl,rfl,_,rfl,?_⟩;have e:decide (((Ra61.value (c.takeWhile Ra61.isDigit):Nat):Int)<=1000000)=decide (Ra61.value (c.takeWhile Ra61.isDigit)<=1000000):=qy _ 1000000
     by_cases hv:Ra61.value (c.takeWhile Ra61.isDigit)<=1000000
     ·rw[if_pos hv] at h;refine tW (by rw[e];exact decide_eq_true hv) ⟨_,rfl,?_⟩;exact h.2 _ _ (Rx.same s2) (Kp.trans Kp.upd (Kp.of s2)) rfl
     ·rw[if_neg hv] at h;exact sX (by rw[e];exact decide_eq_false hv) (h _)
   ·rw[if_neg (λ z=>hw z.2)] at h;exact⟨_,rfl,sX (q2.trans (decide_eq_false hw)) (h _)⟩
theorem yD{l:Addr}{p:Int}{m:Str}(h1:¬m = "place":=by decide)(h2:¬m = "text":=by decide):(EW l p).lookup m=none:=vm _ _ h1 h2
theorem nW{α:Type}{f:List Nat->Option (α×List Nat)}{rep:α->V->Hp->Prop}{H:Hp}{r dx l:Addr}{bs rest:List Nat}{Q:VK}{E:XK}(R:yw K t H r dx l bs rest)(hb:∀c∈bs,c<256)
  (hn:f rest=none->∀H',E (.ref t.ju) none H') (hs:∀x,f rest=some x->x.2 <:+ bs/\∀v H',yw K t H' r dx l bs x.2->Kp r H H'->rep x.1 v H'->Q v H'):yC K t f rep [.ref r] H Q E:=by
 refine⟨r,dx,l,bs,rest,rfl,R,hb,?_⟩
 cases e:f rest with
 |none=>exact hn e
 |some x=>exact hs x e
theorem lP{bs b:List Nat}{x}(s:b <:+ bs)(h:Rd.jP b=some x):x.2 <:+ bs:=by
 rw[zL] at h
 split at h
 ·split at h
  ·cases h;exact (dM _).trans (mO s)
  ·cases h
 ·cases h
theorem nX{bs b:List Nat}{x}(s:b <:+ bs)(h:Rd.jW b=some x):x.2 <:+ bs:=by
 rw[wK] at h
 split at h
 ·split at h
  ·cases h;exact (dM _).trans (mO s)
  ·cases h
 ·cases h
def Xb(n:Int)(v:V)(_:Hp):Prop:=v=.int n
theorem EO(T:Txt K mg t)(kb:K.In base):Ok P w K mg base 5 t.zx t.xU ["reader"] (yC K t Rd.oW Xb):=by
 refine T.Dv.fn.qD tP (λ vs H Q E h=>?_) λ cdv A outer s H vs Q E hr h=>?_
 ·obtain⟨r,dx,l,bs,rest,rfl,_⟩:=h;rfl
 ·obtain⟨r,dx,l,bs,rest,rfl,R,hb,h⟩:=h
  refine⟨_,jc (jD (i:=1) tP.nd rfl (Or.inl rfl) (rQ T.jo T.lu (oN T) hr jF (pv 0) (ja (kh T.IJ rfl) jd)))
   (jc (jD (i:=2) tP.nd rfl (Or.inl rfl) (lC T.jo T.nG (vo T kb) hr (jA xl_of) (pv 0)))
   (jc (jJ (jI T.mK (kg T kb) (hr.mono (by decide)) rfl (jA xl_of) (ja (nO nN (pv 2) (kh T.zX rfl) (kC _)) jd)))
   (jg (jB (uu (qb (pv 1)) (E2 Ao (pv 2)) (pv 2)))))),?_⟩
  refine⟨_,rfl,r,dx,_,rfl,R.ins,yD,r,dx,l,bs,rest,45,rfl,by decide,R,hb,?_⟩;unfold Rd.oW at h;rw[ak] at h;have s1:=jQ (m:=45) R.yx;generalize Rd.passes 45 rest=y at h s1
  have R1:=R.put s1;refine⟨_,rfl,r,dx,_,rfl,R1.ins,yD,nW R1 hb (λ e H'=>?_) λ x e=>⟨nX s1 e,λ v H' R2 k2 hv=>?_⟩⟩
  ·rw[e] at h;exact h H'
  ·rw[e,ak] at h;obtain rfl:v=.int (x.1:Int):=hv;refine⟨_,rfl,_,_,rfl,rfl,_,rfl,?_⟩;have e2:decide ((x.1:Int)<=1000)=decide (x.1<=1000):=qy _ 1000
   by_cases hg:x.1<=1000
   ·rw[if_pos hg] at h;refine tW (e2.trans (decide_eq_true hg)) ⟨_,rfl,_,rfl,?_⟩;have fin:=h.2 (.int (if y.1=true then -(x.1:Int) else (x.1:Int))) H' R2 (Kp.trans Kp.upd k2) rfl
    cases hy:y.1 with
    |true=>rw[hy] at fin;exact uA ⟨_,rfl,_,rfl,fin⟩
    |false=>rw[hy] at fin;exact qS ⟨_,rfl,fin⟩
   ·rw[if_neg hg] at h;exact sX (e2.trans (decide_eq_false hg)) (h _)
def Va(x:List Nat×Nat)(v:V)(H:Hp):Prop:=∃a b,v=.ref a/\H a=some (.tup [.ref b,.int (x.2:Int)])/\H b=some (.tup (jL x.1))
theorem qR{bs b:List Nat}{x}(s:b <:+ bs)(h:Rd.nj b=some x):x.2 <:+ bs:=by
 obtain⟨a,h1,h⟩:=Rd.bind_some h
 obtain⟨y,h2,h⟩:=Rd.bind_some h
 cases h2
 obtain⟨n,h3,h⟩:=Rd.bind_some h
 obtain⟨_,h⟩:=Rd.jl h
 cases h
 have s2:=jQ (m:=47) (lP s h1)
 split at h3
 ·exact nX s2 h3
 ·cases h3;exact s2
theorem zM(T:Txt K mg t)(kb:K.In base):Ok P w K mg base 5 t.AZ t.zy ["reader"] (yC K t Rd.nj Va):=by
 refine T.A4.fn.qD qI (λ vs H Q E h=>?_) λ cdv A outer s H vs Q E hr h=>?_
 ·obtain⟨r,dx,l,bs,rest,rfl,_⟩:=h;rfl
 ·obtain⟨r,dx,l,bs,rest,rfl,R,hb,h⟩:=h
  refine⟨_,jc (jD (i:=1) qI.nd rfl (Or.inl rfl) (lC T.jo T.lW (pY T kb) hr (jA xl_of) (pv 0)))
   (jc (jD (i:=2) qI.nd rfl (Or.inl rfl) jv)
   (jc (rJ (qb (rQ T.jo T.lu (oN T) hr jF (pv 0) (ja (kh T.IK rfl) jd)))
    (jg (jD (i:=2) qI.nd rfl (Or.inl rfl) (lC T.jo T.nG (vo T kb) hr (jA xl_of) (pv 0)))) nc)
   (jc (jJ (jI T.mK (kg T kb) (hr.mono (by decide)) rfl (jA xl_of) (ja (rK nN nN jv (pv 2) (kh T.yk rfl)) jd)))
   (jg (jB (LX (ja (pv 1) (ja (pv 2) jd)))))))),?_⟩
  unfold Rd.nj at h;refine⟨_,rfl,r,dx,_,rfl,R.ins,yD,nW R hb (λ e H'=>?_) λ x e=>⟨lP R.yx e,λ v H1 R1 k1 hv=>?_⟩⟩
  ·rw[e] at h;exact h H'
  ·rw[e,ak,ak] at h;obtain⟨b,rfl,hb1⟩:=hv;have s2:=jQ (m:=47) R1.yx;refine⟨_,rfl,r,dx,_,rfl,R1.ins,yD,r,dx,l,bs,x.2,47,rfl,by decide,R1,hb,_,rfl,?_⟩;generalize Rd.passes 47 x.2=y at h s2
   have R2:=R1.put s2;have Yx:b≠r:=nK hb1 R1.ins (by intro q;cases q);have fin:∀(n:Nat) (NI:List Nat) (H3:Hp),yw K t H3 r dx l bs NI->Kp r (kN t H1 r dx l bs y.2) H3 ->
     HJ (if 1<=n/\n<=1000 then some ((x.1,n),NI) else none:Option ((List Nat×Nat)×List Nat)) (∀H',E (.ref t.ju) none H') (λ z=>z.2 <:+ bs/\∀v H',yw K t H' r dx l bs z.2->Kp r H H'->Va z.1 v H'->Q v H') ->
     JC (LF (Ic (zb t) [] E (Ax (D7 (GD λ i j=>.bl (decide (i<=j))) (GD λ i j=>.bl (decide (i<=j))) (tC (.int 1)) (xy 2) (tC (.int 1000))) E5)))
      (OJ (Uh (Ax (xy 1) (Ax (xy 2) E5)))) { nx:=λ _ H'=>Q .pZ H',rt:=Q } [some (.ref r),some (.ref b),some (.int (n:Int))] H3:=by
    intro n NI H3 R3 k3 h;refine VS (x:=(n:Int)) rfl ?_;have e2:(decide ((1:Int)<=n)&&decide ((n:Int)<=1000))=decide (1<=n/\n<=1000):=by
     rw[aT,aR,decide_eq_true_eq,decide_eq_true_eq,decide_eq_true_eq];omega
    rw[e2]
    by_cases hn:1<=n/\n<=1000
    ·rw[if_pos hn] at h;refine⟨_,rfl,tW (decide_eq_true hn) ⟨_,rfl,_,rfl,(by show 2<=sizeLine;decide),λ p hp=>?_⟩⟩;have s3:=jj (o:=.tup [.ref b,.int (n:Int)]) hp;have hb3:H3 b=some (.tup (jL x.1)):=k3 b _ Yx (Kp.upd b _ Yx hb1);exact h.2 _ _ (R3.same s3) (((k1.trans Kp.upd).trans k3).trans (Kp.of s3)) ⟨p,b,rfl,jb,s3 _ _ hb3⟩
    ·rw[if_neg hn] at h;exact⟨_,rfl,sX (decide_eq_false hn) (h _)⟩
   cases hy:y.1 with
   |true=>
    rw[hy,if_pos rfl] at h;refine uA ⟨_,rfl,r,dx,_,rfl,R2.ins,yD,nW R2 hb (λ e H'=>?_) λ z e=>⟨nX s2 e,λ v H3 R3 k3 hv=>?_⟩⟩
    ·rw[e] at h;exact h H'
    ·rw[e,ak] at h;obtain rfl:v=.int (z.1:Int):=hv;exact fin z.1 z.2 H3 R3 k3 h
   |false=>
    rw[hy] at h;exact qS (fin 1 y.2 _ R2 (Kp.refl _ _) h)
def z0(nm g wy tot:V):List (Str×V):=mV "total" tot (mV "ways" wy (mV "gain" g (mV "name" nm [])))
def K3(nm cs:V):List (Str×V):=mV "choices" cs (mV "name" nm [])
theorem Gi(nm g wy tot:V):(z0 nm g wy tot).lookup ("name":Str)=some nm:=by
 unfold z0;rw[jq,if_neg (by decide),jq,if_neg (by decide),jq,if_neg (by decide),jq,if_pos rfl]
theorem yE(nm g wy tot:V):(z0 nm g wy tot).lookup ("gain":Str)=some g:=by
 unfold z0;rw[jq,if_neg (by decide),jq,if_neg (by decide),jq,if_pos rfl]
theorem vp(nm g wy tot:V):(z0 nm g wy tot).lookup ("ways":Str)=some wy:=by
 unfold z0;rw[jq,if_neg (by decide),jq,if_pos rfl]
theorem p6(nm g wy tot:V):(z0 nm g wy tot).lookup ("total":Str)=some tot:=by
 unfold z0;rw[jq,if_pos rfl]
theorem Qc(nm g wy tot VT:V):mV "ways" VT (z0 nm g wy tot)=z0 nm g VT tot:=rfl
theorem Gj(nm cs:V):(K3 nm cs).lookup ("name":Str)=some nm:=by
 unfold K3;rw[jq,if_neg (by decide),jq,if_pos rfl]
theorem zN(nm cs:V):(K3 nm cs).lookup ("choices":Str)=some cs:=by
 unfold K3;rw[jq,if_pos rfl]
def BP(t:nF):Sp:=λ vs H Q _=>∃x dx nm g wy tot,vs=[.ref x,nm,g,wy,tot]/\H x=some (.ins t.jS dx [])/\Q .pZ (upd H x (.ins t.jS dx (z0 nm g wy tot)))
theorem vq(T:Txt K mg t):Ok P w K mg base 1 t.wA t.uV ["self","name","gain","ways","total"] (BP t):=by
 refine T.u4.fn.qD AW (λ vs H Q E h=>?_) λ cdv A outer s H vs Q E hr h=>?_
 ·obtain⟨x,dx,nm,g,wy,tot,rfl,_⟩:=h;rfl
 ·obtain⟨x,dx,nm,g,wy,tot,rfl,hx,h⟩:=h
  refine⟨_,jc (om (pv 0) (pv 1) rfl) (jc (om (pv 0) (pv 2) rfl) (jc (om (pv 0) (pv 3) rfl) (jg (om (pv 0) (pv 4) rfl)))),?_⟩;refine⟨_,rfl,_,rfl,x,_,dx,_,rfl,hx,T.jN.cl,T.rC,(by show 0<1000;decide),?_⟩;refine⟨_,rfl,_,rfl,x,_,dx,_,rfl,jb,T.jN.cl,T.oO,(by show 1<1000;decide),?_⟩;refine⟨_,rfl,_,rfl,x,_,dx,_,rfl,jb,T.jN.cl,T.lT,(by show 2<1000;decide),?_⟩;refine⟨_,rfl,_,rfl,x,_,dx,_,rfl,jb,T.jN.cl,T.lE,(by show 3<1000;decide),?_⟩;rw[jU,jU,jU];exact h
def CJ(t:nF):Sp:=λ vs H Q _=>∃x dx nm cs,vs=[.ref x,nm,cs]/\H x=some (.ins t.nu dx [])/\Q .pZ (upd H x (.ins t.nu dx (K3 nm cs)))
theorem CK(T:Txt K mg t):Ok P w K mg base 1 t.x8 t.wB ["self","name","choices"] (CJ t):=by
 refine T.A9.fn.qD CA (λ vs H Q E h=>?_) λ cdv A outer s H vs Q E hr h=>?_
 ·obtain⟨x,dx,nm,cs,rfl,_⟩:=h;rfl
 ·obtain⟨x,dx,nm,cs,rfl,hx,h⟩:=h
  refine⟨_,jc (om (pv 0) (pv 1) rfl) (jg (om (pv 0) (pv 2) rfl)),?_⟩;refine⟨_,rfl,_,rfl,x,_,dx,_,rfl,hx,T.tU.cl,T.tV,(by show 0<1000;decide),?_⟩;refine⟨_,rfl,_,rfl,x,_,dx,_,rfl,jb,T.tU.cl,T.pL,(by show 1<1000;decide),?_⟩;rw[jU];exact h
def BQ(t:nF):Sp:=λ vs H Q _=>∃x dx l,vs=[.ref x,.ref l]/\H x=some (.ins t.j7 dx [])/\Q .pZ (upd H x (.ins t.j7 dx (EW l 0)))
theorem BR(T:Txt K mg t):Ok P w K mg base 1 t.wu t.uT ["self","text"] (BQ t):=by
 refine T.zF.fn.qD AU (λ vs H Q E h=>?_) λ cdv A outer s H vs Q E hr h=>?_
 ·obtain⟨x,dx,l,rfl,_⟩:=h;rfl
 ·obtain⟨x,dx,l,rfl,hx,h⟩:=h
  refine⟨_,jc (om (pv 0) (pv 1) rfl) (jg (om (pv 0) jv rfl)),?_⟩;refine⟨_,rfl,_,rfl,x,_,dx,_,rfl,hx,T.jo.cl,T.m6,(by show 0<1000;decide),?_⟩;refine⟨_,rfl,x,_,dx,_,rfl,jb,T.jo.cl,T.jC,(by show 1<1000;decide),?_⟩;rw[jU];exact h
theorem p8{H:Hp}{x dx:Addr}{u v:HO}(h1:H x=none)(h2:H dx=none):jm H (upd (upd H dx u) x v):=λ b o e=>by
 rw[je (jh e h1),je (jh e h2)];exact e
theorem Ox{X:Cx}(K:ai)(e:X.K=K:=by rfl):Uk X (Um K):=e ▸ RK
theorem HL{X:Cx}(K:ai)(e:X.K=K:=by rfl):Uk X (Ul K):=e ▸ Im
def TK(H H':Hp):Prop:=∀b xs,H b=some (.tup xs)->H' b=some (.tup xs)
theorem TK.trans{H H1 H2:Hp}(a:TK H H1)(b:TK H1 H2):TK H H2:=λ c xs e=>b c xs (a c xs e)
theorem jm.tk{H H':Hp}(s:jm H H'):TK H H':=λ b xs e=>s b _ e
theorem TK.upd{H:Hp}{p:Addr}{o u:HO}(e:H p=some u)(h:∀xs,u≠.tup xs):TK H (upd H p o):=λ b xs q=>by
 rw[je (λ z=>by rw[z,e] at q;cases q;exact h xs rfl)];exact q
theorem Kp.tk{r dx:Addr}{C:Addr}{fs:List (Str×V)}{H H':Hp}(k:Kp r H H')(e:H r=some (.ins C dx fs)):TK H H':=λ b xs q=>k b _ (nK q e (by intro z;cases z)) q
structure xw(H:Hp)(as bn:List Addr)(ws:List (List Nat×Nat)):Prop where
 len:as.length=ws.length
 HM:bn.length=ws.length
 at_:∀(i:Nat) (x:List Nat×Nat),ws[i]? = some x->∃a b,as[i]? = some a/\bn[i]? = some b/\H a=some (.tup [.ref b,.int (x.2:Int)])/\H b=some (.tup (jL x.1))
theorem xw.tk{H H':Hp}{as bn:List Addr}{ws:List (List Nat×Nat)}(W:xw H as bn ws)(k:TK H H'):xw H' as bn ws:=⟨W.len,W.HM,λ i x e=>let ⟨a,b,h1,h2,h3,h4⟩:=W.at_ i x e;⟨a,b,h1,h2,k _ _ h3,k _ _ h4⟩⟩
theorem xw.one{H:Hp}{a b:Addr}{x:List Nat×Nat}(h1:H a=some (.tup [.ref b,.int (x.2:Int)]))(h2:H b=some (.tup (jL x.1))):xw H [a] [b] [x]:=
 ⟨rfl,rfl,λ i y e=>by
  cases i with
  |zero=>simp at e;subst e;exact⟨a,b,rfl,rfl,h1,h2⟩
  |succ i=>simp at e⟩
theorem xw.snoc{H:Hp}{as bn:List Addr}{ws:List (List Nat×Nat)}{a b:Addr}{x:List Nat×Nat}(W:xw H as bn ws)(h1:H a=some (.tup [.ref b,.int (x.2:Int)]))(h2:H b=some (.tup (jL x.1))):xw H (as++[a]) (bn++[b]) (ws++[x]):=
 ⟨by simp[W.len],by simp[W.HM],λ i y e=>by
  by_cases hi:i<ws.length
  ·rw[bL hi] at e;obtain⟨a',b',q1,q2,q3,q4⟩:=W.at_ i y e;exact⟨a',b',by rw[bL (by rw[W.len];exact hi)];exact q1,by rw[bL (by rw[W.HM];exact hi)];exact q2,q3,q4⟩
  ·have hi':i<ws.length+1:=by have:=(ao.mp e).1;simpa using this
   have:i=ws.length:=by omega
   subst this;rw[bX] at e
   cases e;exact⟨a,b,by rw[<-W.len,bX],by rw[<-W.HM,bX],h1,h2⟩⟩
def zn(w:List Nat):List Int:=w.map λ(n:Nat)=>(n:Int)
theorem vI(w:List Nat):jL w=(zn w).map V.int:=by unfold jL zn;rw[eF];rfl
theorem BS:∀{a b:List Nat},zn a=zn b->a=b
 |[],[],_=>rfl
 |[],_::_,h=>by simp[zn] at h
 |_::_,[],h=>by simp[zn] at h
 |x::a,y::b,h=>by
  have h':(x:Int)::zn a=(y:Int)::zn b:=h
  injection h' with h1 h2
  rw[Int.ofNat_inj.mp h1,BS h2]
theorem BU(l:List (List Nat)):(l.map zn).Nodup↔l.Nodup:=by
 rw[List.Nodup,cS]
 exact⟨λ z=>cT (λ h1 h2=>h1 (by rw[h2])) z,λ z=>cT (λ h1 h2=>h1 (BS h2)) z⟩
theorem xw.tups{H:Hp}{as bn:List Addr}{ws:List (List Nat×Nat)}(W:xw H as bn ws):pU K H bn ((ws.map λ w=>w.1).map zn):=
 ⟨by simp[W.HM],λ i a k e1 e2=>by
  rw[aj,aj] at e2
  cases e:ws[i]? with
  |none=>rw[e] at e2;cases e2
  |some x=>
   rw[e] at e2;have e2:some (zn x.1)=some k:=e2
   cases e2;obtain⟨a',b',q1,q2,q3,q4⟩:=W.at_ i x e;rw[e1] at q2
   cases q2;rw[<-vI];exact rH.of q4⟩
theorem EQ{H0 H:Hp}{l wl:Addr}{xs:List V}{o:HO}(h0:jE K H0 l xs)(hw:H0 wl=none)(h:jE K H l xs):jE K (upd H wl o) l xs:=by
 rcases h0 with h0 | h0
 ·have ne:l≠wl:=by
   rcases h0 with h0 | ⟨ob,h0⟩
   ·exact jh h0 hw
   ·exact jh h0 hw
  rcases h with (h | ⟨ob,h⟩) | h
  ·exact .inl (.inl (by rw[je ne];exact h))
  ·exact .inl (.inr ⟨ob,by rw[je ne];exact h⟩)
  ·exact .inr h
 ·exact .inr h0
def Yy(t:nF)(c:Ra61.RawChoice)(v:V)(H0 H:Hp):Prop:=∃a dx nm wy as bn,v=.ref a/\H a=some (.ins t.jS dx (z0 (.ref nm) (.int c.gain) (.ref wy) (.int (c.ways.map λ w=>(w.2:Int)).sum))) /\
 H nm=some (.tup (jL c.name))/\H wy=some (.lst (as.map V.ref))/\xw H as bn c.ways/\H0 a=none/\H0 wy=none
def BV{α:Type}(K:ai)(t:nF)(f:List Nat->Option (α×List Nat))(rep:α->V->Hp->Hp->Prop):Sp:=λ vs H Q E=>∃r dx l bs rest,vs=[.ref r]/\yw K t H r dx l bs rest/\(∀c∈bs,c<256) /\
 HJ (f rest) (∀H',E (.ref t.ju) none H') λ x=>x.2 <:+ bs/\∀v H',yw K t H' r dx l bs x.2->Kp r H H'->rep x.1 v H H'->Q v H'
theorem DV{α:Type}{f:List Nat->Option (α×List Nat)}{rep:α->V->Hp->Hp->Prop}{H:Hp}{r dx l:Addr}{bs rest:List Nat}{Q:VK}{E:XK}(R:yw K t H r dx l bs rest)(hb:∀c∈bs,c<256)
  (hn:f rest=none->∀H',E (.ref t.ju) none H') (hs:∀x,f rest=some x->x.2 <:+ bs/\∀v H',yw K t H' r dx l bs x.2->Kp r H H'->rep x.1 v H H'->Q v H'):BV K t f rep [.ref r] H Q E:=by
 refine⟨r,dx,l,bs,rest,rfl,R,hb,?_⟩
 cases e:f rest with
 |none=>exact hn e
 |some x=>exact hs x e
def Ci(H H':Hp):Prop:=∀b,H' b=none->H b=none
theorem Ci.refl(H:Hp):Ci H H:=λ _ e=>e
theorem Ci.trans{H H1 H2:Hp}(a:Ci H H1)(b:Ci H1 H2):Ci H H2:=λ c e=>a c (b c e)
theorem Kp.Cj{r:Addr}{H H':Hp}{o:HO}(k:Kp r H H')(e:H' r=some o):Ci H H':=λ b z=>by
 cases q:H b with
 |none=>rfl
 |some u=>
  by_cases hb:b=r
  ·rw[hb,e] at z;cases z
  ·rw[k b u hb q] at z;cases z
theorem jm.Cj{H H':Hp}(s:jm H H'):Ci H H':=λ b z=>by
 cases q:H b with
 |none=>rfl
 |some u=>rw[s b u q] at z;cases z
theorem yF{bs b:List Nat}{x}(s:b <:+ bs)(h:Rd.oW b=some x):x.2 <:+ bs:=by
 obtain⟨a,h1,h⟩:=Rd.bind_some h
 cases h1
 obtain⟨n,h3,h⟩:=Rd.bind_some h
 obtain⟨_,h⟩:=Rd.jl h
 cases h
 exact nX (jQ s) h3
theorem take_snoc{α:Type}{l:List α}{i:Nat}{x:α}(h:l[i]? = some x):l.take (i+1)=l.take i++[x]:=by rw[gC,h];rfl
theorem Xc{b:Addr}{n:Int}:Fe [V.ref b,V.int n] 0=some (.ref b):=rfl
theorem Ov{b:Addr}{n:Int}:Fe [V.ref b,V.int n] 1=some (.int n):=rfl
theorem BW(T:Txt K mg t)(kb:K.In base):Ok P w K mg base 6 t.vV t.uM ["reader"] (BV K t Rd.kR (Yy t)):=by
 refine T.zB.fn.qD kG (λ vs H Q E h=>?_) λ cdv A outer s H vs Q E hr h=>?_
 ·obtain⟨r,dx,l,bs,rest,rfl,_⟩:=h;rfl
 ·obtain⟨r,dx,l,bs,rest,rfl,R,hb,h⟩:=h
  have Jl:=hr.mono (show 4<=5 by decide);have hr2:=hr.mono (show 2<=5 by decide);have hr1:=hr.mono (show 1<=5 by decide);refine⟨_,jc (jD (i:=1) kG.nd rfl (Or.inl rfl) (lC T.jo T.lW (pY T kb) Jl (jA xl_of) (pv 0)))<|
   jc (jD (i:=2) kG.nd rfl (Or.inl rfl) (jI T.Dv (EO T kb) hr rfl (jA xl_of) (ja (pv 0) jd)))<|
   jc (jJ (jI T.mK (kg T kb) hr1 rfl (jA xl_of) (ja (rQ T.jo T.lu (oN T) Jl jF (pv 0) (ja (kh T.PF rfl) jd)) jd)))<|
   jc (jD (i:=3) kG.nd rfl (Or.inl rfl) (mh (ja (jI T.A4 (zM T kb) hr rfl (jA xl_of) (ja (pv 0) jd)) jd)))<|
   jc (mU mW (qb (rQ T.jo T.lu (oN T) Jl jF (pv 0) (ja (kh T.PD rfl) jd)))
    (jg (jJ (C4 bW cY cZ vC (pv 3) (ja (jI T.A4 (zM T kb) hr rfl (jA xl_of) (ja (pv 0) jd)) jd)))))<|
   jc (jJ (jI T.mK (kg T kb) hr1 rfl (jA xl_of) (ja (rQ T.jo T.lu (oN T) Jl jF (pv 0) (ja (kh T.FZ rfl) jd)) jd)))<|
   jc (jJ (jI T.mK (kg T kb) hr1 rfl (jA xl_of) (ja (jI T.tR (rE T) hr1 rfl jF (ja
     (pO (own:=[("way",4)]) rfl kG.nd (lH (pv 3)) (j5 rfl) (λ _ _ _ _ _=>j0 (i:=4) kG.nd rfl (Or.inl rfl)) (λ _ _ _ _ _=>kY) (λ _ _ _ _ _=>lZ (Ox K) (pv 4) jv (λ _ _=>rfl))) jd)) jd)))<|
   jg (jB (Dj T.jN T.u4 (vq T) hr2 rfl jF (ja (pv 1)<|ja (pv 2)<|ja (pv 3)<|ja (jX (Ma rfl) (by rfl) T.QY M8 (ja
     (pO (own:=[("way",4)]) rfl kG.nd (lH (pv 3)) (j5 rfl) (λ _ _ _ _ _=>j0 (i:=4) kG.nd rfl (Or.inl rfl)) (λ _ _ _ _ _=>kY) (λ _ _ _ _ _=>lZ (Ox K) (pv 4) jv (λ _ _=>rfl))) jd)) jd))),?_⟩
  rw[Rd.mX] at h;refine⟨_,rfl,r,dx,_,rfl,R.ins,yD,nW R hb (λ e H'=>?_) λ x e=>⟨lP R.yx e,λ v H1 R1 k1 hv=>?_⟩⟩
  ·rw[e] at h;exact h H'
  rw[e,ak] at h;have lx:=Rd.kF e;obtain⟨nm,rfl,hnm⟩:=hv;refine⟨_,rfl,nW R1 hb (λ e H'=>?_) λ g e=>⟨yF R1.yx e,λ v H2 R2 k2 hv=>?_⟩⟩
  ·rw[e] at h;exact h H'
  rw[e,ak] at h;have lg:=Rd.qH e;obtain rfl:v=.int g.1:=hv;refine⟨_,rfl,r,dx,_,rfl,R2.ins,yD,r,dx,l,bs,g.2,58,rfl,by decide,R2,hb,?_⟩;have s3:=jQ (m:=58) R2.yx;have l3:=Rd.jw 58 g.2;generalize Rd.passes 58 g.2=y at h s3 l3
  refine⟨_,rfl,?_⟩
  cases hy:y.1 with
  |false=>rw[hy] at h;exact qS (h _)
  |true=>
  rw[hy,if_pos rfl] at h;refine uA ?_;have R3:=R2.put s3;have WM:TK H1 (kN t H2 r dx l bs y.2):=(Kp.tk k2 R1.ins).trans (Kp.tk Kp.upd R2.ins);refine⟨_,rfl,nW R3 hb (λ e H'=>?_) λ w0 e=>⟨qR s3 e,λ v H4 R4 k4 hv=>?_⟩⟩
  ·rw[e] at h;exact h H'
  rw[e,ak] at h;have lw:=Rd.kT e;obtain⟨a0,b0,rfl,ha0,hb0⟩:=hv;have Vb:=R.yx.length_le;have hlen:=R.len;refine⟨(by show 1<=sizeLine;decide),λ wl hwl=>?_⟩;have Vc:=jj (o:=.lst [V.ref a0]) hwl;have tk5:TK H1 (upd H4 wl (.lst [V.ref a0])):=(WM.trans (Kp.tk k4 R3.ins)).trans (jm.tk Vc);refine⟨λ m σ H'=>∃(acc:List (List Nat×Nat)) (as bn:List Addr) (q:List Nat),(Rd.MW w0.2).map (λ z=>(w0.1::z.1,z.2))=(Rd.MW q).map (λ z=>(acc++z.1,z.2))/\2*acc.length+q.length<=65536/\m=q.length /\
   σ=[some (.ref r),some (.ref nm),some (.int g.1),some (.ref wl),none]/\yw K t H' r dx l bs q/\H' wl=some (.lst (as.map V.ref))/\xw H' as bn acc/\TK H1 H'/\(∀b o,b≠r->H b=some o->H' b=some o)/\H wl=none,
   ⟨_,[w0.1],[a0],[b0],w0.2,rfl,?_,rfl,rfl,R4.same Vc,jb,xw.one (Vc _ _ ha0) (Vc _ _ hb0),tk5,?_,?_⟩,?_⟩
  ·simp;omega
  ·intro b o Cm eb;exact Vc b o (k4 b o Cm (Kp.upd b o Cm (k2 b o Cm (k1 b o Cm eb))))
  ·cases q:H wl with
   |none=>rfl
   |some o=>
    have hne:wl≠r:=λ z=>by rw[z,R4.ins] at hwl;cases hwl
    rw[k4 wl o hne (Kp.upd wl o hne (k2 wl o hne (k1 wl o hne q)))] at hwl
    cases hwl
  rintro m σ H' ⟨acc,as,bn,q,inv,hq2,rfl,rfl,Rq,Xd,W,Yz,kq,hw0⟩;refine⟨_,rfl,r,dx,_,rfl,Rq.ins,yD,r,dx,l,bs,q,44,rfl,by decide,Rq,hb,_,rfl,?_⟩;have hmap:((Rd.MW w0.2).bind λ r=>if (Rd.passes 59 r.2).1=true then if ((w0.1::r.1).map λ w=>w.1).Nodup then some ((⟨x.1,g.1,w0.1::r.1⟩:Ra61.RawChoice),(Rd.passes 59 r.2).2) else none else none) =
    (Rd.MW q).bind λ r=>if (Rd.passes 59 r.2).1=true then if ((acc++r.1).map λ w=>w.1).Nodup then some ((⟨x.1,g.1,acc++r.1⟩:Ra61.RawChoice),(Rd.passes 59 r.2).2) else none else none:=by
   have:=congrArg (λ o:Option (List (List Nat×Nat)×List Nat)=>o.bind λ r=>if (Rd.passes 59 r.2).1=true then if (r.1.map λ w=>w.1).Nodup then some ((⟨x.1,g.1,r.1⟩:Ra61.RawChoice),(Rd.passes 59 r.2).2) else none else none) inv;simp only[Option.bind_map] at this
   exact this
  rw[hmap,Rd.xO] at h;have sq:=jQ (m:=44) Rq.yx;have lq:=Rd.jw 44 q;have YA:=Rd.vE (m:=44) (b:=q) (by decide);have hstep:=Rd.xO q;generalize Rd.passes 44 q=y2 at h sq lq YA hstep
  have R6:=Rq.put sq;have tk6:TK H' (kN t H' r dx l bs y2.2):=Kp.tk Kp.upd Rq.ins;have hwr:wl≠r:=nK Xd Rq.ins (by intro z;cases z);have YB:kN t H' r dx l bs y2.2 wl=some (.lst (as.map V.ref)):=by unfold kN;rw[je hwr];exact Xd
  cases Lu:y2.1 with
  |true=>
   rw[Lu,if_pos rfl] at h hstep;refine uA ⟨λ σ H7=>∃(q7:List Nat) (x7:List Nat×Nat) (a7 b7:Addr),(Rd.MW w0.2).map (λ z=>(w0.1::z.1,z.2))=(Rd.MW q7).map (λ z=>((acc++[x7])++z.1,z.2))/\q7.length<q.length/\2*(acc++[x7]).length+q7.length<=65536 /\
    σ=[some (.ref r),some (.ref nm),some (.int g.1),some (.ref wl),none]/\yw K t H7 r dx l bs q7/\H7 wl=some (.lst ((as++[a7]).map V.ref))/\xw H7 (as++[a7]) (bn++[b7]) (acc++[x7])/\TK H1 H7/\(∀b o,b≠r->H b=some o->H7 b=some o),?_,?_⟩
   ·rintro σ7 H7 ⟨q7,x7,a7,b7,i1,i2,i3,rfl,i5,i6,i7,i8,i9⟩;exact⟨_,i2,acc++[x7],as++[a7],bn++[b7],q7,i1,i3,rfl,rfl,i5,i6,i7,i8,i9,hw0⟩
   ·refine⟨_,rfl,.inl ⟨rfl,_,jE.of YB⟩,?_⟩;refine⟨_,rfl,nW R6 hb (λ e H'=>?_) λ x7 e=>⟨qR sq e,λ v H7 R7 k7 hv=>?_⟩⟩
    ·rw[e] at h;exact h H'
    obtain⟨a7,b7,rfl,ha7,hb7⟩:=hv;have Qe:H7 wl=some (.lst (as.map V.ref)):=k7 wl _ hwr YB;have Tv:TK H' H7:=tk6.trans (Kp.tk k7 R6.ins);have l7:=Rd.kT e;have l8:=YA Lu;have hasl:as.length<=65536:=by rw[W.len];omega
    refine⟨wl,_,_,rfl,rfl,Qe,?_,?_⟩
    ·rw[ah,sizeLine_eq];omega
    have YC:TK H7 (upd H7 wl (.lst (as.map V.ref++[.ref a7]))):=TK.upd Qe (by intro xs z;cases z);refine⟨x7.2,x7.1,a7,b7,?_,by omega,by simp;omega,rfl,?_,?_,?_,(Yz.trans Tv).trans YC,?_⟩
    ·rw[inv,hstep,e,ak,iC]
     congr 1;funext z;simp
    ·exact⟨by rw[je hwr.symm];exact R7.ins,EQ R.txt hw0 R7.txt,R7.yx,R7.len⟩
    ·rw[jb,bu];rfl
    ·exact ((W.tk Tv).snoc ha7 hb7).tk YC
    ·intro b o Cm eb;rw[je (jh eb hw0)];exact k7 b o Cm (Kp.upd b o Cm (kq b o Cm eb))
  |false=>
   rw[Lu] at h;simp only[aJ,if_false,ak,cQ] at h
   refine qS ?_;refine⟨_,rfl,r,dx,_,rfl,R6.ins,yD,r,dx,l,bs,y2.2,59,rfl,by decide,R6,hb,?_⟩;have s7:=jQ (m:=59) R6.yx;generalize Rd.passes 59 y2.2=y3 at h s7
   refine⟨_,rfl,?_⟩
   cases YD:y3.1 with
   |false=>rw[YD] at h;exact qS (h _)
   |true=>
   rw[YD,if_pos rfl] at h;refine uA ?_;have R7:=R6.put s7;rw[pB] at R7;rw[pB];have Tv:TK H' (kN t H' r dx l bs y3.2):=Kp.tk Kp.upd Rq.ins;have Qe:kN t H' r dx l bs y3.2 wl=some (.lst (as.map V.ref)):=by unfold kN;rw[je hwr];exact Xd
   have W7:=W.tk Tv;generalize hHc:kN t H' r dx l bs y3.2=Hc at R7 Tv Qe W7
   have kc:∀b o,b≠r->H b=some o->Hc b=some o:=λ b o Cm eb=>by rw[<-hHc];exact Kp.upd b o Cm (kq b o Cm eb)
   have acl:acc.length<=32768:=by omega
   refine⟨_,rfl,wl,rfl,⟨_,jE.of Qe⟩,λ D hD=>mR (K:=K) (a:=wl) (xs:=as.map V.ref) (λ i H8=>H8=upd Hc D (.lst ((bn.map V.ref).take i))) rfl (λ i H8 _ e8=>by rw[e8];exact jE.of (by rw[je (jh Qe hD)];exact Qe)) ?_ ?_⟩
   ·rintro i v H8 hi rfl;rw[aj] at hi;obtain⟨ha,ea⟩:∃a,as[i]? = some a:=by
     cases ea:as[i]? with
     |none=>rw[ea] at hi;cases hi
     |some a=>exact⟨a,rfl⟩
    rw[ea] at hi
    cases hi;have hil:i<acc.length:=by rw[<-W7.len];exact (ao.mp ea).1
    obtain⟨a',b',q1,q2,q3,q4⟩:=W7.at_ i acc[i] (af hil);rw[ea] at q1
    cases q1;refine⟨rfl,?_⟩;refine⟨_,rfl,ha,_,_,_,rfl,rfl,rH.of (by rw[je (jh q3 hD)];exact q3),Xc,(bn.map V.ref).take i,jb,?_,?_⟩
    ·rw[aX,sizeLine_eq];have:=W7.HM;simp;omega
    ·rw[jU,take_snoc (l:=bn.map V.ref) (x:=V.ref b') (by rw[aj,q2];rfl)]
   ·rintro H8 rfl;rw[ah,show (bn.map V.ref).take as.length=bn.map V.ref from aA (by rw[ah,W7.HM,W7.len];exact aq _)];have ER:=jj (o:=.lst (bn.map V.ref)) hD;refine⟨D,bn,_,rfl,jE.of jb,(W7.tk (jm.tk ER)).tups,by simp;exact acl,λ H9 Qg=>?_⟩;refine⟨_,rfl,?_⟩;have end_:decide (((acc.map λ w=>w.1).map zn).Nodup)=decide ((acc.map λ w=>w.1).Nodup):=by
     rw[aT,decide_eq_true_eq,decide_eq_true_eq];exact BU _
    by_cases nd:(acc.map λ w=>w.1).Nodup
    case neg=>rw[if_neg nd] at h;exact sX (end_.trans (decide_eq_false nd)) (h _)
    rw[if_pos nd] at h;refine tW (end_.trans (decide_eq_true nd)) ?_;have sm:=ER.trans Qg;have Xe:=sm _ _ Qe;have W9:=W7.tk (jm.tk sm);refine⟨_,rfl,_,rfl,_,rfl,_,rfl,wl,rfl,⟨_,jE.of Xe⟩,λ D2 Lv=>mR (K:=K) (a:=wl) (xs:=as.map V.ref) (λ i QO=>QO=upd H9 D2 (.lst (((acc.map λ w=>(w.2:Int)).map V.int).take i))) rfl (λ i QO _ U8=>by rw[U8];exact jE.of (by rw[je (jh Xe Lv)];exact Xe)) ?_ ?_⟩
    ·rintro i v QO hi rfl;rw[aj] at hi;obtain⟨ha,ea⟩:∃a,as[i]? = some a:=by
      cases ea:as[i]? with
      |none=>rw[ea] at hi;cases hi
      |some a=>exact⟨a,rfl⟩
     rw[ea] at hi
     cases hi;have hil:i<acc.length:=by rw[<-W9.len];exact (ao.mp ea).1
     obtain⟨a',b',q1,q2,q3,q4⟩:=W9.at_ i acc[i] (af hil);rw[ea] at q1
     cases q1;refine⟨rfl,?_⟩;refine⟨_,rfl,ha,_,_,_,rfl,rfl,rH.of (by rw[je (jh q3 Lv)];exact q3),Ov,_,jb,?_,?_⟩
     ·rw[aX,sizeLine_eq];simp;omega
     ·rw[jU,take_snoc (l:=(acc.map λ w=>(w.2:Int)).map V.int) (x:=V.int ((acc[i]).2:Int)) (by rw[aj,aj,af hil];rfl)]
    ·rintro QO rfl;rw[ah,show ((acc.map λ w=>(w.2:Int)).map V.int).take as.length=(acc.map λ w=>(w.2:Int)).map V.int from aA (by rw[ah,ah,W9.len];exact aq _)];have Vd:=jj (o:=.lst ((acc.map λ w=>(w.2:Int)).map V.int)) Lv;refine⟨D2,_,rfl,jE.of jb,?_⟩;intro c dc hc hdc hne;refine⟨c,dc,_,_,_,_,rfl,jb,rfl,?_⟩;rw[jU];have BX:=(sm.trans Vd).trans (p8 (u:=.own c) (v:=.ins t.jS dc (z0 (.ref nm) (.int g.1) (.ref wl) (.int (acc.map λ w=>(w.2:Int)).sum))) hc hdc);refine h.2 _ _ (R7.same BX) (λ b o Cm eb=>BX b o (kc b o Cm eb)) ⟨c,dc,nm,wl,as,bn,rfl,jb,?_,BX _ _ Qe,W7.tk (jm.tk BX),?_,hw0⟩
     ·exact (jm.tk BX) _ _ (Tv _ _ (Yz _ _ hnm))
     ·exact (Kp.Cj kc R7.ins) c ((jm.Cj (sm.trans Vd)) c hc)
theorem yG{H:Hp}:∀k:List Int,Az K H (k.map V.int) (k.map PyData.int)
 |[]=>.nil
 |i::k=>.cons (.int i) (yG k)
theorem lay_ints:∀k:List Int,PyData.canLayAll0 (k.map PyData.int)=true
 |[]=>by rw[bQ,PyData.canLayAll0]
 |i::k=>by rw[aU,PyData.canLayAll0,lay_ints k,PyData.canLay0];rfl
theorem xx:∀k:List Int,PyData.depthAll (k.map PyData.int)=0
 |[]=>by rw[bQ,PyData.depthAll]
 |i::k=>by rw[aU,PyData.depthAll,xx k,PyData.depth];rfl;all_goals (intros;simp)
theorem shaped_ints(k:List Int):SeqAt.shaped (.tuple (k.map PyData.int))=true:=by
 unfold SeqAt.shaped
 rw[PyData.canLay0,PyData.depth,lay_ints,xx];rfl
theorem BY:∀k m:List Int,PyData.eqvAll (k.map PyData.int) (m.map PyData.int)=decide (k=m)
 |[],[]=>by simp[PyData.eqvAll]
 |[],_::_=>by simp[PyData.eqvAll]
 |_::_,[]=>by simp[PyData.eqvAll]
 |i::k,j::m=>by
  rw[aU,aU,PyData.eqvAll,BY k m,PyData.eqv,aT];simp
def Xf(K:ai):R2:=λ x y H Q=>∃(a b:Addr) (k m:List Int),x=.ref a/\y=.ref b/\rH K H a (k.map V.int)/\rH K H b (m.map V.int)/\Q (.bl (decide (k=m))) H
theorem SD{X:Cx}(K:ai)(hu:X.A.units+64<cLine)(e:X.K=K:=by rfl):vB X (compareOp .Eq) (Xf K):=by
 subst e
 intro pins s σ H x y v u Q I rx ry h
 obtain⟨a,b,k,m,rfl,rfl,ha,hb,q⟩:=h
 refine Mb hu pins s σ H _ _ v u Q I rx ry ⟨_,_,.tup ha (yG k),.tup hb (yG m),shaped_ints k,shaped_ints m,?_⟩
 rw[PyData.eqv,BY];exact q
theorem jR{X:Cx}{e:Expr}{f:Str}{pos:Pos}{ta:TE}(K:ai)(he:PE X e ta)(hb:attributeBase e f X.env (eval e X.env)=eval e X.env)(eK:X.K=K:=by rfl):PE X (.Attribute e f pos) (LW K ta f):=eK ▸ nA he hb
structure Ea{α:Type}(R:α->Addr->Prop)(as:List Addr)(xs:List α):Prop where
 len:as.length=xs.length
 at_:∀(i:Nat) (x:α),xs[i]? = some x->∃a,as[i]? = some a/\R x a
theorem Ea.mono{α:Type}{R S:α->Addr->Prop}{as:List Addr}{xs:List α}(E:Ea R as xs)(h:∀x a,R x a->S x a):Ea S as xs:=
 ⟨E.len,λ i x e=>let ⟨a,e1,e2⟩:=E.at_ i x e;⟨a,e1,h x a e2⟩⟩
theorem Ea.nil{α:Type}{R:α->Addr->Prop}:Ea R [] []:=⟨rfl,λ i x e=>by simp at e⟩
theorem Ea.snoc{α:Type}{R:α->Addr->Prop}{as:List Addr}{xs:List α}{a:Addr}{x:α}(E:Ea R as xs)(h:R x a):Ea R (as++[a]) (xs++[x]):=
 ⟨by simp[E.len],λ i y e=>by
  by_cases hi:i<xs.length
  ·rw[bL hi] at e;obtain⟨a',q1,q2⟩:=E.at_ i y e;exact⟨a',by rw[bL (by rw[E.len];exact hi)];exact q1,q2⟩
  ·have hi':i<xs.length+1:=by have:=(ao.mp e).1;simpa using this
   obtain rfl:i=xs.length:=by omega
   rw[bX] at e
   cases e;exact⟨a,by rw[<-E.len,bX],h⟩⟩
theorem Ea.get{α:Type}{R:α->Addr->Prop}{as:List Addr}{xs:List α}(E:Ea R as xs){i:Nat}{a:Addr}(h:as[i]? = some a):∃x,xs[i]? = some x/\R x a:=by
 have hi:i<xs.length:=by rw[<-E.len];exact (ao.mp h).1
 obtain⟨a',e1,e2⟩:=E.at_ i _ (af hi)
 rw[h] at e1
 cases e1
 exact⟨_,af hi,e2⟩
theorem lY{as:List Addr}{i:Nat}{v:V}(h:(as.map V.ref)[i]? = some v):∃a,as[i]? = some a/\v=.ref a:=by
 rw[aj] at h
 cases e:as[i]? with
 |none=>rw[e] at h;cases h
 |some a=>rw[e] at h;cases h;exact⟨a,rfl,rfl⟩
abbrev DW(t:nF)(H0 H:Hp)(c:Ra61.RawChoice)(a:Addr):Prop:=Yy t c (.ref a) H0 H
theorem DW.kp{H0 H H':Hp}{c:Ra61.RawChoice}{a p:Addr}{o u:HO}(h:DW t H0 H c a)(hp:H0 p=some o)(hq:H p=some u)(hu:∀xs,u≠.tup xs)(k:Kp p H H'):DW t H0 H' c a:=by
 obtain⟨a',dx,nm,wy,as,bn,e,h1,h2,h3,h4,h5,h6⟩:=h
 have tk:TK H H':=λ b xs q=>k b _ (λ z=>by rw[z,hq] at q;cases q;exact hu xs rfl) q
 exact⟨a',dx,nm,wy,as,bn,e,k _ _ (λ z=>by rw[z,hp] at h5;cases h5) h1,tk _ _ h2,k _ _ (λ z=>by rw[z,hp] at h6;cases h6) h3,h4.tk tk,h5,h6⟩
theorem DW.same{H0 H H':Hp}{c:Ra61.RawChoice}{a:Addr}(h:DW t H0 H c a)(s:jm H H'):DW t H0 H' c a:=by
 obtain⟨a',dx,nm,wy,as,bn,e,h1,h2,h3,h4,h5,h6⟩:=h
 exact⟨a',dx,nm,wy,as,bn,e,s _ _ h1,s _ _ h2,s _ _ h3,h4.tk (jm.tk s),h5,h6⟩
theorem DW.Cj{H0 Ve H:Hp}{c:Ra61.RawChoice}{a:Addr}(h:DW t H0 H c a)(s:Ci Ve H0):DW t Ve H c a:=by
 obtain⟨a',dx,nm,wy,as,bn,e,h1,h2,h3,h4,h5,h6⟩:=h
 exact⟨a',dx,nm,wy,as,bn,e,h1,h2,h3,h4,s _ h5,s _ h6⟩
def GN(t:nF)(H0 H:Hp)(s:Ra61.RawState)(a cl:Addr)(nM:List Addr):Prop:=∃dx nm,H a=some (.ins t.nu dx (K3 (.ref nm) (.ref cl)))/\H nm=some (.tup (jL s.name))/\H cl=some (.lst (nM.map V.ref)) /\
 Ea (DW t H0 H) nM s.choices/\nM.Nodup/\H0 a=none/\H0 cl=none
def StI(t:nF)(s:Ra61.RawState)(v:V)(H0 H:Hp):Prop:=∃a cl nM,v=.ref a/\GN t H0 H s a cl nM
theorem BZ{b:List Nat}{x}(h:Rd.kR b=some x):x.2.length+2<=b.length:=by
 rw[Rd.mX] at h
 obtain⟨a,h1,h⟩:=Rd.bind_some h
 obtain⟨g,h2,h⟩:=Rd.bind_some h
 obtain⟨_,h⟩:=Rd.jl h
 obtain⟨y,h4,h⟩:=Rd.bind_some h
 obtain⟨r,h5,h⟩:=Rd.bind_some h
 obtain⟨_,h⟩:=Rd.jl h
 obtain⟨_,h⟩:=Rd.jl h
 cases h
 have:=Rd.kF h1;have:=Rd.qH h2;have:=Rd.jw 58 g.2;have:=Rd.kT h4;have:=Rd.uF h5;have:=Rd.jw 59 r.2
 simp only;omega
theorem vt{bs b:List Nat}{x}(s:b <:+ bs)(h:Rd.kR b=some x):x.2 <:+ bs:=by
 rw[Rd.mX] at h
 obtain⟨a,h1,h⟩:=Rd.bind_some h
 obtain⟨g,h2,h⟩:=Rd.bind_some h
 obtain⟨_,h⟩:=Rd.jl h
 obtain⟨y,h4,h⟩:=Rd.bind_some h
 obtain⟨r,h5,h⟩:=Rd.bind_some h
 obtain⟨_,h⟩:=Rd.jl h
 obtain⟨_,h⟩:=Rd.jl h
 cases h
 have s2:=qR (jQ (m:=58) (yF (lP s h1) h2)) h4
 refine jQ ?_
 clear h1 h2 h4
 generalize y.2=q at h5 s2
 have:∀(n:Nat) (q:List Nat),q.length<n->q <:+ bs->∀r,Rd.MW q=some r->r.2 <:+ bs:=by
  intro n
  induction n with
  |zero=>intro q h;omega
  |succ n ih=>
   intro q hq sq r e;rw[Rd.xO] at e;have hp:=Rd.jw 44 q
   split at e
   ·rename_i hx
    have hl:=Rd.vE (m:=44) (by decide) hx;obtain⟨w,e1,e⟩:=Rd.bind_some e;obtain⟨z,e2,rfl⟩:=Rd.map_some e;have:=Rd.kT e1;exact ih w.2 (by omega) (qR (jQ sq) e1) z e2
   ·cases e;exact jQ sq
 exact this _ q (aD _) s2 r h5
theorem CL(T:Txt K mg t):wW mg "STATE_WORD" (.ref t.pV):=⟨_,T.Ex,rfl⟩
theorem Jm{k:List Nat}:decide (zn k=([115,116,97,116,101]:List Int))=decide (k=[115,116,97,116,101]):=by
 rw[aT,decide_eq_true_eq,decide_eq_true_eq]
 exact⟨λ z=>BS z,λ z=>by rw[z];rfl⟩
theorem NJ{H0 H:Hp}{nM:List Addr}{acc:List Ra61.RawChoice}(W:Ea (DW t H0 H) nM acc):∃nms:List Addr,nms.length=acc.length/\∀(i:Nat) (c:Ra61.RawChoice),acc[i]? = some c->∃a dx wy n,nM[i]? = some a/\nms[i]? = some n/\H a=some (.ins t.jS dx (z0 (.ref n) (.int c.gain) (.ref wy) (.int (c.ways.map λ w=>(w.2:Int)).sum)))/\H n=some (.tup (jL c.name)):=by
 have key:∀i:Fin acc.length,∃n,∃a dx wy,nM[i.1]? = some a/\H a=some (.ins t.jS dx (z0 (.ref n) (.int (acc[i.1]).gain) (.ref wy) (.int ((acc[i.1]).ways.map λ w=>(w.2:Int)).sum)))/\H n=some (.tup (jL (acc[i.1]).name)):=λ i=>by
  obtain⟨a,e,a',dx,nm,wy,as,bn,e2,h1,h2,_⟩:=W.at_ i.1 _ (af i.2)
  cases e2;exact⟨nm,a,dx,wy,e,h1,h2⟩
 refine⟨List.ofFn λ i:Fin acc.length=>gR (key i),by simp,λ i c e=>?_⟩
 obtain⟨hi,rfl⟩:=ao.mp e
 obtain⟨a,dx,wy,q1,q2,q3⟩:=fG (key ⟨i,hi⟩)
 exact⟨a,dx,wy,_,q1,by rw[List.getElem?_ofFn];simp[hi],q2,q3⟩
theorem CM(T:Txt K mg t)(kb:K.In base):Ok P w K mg base 7 t.xV t.vW ["reader"] (BV K t Rd.readState (StI t)):=by
 refine T.A5.fn.qD mY (λ vs H Q E h=>?_) λ cdv A outer s H vs Q E hr h=>?_
 ·obtain⟨r,dx,l,bs,rest,rfl,_⟩:=h;rfl
 ·obtain⟨r,dx,l,bs,rest,rfl,R,hb,h⟩:=h
  have Jl:=hr.mono (show 4<=6 by decide);have hr2:=hr.mono (show 2<=6 by decide);have hr1:=hr.mono (show 1<=6 by decide);refine⟨_,jc (jJ (jI T.mK (kg T kb) hr1 rfl (jA xl_of) (ja (nO (SD K hr.units) (lC T.jo T.lW (pY T kb) Jl (jA xl_of) (pv 0)) (kh (CL T) rfl) (kC _)) jd)))<|
   jc (jD (i:=1) mY.nd rfl (Or.inl rfl) (lC T.jo T.lW (pY T kb) Jl (jA xl_of) (pv 0)))<|
   jc (jJ (jI T.mK (kg T kb) hr1 rfl (jA xl_of) (ja (rQ T.jo T.lu (oN T) Jl jF (pv 0) (ja (kh T.Ew rfl) jd)) jd)))<|
   jc (jD (i:=2) mY.nd rfl (Or.inl rfl) (mh jd))<|
   jc (mU mW (Al (qb (rQ T.jo T.lu (oN T) Jl jF (pv 0) (ja (kh T.CF rfl) jd))))
    (jg (jJ (C4 bW cY cZ vC (pv 2) (ja (jI T.zB (BW T kb) hr rfl (jA xl_of) (ja (pv 0) jd)) jd)))))<|
   jc (jJ (jI T.mK (kg T kb) hr1 rfl (jA xl_of) (ja (nO nN (jX jK (by rfl) T.qx nH (ja (pv 2) jd)) (kh T.Bc rfl) (kC _)) jd)))<|
   jc (jJ (jI T.mK (kg T kb) hr1 rfl (jA xl_of) (ja (jI T.tR (rE T) hr1 rfl jF (ja
     (pO (own:=[("choice",3)]) rfl mY.nd (lH (pv 2)) (j5 rfl) (λ _ _ _ _ _=>j0 (i:=3) mY.nd rfl (Or.inl rfl)) (λ _ _ _ _ _=>kY) (λ _ _ _ _ _=>jR K (pv 3) rfl)) jd)) jd)))<|
   jg (jB (Dj T.tU T.A9 (CK T) hr2 rfl jF (ja (pv 1)<|ja (pv 2)<|jd))),?_⟩
  rw[Rd.nQ] at h;refine⟨_,rfl,r,dx,_,rfl,R.ins,yD,nW R hb (λ e H'=>?_) λ x e=>⟨lP R.yx e,λ v H1 R1 k1 hv=>?_⟩⟩
  ·rw[e] at h;exact h H'
  rw[e,ak] at h;have lx:=Rd.kF e;obtain⟨sw,rfl,hsw⟩:=hv;refine⟨sw,t.pV,zn x.1,_,rfl,rfl,rH.of (by rw[<-vI];exact hsw),T.Ey _,_,rfl,?_⟩
  by_cases hx:x.1=[115,116,97,116,101]
  case neg=>rw[if_neg hx] at h;exact sX (Jm.trans (decide_eq_false hx)) (h _)
  rw[if_pos hx] at h;refine tW (Jm.trans (decide_eq_true hx)) ?_;refine⟨_,rfl,r,dx,_,rfl,R1.ins,yD,nW R1 hb (λ e H'=>?_) λ y e=>⟨lP R1.yx e,λ v H2 R2 k2 hv=>?_⟩⟩
  ·rw[e] at h;exact h H'
  rw[e,ak] at h;have ly:=Rd.kF e;obtain⟨nm,rfl,hnm⟩:=hv;refine⟨_,rfl,r,dx,_,rfl,R2.ins,yD,r,dx,l,bs,y.2,123,rfl,by decide,R2,hb,?_⟩;have s3:=jQ (m:=123) R2.yx;have l3:=Rd.jw 123 y.2;generalize Rd.passes 123 y.2=z at h s3 l3
  refine⟨_,rfl,?_⟩
  cases hz:z.1 with
  |false=>rw[hz] at h;exact qS (h _)
  |true=>
  rw[hz,if_pos rfl] at h;refine uA ?_;have R3:=R2.put s3;have Vb:=R.yx.length_le;have hlen:=R.len;have k3:Kp r H (kN t H2 r dx l bs z.2):=(k1.trans k2).trans Kp.upd;have Vf:kN t H2 r dx l bs z.2 nm=some (.tup (jL y.1)):=Kp.tk Kp.upd R2.ins _ _ hnm;generalize kN t H2 r dx l bs z.2=H3 at R3 k3 Vf
  refine⟨(by show 0<=sizeLine;decide),λ cl hcl=>?_⟩;have Xg:=jj (o:=.lst []) hcl;have SE:H cl=none:=Kp.Cj k3 R3.ins cl hcl;have R4:=R3.same Xg;have k4:Kp r H (upd H3 cl (.lst [])):=k3.trans (Kp.of Xg);have Vg:=Xg _ _ Vf;have SG:upd H3 cl (.lst []) cl=some (.lst []):=jb;show JC _ _ _ _ (upd H3 cl (.lst []));generalize upd H3 cl (.lst [])=H4 at R4 k4 Vg SG
  refine⟨λ m σ H'=>∃(acc:List Ra61.RawChoice) (nM:List Addr) (q:List Nat),Rd.MC z.2=(Rd.MC q).map (λ u=>(acc++u.1,u.2))/\2*acc.length+q.length<=65536/\m=q.length /\
   σ=[some (.ref r),some (.ref nm),some (.ref cl),none]/\yw K t H' r dx l bs q/\H' cl=some (.lst (nM.map V.ref))/\Ea (DW t H4 H') nM acc/\nM.Nodup/\(∀b o,b≠r->H b=some o->H' b=some o)/\H' nm=some (.tup (jL y.1))/\Ci H4 H'/\(∀a∈nM,∃o,H' a=some o),
   ⟨_,[],[],z.2,?_,?_,rfl,rfl,R4,SG,Ea.nil,iA,k4,Vg,Ci.refl _,by simp⟩,?_⟩
  ·simp
  ·simp;omega
  rintro m σ H' ⟨acc,nM,q,inv,hq2,rfl,rfl,Rq,YE,W,nd,kq,hnq,lq4,onq⟩;refine⟨_,rfl,r,dx,_,rfl,Rq.ins,yD,r,dx,l,bs,q,125,rfl,by decide,Rq,hb,_,rfl,?_⟩;have hmap:((Rd.MC z.2).bind λ c=>if c.1.length<=8 then if (c.1.map λ c=>c.name).Nodup then some ((⟨y.1,c.1⟩:Ra61.RawState),c.2) else none else none) =
    (Rd.MC q).bind λ c=>if (acc++c.1).length<=8 then if ((acc++c.1).map λ c=>c.name).Nodup then some ((⟨y.1,acc++c.1⟩:Ra61.RawState),c.2) else none else none:=by
   rw[inv];simp only[Option.bind_map];rfl
  rw[hmap,Rd.xP] at h;have sq:=jQ (m:=125) Rq.yx;have lq:=Rd.jw 125 q;have hstep:=Rd.xP q;generalize Rd.passes 125 q=y2 at h sq lq hstep
  have R6:=Rq.put sq;have Xh:cl≠r:=nK YE Rq.ins (by intro z;cases z);have hc6:kN t H' r dx l bs y2.2 cl=some (.lst (nM.map V.ref)):=by unfold kN;rw[je Xh];exact YE
  have W6:Ea (DW t H4 (kN t H' r dx l bs y2.2)) nM acc:=W.mono λ x a h=>h.kp R4.ins Rq.ins (by intro xs z;cases z) Kp.upd
  have k6:Kp r H' (kN t H' r dx l bs y2.2):=Kp.upd;have Xi:kN t H' r dx l bs y2.2 nm=some (.tup (jL y.1)):=Kp.tk k6 Rq.ins _ _ hnq;have Vh:Ci H' (kN t H' r dx l bs y2.2):=Kp.Cj k6 R6.ins;have Xj:∀a∈nM,∃o,kN t H' r dx l bs y2.2 a=some o:=λ a ha=>by
   by_cases z:a=r
   ·exact⟨_,by rw[z];exact R6.ins⟩
   ·obtain⟨o,eo⟩:=onq a ha;exact⟨o,k6 _ _ z eo⟩
  generalize kN t H' r dx l bs y2.2=H6 at R6 hc6 W6 k6 Xi Vh Xj
  cases Lu:y2.1 with
  |false=>
   rw[Lu] at h hstep;simp only[aJ,if_false] at h hstep
   refine⟨λ σ H7=>∃(q7:List Nat) (x7:Ra61.RawChoice) (a7:Addr),Rd.MC z.2=(Rd.MC q7).map (λ u=>((acc++[x7])++u.1,u.2))/\q7.length<q.length/\2*(acc++[x7]).length+q7.length<=65536 /\
    σ=[some (.ref r),some (.ref nm),some (.ref cl),none]/\yw K t H7 r dx l bs q7/\H7 cl=some (.lst ((nM++[a7]).map V.ref))/\Ea (DW t H4 H7) (nM++[a7]) (acc++[x7])/\(nM++[a7]).Nodup/\(∀b o,b≠r->H b=some o->H7 b=some o)/\H7 nm=some (.tup (jL y.1))/\Ci H4 H7/\(∀a∈nM++[a7],∃o,H7 a=some o),?_,?_⟩
   ·rintro σ7 H7 ⟨q7,x7,a7,i1,i2,i3,rfl,i5,i6,i7,i8,i9,Xk,i11,i12⟩;exact⟨_,i2,acc++[x7],nM++[a7],q7,i1,i3,rfl,rfl,i5,i6,i7,i8,i9,Xk,i11,i12⟩
   ·refine⟨_,rfl,.inl ⟨rfl,_,jE.of hc6⟩,?_⟩;refine⟨_,rfl,DV R6 hb (λ e H'=>?_) λ x7 e=>⟨vt sq e,λ v H7 R7 k7 hv=>?_⟩⟩
    ·rw[e] at h;exact h H'
    have l7:x7.2.length+2<=y2.2.length:=BZ e;obtain⟨a7,dx7,nm7,wy7,as7,bn7,rfl,hch⟩:=hv;have Xl:H7 cl=some (.lst (nM.map V.ref)):=k7 cl _ Xh hc6;have YF:nM.length<=65536:=by rw[W.len];omega
    have Xm:DW t H6 H7 x7.1 a7:=⟨a7,dx7,nm7,wy7,as7,bn7,rfl,hch⟩
    have Vi:Ci H4 H6:=lq4.trans Vh;refine⟨cl,_,_,rfl,rfl,Xl,?_,?_⟩
    ·rw[ah,sizeLine_eq];omega
    have k8:Kp cl H7 (upd H7 cl (.lst (nM.map V.ref++[.ref a7]))):=Kp.upd;have Xn:Ci H7 (upd H7 cl (.lst (nM.map V.ref++[.ref a7]))):=Kp.Cj k8 jb;have SH:Ea (DW t H4 H7) (nM++[a7]) (acc++[x7.1]):=Ea.snoc (W6.mono λ x a h=>h.kp R4.ins R6.ins (by intro xs z;cases z) k7) (Xm.Cj Vi);refine⟨x7.2,x7.1,a7,?_,by omega,by simp;omega,rfl,?_,?_,SH.mono λ x a h=>h.kp SG Xl (by intro xs z;cases z) k8,?_,?_,?_,(Vi.trans (Kp.Cj k7 R7.ins)).trans Xn,?_⟩
    ·rw[inv,hstep,e,ak,iC]
     congr 1;funext z;simp
    ·exact⟨by rw[je Xh.symm];exact R7.ins,EQ R.txt SE R7.txt,R7.yx,R7.len⟩
    ·rw[jb,bu];rfl
    ·rw[cU];refine⟨nd,by simp,λ a ha b hb e2=>?_⟩;obtain rfl:b=a7:=by simpa using hb
     obtain⟨o,eo⟩:=Xj a ha;rw[e2,hch.2.2.2.2.1] at eo
     cases eo
    ·intro b o Cm eb;rw[je (jh eb SE)];exact k7 b o Cm (k6 b o Cm (kq b o Cm eb))
    ·exact TK.upd Xl (by intro xs z;cases z) _ _ (Kp.tk k7 R6.ins _ _ Xi)
    ·intro a ha;have:∃o,H7 a=some o:=by
      rcases br.mp ha with ha | ha
      ·obtain⟨o,eo⟩:=Xj a ha
       by_cases z:a=r
       ·exact⟨_,by rw[z];exact R7.ins⟩
       ·exact⟨o,k7 _ _ z eo⟩
      ·obtain rfl:a=a7:=by simpa using ha
       exact⟨_,hch.1⟩
     obtain⟨o,eo⟩:=this
     by_cases z:a=cl
     ·exact⟨_,by rw[z];exact jb⟩
     ·exact⟨o,by rw[je z];exact eo⟩
  |true=>
   rw[Lu] at h;simp only[if_true,ak,cQ] at h
   refine qS ?_;have acl:acc.length<=32768:=by omega
   refine⟨_,rfl,cl,_,rfl,.inl (jE.of hc6),_,_,rfl,rfl,_,rfl,?_⟩;have e8:decide (((nM.map V.ref).length:Int)<=8)=decide (acc.length<=8):=by rw[ah,W.len];exact qy _ 8
   by_cases h8:acc.length<=8
   case neg=>rw[if_neg h8] at h;exact sX (e8.trans (decide_eq_false h8)) (h _)
   rw[if_pos h8] at h;refine tW (e8.trans (decide_eq_true h8)) ?_;have sm8':∀{D:Addr} {xs:List V},H6 D=none->jm H6 (upd H6 D (.lst xs)):=λ hD=>jj hD
   obtain⟨nms,N6⟩:=NJ W6;refine⟨_,rfl,cl,rfl,⟨_,jE.of hc6⟩,λ D hD=>mR (K:=K) (a:=cl) (xs:=nM.map V.ref) (λ i H8=>H8=upd H6 D (.lst ((nms.map V.ref).take i))) rfl (λ i H8 _ e8=>by rw[e8];exact jE.of (by rw[je (jh hc6 hD)];exact hc6)) ?_ ?_⟩
   ·rintro i v H8 hi rfl;obtain⟨ha,ea,rfl⟩:=lY hi;have hil:i<acc.length:=by rw[<-W6.len];exact (ao.mp ea).1
    obtain⟨a',Lw,wy,n,q1,q2,q3,q4⟩:=N6.2 i acc[i] (af hil);rw[ea] at q1
    cases q1;refine⟨rfl,?_⟩;refine⟨_,rfl,ha,_,Lw,_,_,rfl,(by rw[je (jh q3 hD)];exact q3),T.jN.cl,T.rC,Gi _ _ _ _,(nms.map V.ref).take i,jb,?_,?_⟩
    ·rw[aX,sizeLine_eq];have:=N6.1;simp;omega
    ·rw[jU,take_snoc (l:=nms.map V.ref) (x:=V.ref n) (by rw[aj,q2];rfl)]
   ·rintro H8 rfl;rw[ah,show (nms.map V.ref).take nM.length=nms.map V.ref from aA (by rw[ah,N6.1,W6.len];exact aq _)];have ER:=jj (o:=.lst (nms.map V.ref)) hD;refine⟨D,nms,(acc.map λ c=>c.name).map zn,rfl,jE.of jb,⟨by simp[N6.1],λ i a k e1 e2=>?_⟩,by simp;exact acl,λ H9 Qg=>?_⟩
    ·rw[aj,aj] at e2
     cases e:acc[i]? with
     |none=>rw[e] at e2;cases e2
     |some x=>
      rw[e] at e2;have e2:some (zn x.name)=some k:=e2
      cases e2;obtain⟨a',Lw,wy,n,q1,q2,q3,q4⟩:=N6.2 i x e;rw[e1] at q2
      cases q2;rw[<-vI];exact rH.of (ER _ _ q4)
    refine⟨_,rfl,?_⟩;have end_:decide (((acc.map λ c=>c.name).map zn).Nodup)=decide ((acc.map λ c=>c.name).Nodup):=by
     rw[aT,decide_eq_true_eq,decide_eq_true_eq];exact BU _
    by_cases Qh:(acc.map λ c=>c.name).Nodup
    case neg=>rw[if_neg Qh] at h;exact sX (end_.trans (decide_eq_false Qh)) (h _)
    rw[if_pos Qh] at h;refine tW (end_.trans (decide_eq_true Qh)) ?_;have sm:=ER.trans Qg;refine⟨_,rfl,_,rfl,?_⟩;intro c dc hc hdc hne;refine⟨c,dc,_,_,rfl,jb,rfl,?_⟩;rw[jU];have BX:=sm.trans (p8 (u:=.own c) (v:=.ins t.nu dc (K3 (.ref nm) (.ref cl))) hc hdc);have Vj:Kp r H H6:=λ b o Cm eb=>k6 b o Cm (kq b o Cm eb)
    refine h.2 _ _ (R6.same BX) (λ b o Cm eb=>BX b o (Vj b o Cm eb)) ⟨c,cl,nM,rfl,dc,nm,jb,BX _ _ Xi,BX _ _ hc6,?_,nd,?_,SE⟩
    ·exact W6.mono λ x a h=>(h.same BX).Cj (Kp.Cj k4 R4.ins)
    ·exact (Kp.Cj Vj R6.ins) c ((jm.Cj sm) c hc)
def Xo(K:ai):R2:=λ x y H Q=>∃(a l:Addr) (k:List Int) (as:List Addr) (kl:List (List Int)),x=.ref a/\rH K H a (k.map V.int)/\y=.ref l/\jE K H l (as.map V.ref)/\pU K H as kl /\
  Q (.bl (decide (k∈kl))) H
theorem Qi{X:Cx}(K:ai)(hu:X.A.units+64<cLine)(e:X.K=K:=by rfl):vB X (compareOp .In) (Xo K):=e ▸ R8 hu
def Qj(K:ai):V->List V->Hp->VK->Prop:=λ x xs H Q=>∃(a l:Addr) (k:List Int) (as:List Addr) (kl:List (List Int)) (j:Nat),x=.ref l/\xs=[.ref a]/\rH K H a (k.map V.int)/\jE K H l (as.map V.ref)/\pU K H as kl /\
  kl[j]? = some k/\(∀m,m<j->kl[m]?≠some k)/\Q (.int (j:Nat)) H
theorem HN{X:Cx}(K:ai)(hu:X.A.units+64<cLine)(e:X.K=K:=by rfl):VN X "list.index" (Qj K):=e ▸ Ko hu
theorem SI{X:Cx}(K:ai){o e:Expr}{es:List Expr}{to:TE}{t:TA}{name:Str}{apos cpos:Pos}{T id:String}{r:V->List V->Hp->VK->Prop}(pa:PlainAttrs T)(slot:Slot T name id)(hty:typeOf (.builtin id)=pure (.type "method_descriptor"))(hm:VN X id r)(ho:PE X o to)(ha:PA X (e::es) t)(eK:X.K=K:=by rfl)
  (hbase:attributeBase o name X.env (eval o X.env)=eval o X.env:=by rfl)
  (hfew:((backTo cpos (starEach (e::es) X.env)).all (λ x=>!x.1)&&(backToKw cpos (keywordEach [] X.env)).all (λ x=>x.1.isSome)
   && decide ((e::es).length+([]:List Keyword).length+(if ([]:List Keyword).isEmpty then 0 else 1)<30))=true:=by rfl)
  (hline:(apos.endLine==cpos.line)=true:=by rfl) (hs:starEach (e::es) X.env=(false,eval e X.env)::starEach es X.env:=by rfl) (hplain:(backTo cpos (starEach es X.env)).any (·.1)=false:=by rfl) :
  PE X (.Call (.Attribute o name apos) (e::es) [] cpos) (X4 K T r to t):=eK ▸ C4 pa slot hty hm ho ha hbase hfew hline hs hplain
def K9(H:Hp)(x:Nat×Nat)(a:Addr):Prop:=H a=some (.tup [.int (x.1:Int),.int (x.2:Int)])
theorem NK{H H':Hp}{a:Addr}{xs:List V}(e:jm H H')(h:rH K H a xs):rH K H' a xs:=by
 rcases h with (h | ⟨o,h⟩) | h
 ·exact .inl (.inl (e _ _ h))
 ·exact .inl (.inr ⟨o,e _ _ h⟩)
 ·exact .inr h
theorem HP{names:List (List Nat)}{x:List Nat}(h:names.contains x=true):∃j,Rd.placeOf names x=j/\(names.map zn)[j]? = some (zn x)/\∀m,m<j->(names.map zn)[m]?≠some (zn x):=by
 have hm:x∈names:=by simpa using h
 cases e:names.findIdx? (λ y=>y==x) with
 |none=>
  rw[eL] at e;have:=e x hm;simp at this
 |some j=>
  refine⟨j,by unfold Rd.placeOf;rw[e];rfl,?_,?_⟩
  ·rw[bY] at e;obtain⟨h1,h2,_⟩:=e;have h2:names[j]=x:=by simpa using h2
   rw[aj,af h1,h2];rfl
  ·intro m hm e2;rw[bY] at e;obtain⟨h1,_,h3⟩:=e;have:=h3 m hm;rw[aj,af (by omega)] at e2;have e2:some (zn names[m])=some (zn x):=e2;exact this (by simpa using BS (aS e2))
theorem SJ{names:List (List Nat)}{x:List Nat}:decide (zn x∈names.map zn)=names.contains x:=by
 rw[aT,decide_eq_true_eq]
 simp only[az,List.contains_iff_mem]
 exact⟨λ⟨y,h1,h2⟩=>BS h2 ▸ h1,λ h=>⟨x,h,rfl⟩⟩
theorem pU.tk{H H':Hp}{as:List Addr}{kl:List (List Int)}(T:pU K H as kl)(s:jm H H'):pU K H' as kl:=⟨T.len,λ i a k e1 e2=>NK s (T.at_ i a k e1 e2)⟩
def Lb(K:ai)(t:nF):Sp:=λ vs H Q E=>∃(wl nl:Addr) (as bn Tw:List Addr) (ws:List (List Nat×Nat)) (names:List (List Nat)),vs=[.ref wl,.ref nl]/\jE K H wl (as.map V.ref)/\xw H as bn ws /\
 jE K H nl (Tw.map V.ref)/\pU K H Tw (names.map zn)/\ws.length<=32768 /\
 if (ws.all λ w=>names.contains w.1)=true then (∀(p:Addr) (ps:List Addr) H',jm H H'->H p=none->H' p=some (.lst (ps.map V.ref))->Ea (K9 H') ps (ws.map λ w=>(Rd.placeOf names w.1,w.2))->Q (.ref p) H') else ∀H',E (.ref t.ju) none H'
theorem Lc(T:Txt K mg t)(kb:K.In base):Ok P w K mg base 2 t.rW t.qJ ["ways","names"] (Lb K t):=by
 refine T.uZ.fn.qD lI (λ vs H Q E h=>?_) λ cdv A outer s H vs Q E hr h=>?_
 ·obtain⟨wl,nl,as,bn,Tw,ws,names,rfl,_⟩:=h;rfl
 ·obtain⟨wl,nl,as,bn,Tw,ws,names,rfl,hwl,W,hnl,N,hn,h⟩:=h
  refine⟨_,jc (jJ (jI T.mK (kg T kb) hr rfl (jA xl_of) (ja (jX (RO rfl) (by rfl) T.US Sk (ja
    (pO (own:=[("way",2)]) rfl lI.nd (lH (pv 0)) (j5 rfl) (λ _ _ _ _ _=>j0 (i:=2) lI.nd rfl (Or.inl rfl)) (λ _ _ _ _ _=>kY)
     (λ _ _ _ _ _=>nO (Qi K hr.units) (lZ (Ox K) (pv 2) jv (λ _ _=>rfl)) (pv 1) (by with_unfolding_all rfl))) jd)) jd)))<|
   jg (jB (pO (own:=[("way",2)]) rfl lI.nd (lH (pv 0)) (j5 rfl) (λ _ _ _ _ _=>j0 (i:=2) lI.nd rfl (Or.inl rfl)) (λ _ _ _ _ _=>kY)
     (λ _ _ _ _ _=>LX (ja (SI K bW gQ PySem.F.type_list_index (HN K hr.units) (pv 1) (ja (lZ (Ox K) (pv 2) jv (λ _ _=>rfl)) jd))<|ja (lZ (Ox K) (pv 2) jv (λ _ _=>rfl)) jd)))),?_⟩
  obtain hsz:ws.length<sizeLine:=by rw[sizeLine_eq];omega
  refine⟨_,rfl,wl,rfl,⟨_,hwl⟩,λ D hD=>mR (K:=K) (a:=wl) (xs:=as.map V.ref) (λ i H8=>H8=upd H D (.lst (((ws.map λ w=>names.contains w.1).map V.bl).take i))) rfl (λ i H8 _ e8=>by rw[e8];exact jm.seq (jj hD) hwl) ?_ ?_⟩
  ·rintro i v H8 hi rfl;obtain⟨ha,ea,rfl⟩:=lY hi;have hil:i<ws.length:=by rw[<-W.len];exact (ao.mp ea).1
   obtain⟨a',b',q1,q2,q3,q4⟩:=W.at_ i ws[i] (af hil);rw[ea] at q1
   cases q1;have sm:=jj (o:=.lst (((ws.map λ w=>names.contains w.1).map V.bl).take i)) hD;refine⟨rfl,?_⟩;refine⟨_,rfl,ha,_,_,_,rfl,rfl,rH.of (sm _ _ q3),Xc,_,rfl,b',nl,zn (ws[i]).1,Tw,names.map zn,rfl,rH.of (by rw[<-vI];exact sm _ _ q4),rfl,jm.seq sm hnl,pU.tk N sm,_,jb,?_,?_⟩
   ·rw[aX];simp;omega
   ·rw[jU,SJ,take_snoc (l:=(ws.map λ w=>names.contains w.1).map V.bl) (x:=V.bl (names.contains (ws[i]).1)) (by rw[aj,aj,af hil];rfl)]
  ·rintro H8 rfl;rw[ah,show ((ws.map λ w=>names.contains w.1).map V.bl).take as.length=(ws.map λ w=>names.contains w.1).map V.bl from aA (by rw[ah,ah,W.len];exact aq _)];have ER:=jj (o:=.lst ((ws.map λ w=>names.contains w.1).map V.bl)) hD;refine⟨D,_,rfl,jE.of jb,_,rfl,?_⟩;have e8:((ws.map λ w=>names.contains w.1).all id)=(ws.all λ w=>names.contains w.1):=by rw[List.all_map];rfl
   cases hall:(ws.all λ w=>names.contains w.1) with
   |false=>rw[hall] at h;exact sX (e8.trans hall) (h _)
   |true=>
   rw[hall,if_pos rfl] at h;refine tW (e8.trans hall) ?_;have SK:=jm.seq ER hwl;have W8:=W.tk (jm.tk ER);have SM:=jm.seq ER hnl;have N8:=pU.tk N ER;generalize upd H D (.lst ((ws.map λ w=>names.contains w.1).map V.bl))=H8 at ER SK W8 SM N8
   refine⟨_,rfl,wl,rfl,⟨_,SK⟩,λ D2 Lv=>mR (K:=K) (a:=wl) (xs:=as.map V.ref) (λ i H9=>∃ps:List Addr,ps.length=i/\jm H8 H9/\H9 D2=some (.lst (ps.map V.ref))/\Ea (K9 H9) ps ((ws.map λ w=>(Rd.placeOf names w.1,w.2)).take i))
    ⟨[],rfl,jj Lv,jb,Ea.nil⟩ (λ i H9 _ ⟨_,_,e,_,_⟩=>jm.seq e SK) ?_ ?_⟩
   ·rintro i v H9 hi ⟨ps,hps,s9,h9,E9⟩;obtain⟨ha,ea,rfl⟩:=lY hi;have hil:i<ws.length:=by rw[<-W.len];exact (ao.mp ea).1
    obtain⟨a',b',q1,q2,q3,q4⟩:=W8.at_ i ws[i] (af hil);rw[ea] at q1
    cases q1;obtain⟨j,hj,hj1,hj2⟩:=HP (names:=names) (x:=(ws[i]).1) (by
     have:=bD.mp hall ws[i] (aW hil);exact this)
    have hix:=rH.of (K:=K) (s9 _ _ q3);refine⟨rfl,?_⟩;refine⟨_,rfl,.inl ⟨rfl,_,jm.seq s9 SM⟩,_,rfl,ha,_,_,_,rfl,rfl,hix,Xc,b',nl,zn (ws[i]).1,Tw,names.map zn,j,rfl,rfl,rH.of (by rw[<-vI];exact s9 _ _ q4),jm.seq s9 SM,pU.tk N8 s9,hj1,hj2,_,rfl,ha,_,_,_,rfl,rfl,hix,Ov,(by show 2<=sizeLine;decide),λ p hp=>?_⟩;have sp:=jj (o:=.tup [.int (j:Int),.int ((ws[i]).2:Int)]) hp;refine⟨ps.map V.ref,sp _ _ h9,?_,ps++[p],by simp[hps],?_,?_,?_⟩
    ·rw[ah,hps];omega
    ·intro b o eb;rw[je (jh eb Lv)];exact sp _ _ (s9 _ _ eb)
    ·rw[jb,bu];rfl
    ·have WJ:TK (upd H9 p (.tup [.int (j:Int),.int ((ws[i]).2:Int)])) (upd (upd H9 p (.tup [.int (j:Int),.int ((ws[i]).2:Int)])) D2 (.lst (ps.map V.ref++[.ref p]))):=TK.upd (sp _ _ h9) (by intro xs z;cases z);rw[take_snoc (l:=ws.map λ w=>(Rd.placeOf names w.1,w.2)) (x:=(j,(ws[i]).2)) (by rw[aj,af hil,<-hj];rfl)];exact Ea.snoc (E9.mono λ x a h=>WJ _ _ (sp _ _ h)) (WJ _ _ jb)
   ·rintro H9 ⟨ps,hps,s9,h9,E9⟩;rw[ah] at hps E9;rw[aA (by rw[ah,W.len];exact aq _)] at E9;exact h D2 ps H9 (ER.trans s9) (jm.Cj ER _ Lv) h9 E9
theorem B0{α:Type}{a:α}{l:List α}(h:a∈l):∃i:Nat,l[i]? = some a:=cF h
theorem GN.kp{H0 H H':Hp}{s:Ra61.RawState}{a cl p:Addr}{nM:List Addr}{o u:HO}(h:GN t H0 H s a cl nM)(hp:H0 p=some o)(hq:H p=some u)(hu:∀xs,u≠.tup xs)(k:Kp p H H'):GN t H0 H' s a cl nM:=by
 obtain⟨dx,nm,h1,h2,h3,h4,h5,h6,h7⟩:=h
 exact⟨dx,nm,k _ _ (λ z=>by rw[z,hp] at h6;cases h6) h1,k _ _ (λ z=>by rw[z,hq] at h2;cases h2;exact hu _ rfl) h2,k _ _ (λ z=>by rw[z,hp] at h7;cases h7) h3,h4.mono λ x a h=>h.kp hp hq hu k,h5,h6,h7⟩
theorem GN.same{H0 H H':Hp}{s:Ra61.RawState}{a cl:Addr}{nM:List Addr}(h:GN t H0 H s a cl nM)(k:jm H H'):GN t H0 H' s a cl nM:=by
 obtain⟨dx,nm,h1,h2,h3,h4,h5,h6,h7⟩:=h
 exact⟨dx,nm,k _ _ h1,k _ _ h2,k _ _ h3,h4.mono λ x a h=>h.same k,h5,h6,h7⟩
theorem GN.Cj{H0 Ve H:Hp}{s:Ra61.RawState}{a cl:Addr}{nM:List Addr}(h:GN t H0 H s a cl nM)(k:Ci Ve H0):GN t Ve H s a cl nM:=by
 obtain⟨dx,nm,h1,h2,h3,h4,h5,h6,h7⟩:=h
 exact⟨dx,nm,h1,h2,h3,h4.mono λ x a h=>h.Cj k,h5,k _ h6,k _ h7⟩
theorem GN.here{H0 H:Hp}{s:Ra61.RawState}{a cl:Addr}{nM:List Addr}(h:GN t H0 H s a cl nM){c:Addr}(hc:c∈nM):∃o,H c=some o:=by
 obtain⟨dx,nm,h1,h2,h3,h4,h5,h6,h7⟩:=h
 obtain⟨i,hi⟩:=B0 hc
 obtain⟨x,_,a',dx,nm,wy,as,bn,e,q,_⟩:=h4.get hi
 cases e
 exact⟨_,q⟩
theorem GN.new{H0 H:Hp}{s:Ra61.RawState}{a cl:Addr}{nM:List Addr}(h:GN t H0 H s a cl nM){c:Addr}(hc:c∈nM):H0 c=none:=by
 obtain⟨dx,nm,h1,h2,h3,h4,h5,h6,h7⟩:=h
 obtain⟨i,hi⟩:=B0 hc
 obtain⟨x,_,a',dx,nm,wy,as,bn,e,_,_,_,_,q,_⟩:=h4.get hi
 cases e
 exact q
abbrev SX:=Ra61.RawState×Addr×List Addr
abbrev Q7(t:nF)(H0 H:Hp)(nY:List Addr)(sx:List SX):Prop:=Ea (λ x a=>GN t H0 H x.1 a x.2.1 x.2.2) nY sx
def Lx(t:nF)(H:Hp)(c:Ra61.Choice)(a:Addr):Prop:=∃dx nm wy ps,H a=some (.ins t.jS dx (z0 (.ref nm) (.int c.gain) (.ref wy) (.int (c.ways.map λ w=>(w.2:Int)).sum)))/\H nm=some (.tup (jL c.name))/\H wy=some (.lst (ps.map V.ref))/\Ea (K9 H) ps c.ways
def SN(t:nF)(H:Hp)(s:Ra61.State)(a:Addr):Prop:=∃dx nm cl nM,H a=some (.ins t.nu dx (K3 (.ref nm) (.ref cl)))/\H nm=some (.tup (jL s.name))/\H cl=some (.lst (nM.map V.ref))/\Ea (Lx t H) nM s.choices
def NL(t:nF)(net:Ra61.Net)(v:V)(H:Hp):Prop:=∃sl nY,v=.ref sl/\H sl=some (.lst (nY.map V.ref))/\Ea (SN t H) nY net
theorem Lx.same{H H':Hp}{c:Ra61.Choice}{a:Addr}(h:Lx t H c a)(k:jm H H'):Lx t H' c a:=by
 obtain⟨dx,nm,wy,ps,h1,h2,h3,h4⟩:=h
 exact⟨dx,nm,wy,ps,k _ _ h1,k _ _ h2,k _ _ h3,h4.mono λ x a h=>k _ _ h⟩
theorem SN.same{H H':Hp}{c:Ra61.State}{a:Addr}(h:SN t H c a)(k:jm H H'):SN t H' c a:=by
 obtain⟨dx,nm,wy,ps,h1,h2,h3,h4⟩:=h
 exact⟨dx,nm,wy,ps,k _ _ h1,k _ _ h2,k _ _ h3,h4.mono λ x a h=>h.same k⟩
theorem Lx.ki{H H':Hp}{c:Ra61.Choice}{a p C dp:Addr}{fs:List (Str×V)}(h:Lx t H c a)(hp:H p=some (.ins C dp fs))(hn:a≠p)(k:Kp p H H'):Lx t H' c a:=by
 obtain⟨dx,nm,wy,ps,h1,h2,h3,h4⟩:=h
 exact⟨dx,nm,wy,ps,k _ _ hn h1,Kp.tk k hp _ _ h2,k _ _ (nK h3 hp (by intro z;cases z)) h3,h4.mono λ x a h=>Kp.tk k hp _ _ h⟩
theorem DW.ki{H0 H H':Hp}{c:Ra61.RawChoice}{a p C dp:Addr}{fs:List (Str×V)}(h:DW t H0 H c a)(hp:H p=some (.ins C dp fs))(hn:a≠p)(k:Kp p H H'):DW t H0 H' c a:=by
 obtain⟨a',dx,nm,wy,as,bn,e,h1,h2,h3,h4,h5,h6⟩:=h
 cases e
 exact⟨a,dx,nm,wy,as,bn,rfl,k _ _ hn h1,Kp.tk k hp _ _ h2,k _ _ (nK h3 hp (by intro z;cases z)) h3,h4.tk (Kp.tk k hp),h5,h6⟩
def Tz(names:List (List Nat))(c:Ra61.RawChoice):Ra61.Choice:=⟨c.name,c.gain,c.ways.map λ w=>(Rd.placeOf names w.1,w.2)⟩
def Jo(t:nF)(H0 H:Hp)(names:List (List Nat))(dn:List Addr)(x:SX)(a:Addr):Prop:=∃dx nm,H a=some (.ins t.nu dx (K3 (.ref nm) (.ref x.2.1)))/\H nm=some (.tup (jL x.1.name))/\H x.2.1=some (.lst (x.2.2.map V.ref)) /\
 Ea (λ c a=>(a∈dn->Lx t H (Tz names c) a/\(c.ways.all λ w=>names.contains w.1)=true)/\(¬a∈dn->DW t H0 H c a)) x.2.2 x.1.choices
theorem Jo.same{H0 H H':Hp}{names:List (List Nat)}{dn:List Addr}{x:SX}{a:Addr}(h:Jo t H0 H names dn x a)(k:jm H H'):Jo t H0 H' names dn x a:=by
 obtain⟨dx,nm,h1,h2,h3,h4⟩:=h
 exact⟨dx,nm,k _ _ h1,k _ _ h2,k _ _ h3,h4.mono λ x a h=>⟨λ q=>⟨(h.1 q).1.same k,(h.1 q).2⟩,λ q=>(h.2 q).same k⟩⟩
theorem Vk{a b c d e f:V}:z0 a b c d≠K3 e f:=λ z=>by
 have h1:=yE a b c d
 rw[z] at h1
 unfold K3 at h1
 rw[jq,if_neg (by decide),jq,if_neg (by decide)] at h1
 cases h1
theorem Jo.step{H0 H H':Hp}{names:List (List Nat)}{dn:List Addr}{x:SX}{a p dp:Addr}{n g wv tv:V}{c:Ra61.RawChoice}(h:Jo t H0 H names dn x a)(hp:H p=some (.ins t.jS dp (z0 n g wv tv)))(k:Kp p H H')
  (new:∀i:Nat,x.2.2[i]? = some p->∀c,x.1.choices[i]? = some c->Lx t H' (Tz names c) p/\(c.ways.all λ w=>names.contains w.1)=true):Jo t H0 H' names (dn++[p]) x a:=by
 obtain⟨dx,nm,h1,h2,h3,h4⟩:=h
 refine⟨dx,nm,k _ _ (λ z=>?_) h1,Kp.tk k hp _ _ h2,k _ _ (nK h3 hp (by intro z;cases z)) h3,h4.len,λ i c e=>?_⟩
 ·rw[z,hp] at h1
  have h1:=aS h1
  injection h1 with _ _ e
  exact Vk e
 ·obtain⟨a',e1,e2⟩:=h4.at_ i c e
  refine⟨a',e1,λ hm=>?_,λ hm=>?_⟩
  ·by_cases hap:a'=p
   ·subst hap;exact new i e1 c e
   ·rcases br.mp hm with hm | hm
    ·exact⟨(e2.1 hm).1.ki hp hap k,(e2.1 hm).2⟩
    ·exact absurd (by simpa using hm) hap
  ·have hap:a'≠p:=λ z=>hm (by rw[z];simp)
   exact (e2.2 λ z=>hm (br.mpr (.inl z))).ki hp hap k
theorem Jo.of{H0 H:Hp}{names:List (List Nat)}{x:SX}{a:Addr}(h:GN t H0 H x.1 a x.2.1 x.2.2):Jo t H0 H names [] x a:=by
 obtain⟨dx,nm,h1,h2,h3,h4,_⟩:=h
 exact⟨dx,nm,h1,h2,h3,h4.mono λ x a h=>⟨λ z=>by simp at z,λ _=>h⟩⟩
def Vl(names:List (List Nat))(s:Ra61.RawState):Ra61.State:=⟨s.name,s.choices.map (Tz names)⟩
theorem Ld(raw:List Ra61.RawState):Rd.placed raw=raw.map (Vl (raw.map λ s=>s.name)):=rfl
theorem Jo.all{H0 H:Hp}{names:List (List Nat)}{dn:List Addr}{x:SX}{a:Addr}(h:Jo t H0 H names dn x a)(hd:∀c∈x.2.2,c∈dn):SN t H (Vl names x.1) a/\(x.1.choices.all λ c=>c.ways.all λ w=>names.contains w.1)=true:=by
 obtain⟨dx,nm,h1,h2,h3,h4⟩:=h
 constructor
 ·refine⟨dx,nm,_,_,h1,h2,h3,?_,λ i c e=>?_⟩
  ·rw[h4.len];simp[Vl]
  ·simp only[Vl,aj] at e
   cases ec:x.1.choices[i]? with
   |none=>rw[ec] at e;cases e
   |some c'=>
    rw[ec] at e
    cases e;obtain⟨a',e1,e2⟩:=h4.at_ i c' ec;exact⟨a',e1,(e2.1 (hd _ (au e1))).1⟩
 ·rw[bD]
  intro c hc;obtain⟨i,hi⟩:=B0 hc;obtain⟨a',e1,e2⟩:=h4.at_ i c hi;exact (e2.1 (hd _ (au e1))).2
theorem NN{H0 H:Hp}{nY:List Addr}{sx:List SX}(W:Q7 t H0 H nY sx):∃nms:List Addr,nms.length=sx.length/\∀(i:Nat) (x:SX),sx[i]? = some x->∃a dx n,nY[i]? = some a/\nms[i]? = some n/\H a=some (.ins t.nu dx (K3 (.ref n) (.ref x.2.1)))/\H n=some (.tup (jL x.1.name)):=by
 have key:∀i:Fin sx.length,∃n,∃a dx,nY[i.1]? = some a/\H a=some (.ins t.nu dx (K3 (.ref n) (.ref (sx[i.1]).2.1)))/\H n=some (.tup (jL (sx[i.1]).1.name)):=λ i=>by
  obtain⟨a,e,dx,nm,h1,h2,_⟩:=W.at_ i.1 _ (af i.2);exact⟨nm,a,dx,e,h1,h2⟩
 refine⟨List.ofFn λ i:Fin sx.length=>gR (key i),by simp,λ i c e=>?_⟩
 obtain⟨hi,rfl⟩:=ao.mp e
 obtain⟨a,dx,q1,q2,q3⟩:=fG (key ⟨i,hi⟩)
 exact⟨a,dx,_,q1,by rw[List.getElem?_ofFn];simp[hi],q2,q3⟩
theorem CN{bs b:List Nat}{x}(s:b <:+ bs)(h:Rd.readState b=some x):x.2 <:+ bs:=by
 rw[Rd.nQ] at h
 obtain⟨a,h1,h⟩:=Rd.bind_some h
 obtain⟨_,h⟩:=Rd.jl h
 obtain⟨y,h4,h⟩:=Rd.bind_some h
 obtain⟨_,h⟩:=Rd.jl h
 obtain⟨r,h5,h⟩:=Rd.bind_some h
 obtain⟨_,h⟩:=Rd.jl h
 obtain⟨_,h⟩:=Rd.jl h
 cases h
 have s2:=jQ (m:=123) (lP (lP s h1) h4)
 clear h1 h4
 generalize (Rd.passes 123 y.2).2=q at h5 s2
 have:∀(n:Nat) (q:List Nat),q.length<n->q <:+ bs->∀r,Rd.MC q=some r->r.2 <:+ bs:=by
  intro n
  induction n with
  |zero=>intro q h;omega
  |succ n ih=>
   intro q hq sq r e;rw[Rd.xP] at e;have hp:=Rd.jw 125 q
   split at e
   ·cases e;exact jQ sq
   ·obtain⟨w,e1,e⟩:=Rd.bind_some e;obtain⟨z,e2,rfl⟩:=Rd.map_some e;have:=Rd.lS e1;exact ih w.2 (by omega) (vt (jQ sq) e1) z e2
 exact this _ q (aD _) s2 r h5
def Le(K:ai)(t:nF):Sp:=λ vs H Q E=>∃l bs,vs=[.ref l]/\jE K H l (jL bs)/\bs.length<=65536/\(∀c∈bs,c<256) /\
 HJ (Rd.ku bs) (∀H',E (.ref t.ju) none H') λ net=>∀v H',jm H H'->NL t net v H'->Q v H'
theorem NO{H0 H:Hp}{nY:List Addr}{sx:List SX}(W:Q7 t H0 H nY sx){c:Addr}(hc:c∈sx.flatMap λ x=>x.2.2):∃o,H c=some o:=by
 obtain⟨x,hx,hc⟩:=fN.mp hc
 obtain⟨i,hi⟩:=B0 hx
 obtain⟨a,_,h⟩:=W.at_ i x hi
 exact h.here hc
theorem B3{b:List Nat}{x}(h:Rd.kR b=some x):2*x.1.ways.length<=b.length:=by
 rw[Rd.mX] at h
 obtain⟨a,h1,h⟩:=Rd.bind_some h
 obtain⟨g,h2,h⟩:=Rd.bind_some h
 obtain⟨_,h⟩:=Rd.jl h
 obtain⟨y,h4,h⟩:=Rd.bind_some h
 obtain⟨r,h5,h⟩:=Rd.bind_some h
 obtain⟨_,h⟩:=Rd.jl h
 obtain⟨_,h⟩:=Rd.jl h
 cases h
 have:=Rd.kF h1;have:=Rd.qH h2;have:=Rd.jw 58 g.2;have:=Rd.kT h4;have:=Rd.M4 _ _ (aD _) _ h5
 simp only[aK];omega
theorem NP:∀(n:Nat) (b:List Nat),b.length<n->∀r,Rd.MC b=some r->∀c∈r.1,2*c.ways.length<=b.length
 |0,b,h,_,_=>by omega
 |n+1,b,h,r,e=>by
  rw[Rd.xP] at e;have hp:=Rd.jw 125 b
  split at e
  ·cases e;simp
  ·obtain⟨w,e1,e⟩:=Rd.bind_some e;obtain⟨z,e2,rfl⟩:=Rd.map_some e;have l:=Rd.lS e1;intro c hc
   rcases aB.mp hc with rfl | hc
   ·have:=B3 e1;omega
   ·have:=NP n w.2 (by omega) z e2 c hc;omega
theorem NQ:∀(n:Nat) (b:List Nat),b.length<n->∀r,Rd.MS b=some r->∀s∈r,∀c∈s.choices,2*c.ways.length<=b.length
 |0,b,h,_,_=>by omega
 |n+1,b,h,r,e=>by
  rw[Rd.xQ] at e;have hp:=Rd.kE false b
  split at e
  ·cases e;simp
  ·obtain⟨w,e1,e⟩:=Rd.bind_some e;obtain⟨z,e2,rfl⟩:=Rd.map_some e;have l:=Rd.l6 e1;intro s hs
   rcases aB.mp hs with rfl | hs
   ·rw[Rd.nQ] at e1;obtain⟨a,h1,e1⟩:=Rd.bind_some e1;obtain⟨_,e1⟩:=Rd.jl e1;obtain⟨y,h4,e1⟩:=Rd.bind_some e1;obtain⟨_,e1⟩:=Rd.jl e1;obtain⟨r,h5,e1⟩:=Rd.bind_some e1;obtain⟨_,e1⟩:=Rd.jl e1;obtain⟨_,e1⟩:=Rd.jl e1
    cases e1;intro c hc;have:=Rd.kF h1;have:=Rd.kF h4;have:=Rd.jw 123 y.2;have:=NP _ _ (aD _) _ h5 c hc;omega
   ·intro c hc;have:=NQ n w.2 (by omega) z e2 s hs c hc;omega
theorem SO{H H':Hp}{p C dp a:Addr}{fs:List (Str×V)}{xs:List V}(h:rH K H a xs)(hp:H p=some (.ins C dp fs))(k:Kp p H H'):rH K H' a xs:=by
 rcases h with (h | ⟨o,h⟩) | h
 ·exact .inl (.inl (k _ _ (nK h hp (by intro z;cases z)) h))
 ·exact .inl (.inr ⟨o,k _ _ (nK h hp (by intro z;cases z)) h⟩)
 ·exact .inr h
theorem pU.ki{H H':Hp}{p C dp:Addr}{fs:List (Str×V)}{as:List Addr}{kl:List (List Int)}(T:pU K H as kl)(hp:H p=some (.ins C dp fs))(k:Kp p H H'):pU K H' as kl:=⟨T.len,λ i a k' e1 e2=>SO (T.at_ i a k' e1 e2) hp k⟩
theorem Lf{sx:List SX}{i:Nat}{x:SX}(h:sx[i]? = some x):(sx.take (i+1)).flatMap (λ x=>x.2.2)=(sx.take i).flatMap (λ x=>x.2.2)++x.2.2:=by
 rw[take_snoc h,gc];simp
theorem Gk{sx:List SX}{i j:Nat}{x:SX}{c:Addr}(nd:(sx.flatMap λ x=>x.2.2).Nodup)(h:sx[i]? = some x)(hc:x.2.2[j]? = some c):¬c∈(sx.take i).flatMap (λ x=>x.2.2)++x.2.2.take j:=by
 obtain⟨hi,rfl⟩:=ao.mp h
 obtain⟨hj,rfl⟩:=ao.mp hc
 have e:sx.flatMap (λ x=>x.2.2)=((sx.take i).flatMap (λ x=>x.2.2)++(sx[i]).2.2.take j)++((sx[i]).2.2.drop j++(sx.drop (i+1)).flatMap (λ x=>x.2.2)):=by
  conv=>lhs;rw[<-iu i sx,gc,bB hi,fB]
  conv=>lhs;rw[show (sx[i]).2.2=(sx[i]).2.2.take j++(sx[i]).2.2.drop j from (iu _ _).symm]
  simp only[cG]
 rw[e,cU] at nd
 intro hm
 refine nd.2.2 _ hm _ ?_ rfl
 refine br.mpr (.inl ?_)
 rw[bB hj]
 exact aP
theorem NR{sx:List SX}{i j i' j':Nat}{x x':SX}{c:Addr}(nd:(sx.flatMap λ x=>x.2.2).Nodup)(h:sx[i]? = some x)(hc:x.2.2[j]? = some c)(h':sx[i']? = some x')(hc':x'.2.2[j']? = some c):i'=i/\j'=j:=by
 have main:∀{i j i' j':Nat} {x x':SX},sx[i]? = some x->x.2.2[j]? = some c->sx[i']? = some x'->x'.2.2[j']? = some c->¬(i'<i\/(i'=i/\j'<j)):=by
  intro i j i' j' x x' h hc h' hc' z;refine Gk nd h hc (br.mpr ?_)
  rcases z with z | ⟨rfl,z⟩
  ·refine .inl (fN.mpr ⟨x',?_,au hc'⟩);exact au (i:=i') (by rw[List.getElem?_take,if_pos z];exact h')
  ·rw[h] at h'
   cases h';exact .inr (au (i:=j') (by rw[List.getElem?_take,if_pos z];exact hc'))
 have:=main h hc h' hc'
 have:=main h' hc' h hc
 omega
theorem B4(T:Txt K mg t)(kb:K.In base):Ok P w K mg base 8 t.vX t.uN ["text"] (Le K t):=by
 refine T.zC.fn.qD kH (λ vs H Q E h=>?_) λ cdv A outer s H vs Q E hr h=>?_
 ·obtain⟨l,bs,rfl,_⟩:=h;rfl
 ·obtain⟨l,bs,rfl,hl,hlen,hb,h⟩:=h
  have Jl:=hr.mono (show 4<=7 by decide);have hr2:=hr.mono (show 2<=7 by decide);have hr1:=hr.mono (show 1<=7 by decide);refine⟨_,jc (jD (i:=1) kH.nd rfl (Or.inl rfl) (Dj T.jo T.zF (BR T) hr2 rfl jF (ja (pv 0) jd)))<|
   jc (jD (i:=2) kH.nd rfl (Or.inl rfl) (mh jd))<|
   jc (mU mW (Al (qb (lC T.jo T.wI (K0 T) Jl jF (pv 1))))
    (jg (jJ (C4 bW cY cZ vC (pv 2) (ja (jI T.A5 (CM T kb) hr rfl (jA xl_of) (ja (pv 1) jd)) jd)))))<|
   jc (jJ (jI T.mK (kg T kb) hr1 rfl (jA xl_of) (ja (rK nN nN jv (jX jK (by rfl) T.qx nH (ja (pv 2) jd)) (kh T.CD rfl)) jd)))<|
   jc (AB (i:=3) (own:=[("state",4)]) rfl kH.nd rfl rfl (Ed kH.kind rfl rfl rfl) (lH (pv 2)) (j5 rfl) (λ _ _ _ _ _=>j0 (i:=4) kH.nd rfl (Or.inl rfl)) (λ _ _ _ _ _=>kY) (λ _ _ _ _ _=>jR K (pv 4) rfl))<|
   jc (jJ (jI T.mK (kg T kb) hr1 rfl (jA xl_of) (ja (jI T.tR (rE T) hr1 rfl jF (ja (pv 3) jd)) jd)))<|
   jc (qc mW rfl (lH (pv 2)) (j0 (i:=4) kH.nd rfl (Or.inl rfl))
    (jg (qc mW rfl (lH (nA (pv 4) rfl)) (j0 (i:=5) kH.nd rfl (Or.inl rfl))
     (jg (om (pv 5) (jI T.uZ (Lc T kb) hr2 rfl (jA xl_of) (ja (nA (pv 5) rfl)<|ja (pv 3) jd)) rfl)))))<|
   jg (jB (pv 2)),?_⟩
  rw[Rd.qT] at h;refine⟨_,rfl,?_⟩;intro r dx hr0 hdx hne;refine⟨r,dx,l,rfl,jb,rfl,?_⟩;rw[jU];have VU:=p8 (u:=.own r) (v:=.ins t.j7 dx (EW l 0)) hr0 hdx;have R1:yw K t (upd (upd H dx (.own r)) r (.ins t.j7 dx (EW l 0))) r dx l bs bs:=⟨by rw[jb];unfold pl;rw[iX];rfl,jm.seq VU hl,fL _,hlen⟩
  generalize upd (upd H dx (.own r)) r (.ins t.j7 dx (EW l 0))=H1 at VU R1
  refine⟨(by show 0<=sizeLine;decide),λ sl hsl=>?_⟩;have YG:=jj (o:=.lst []) hsl;have Vm:H sl=none:=jm.Cj VU sl hsl;have R2:=R1.same YG;have SQ:=VU.trans YG;have SR:upd H1 sl (.lst []) sl=some (.lst []):=jb;have Vn:H r=none:=hr0;show JC _ _ _ _ (upd H1 sl (.lst []));generalize upd H1 sl (.lst [])=H2 at R2 SQ SR
  refine⟨λ m σ H'=>∃(sx:List SX) (nY:List Addr) (q:List Nat),Rd.MS bs=(Rd.MS q).map (λ u=>sx.map (·.1)++u)/\sx.length+q.length<=65536/\m=q.length /\
   σ=[some (.ref l),some (.ref r),some (.ref sl),none,none,none]/\yw K t H' r dx l bs q/\H' sl=some (.lst (nY.map V.ref))/\Q7 t H2 H' nY sx/\(sx.flatMap λ x=>x.2.2).Nodup/\jm H H'/\Ci H2 H',
   ⟨_,[],[],bs,?_,?_,rfl,rfl,R2,SR,Ea.nil,by simp,SQ,Ci.refl _⟩,?_⟩
  ·simp
  ·simp;omega
  rintro m σ H' ⟨sx,nY,q,inv,hq2,rfl,rfl,Rq,YH,W,nd,smq,lq2⟩;refine⟨_,rfl,r,dx,_,rfl,Rq.ins,yD,r,dx,l,bs,q,rfl,Rq,hb,_,rfl,?_⟩;rw[inv,Rd.xQ] at h;have sq:=mO Rq.yx;have lq:=Rd.kE false q;have hstep:=Rd.xQ q;generalize Rd.skip false q=y2 at h sq lq hstep
  have R6:=Rq.put sq;have VW:sl≠r:=nK YH Rq.ins (by intro z;cases z);have k6:Kp r H' (kN t H' r dx l bs y2):=Kp.upd;have W6:Q7 t H2 (kN t H' r dx l bs y2) nY sx:=W.mono λ x a h=>h.kp R2.ins Rq.ins (by intro xs z;cases z) k6
  have Q8:kN t H' r dx l bs y2 sl=some (.lst (nY.map V.ref)):=k6 _ _ VW YH;have Vh:Ci H' (kN t H' r dx l bs y2):=Kp.Cj k6 R6.ins;have Xp:jm H (kN t H' r dx l bs y2):=λ b o eb=>k6 b o (jh eb Vn) (smq b o eb)
  generalize kN t H' r dx l bs y2=H6 at R6 k6 W6 Q8 Vh Xp
  by_cases Lu:y2=[]
  case neg=>
   rw[if_neg Lu] at h hstep;refine tW (by rw[decide_eq_false Lu];rfl) ?_;refine⟨λ σ H7=>∃(q7:List Nat) (x7:SX) (a7:Addr),Rd.MS bs=(Rd.MS q7).map (λ u=>(sx++[x7]).map (·.1)++u)/\q7.length<q.length/\(sx++[x7]).length+q7.length<=65536 /\
    σ=[some (.ref l),some (.ref r),some (.ref sl),none,none,none]/\yw K t H7 r dx l bs q7/\H7 sl=some (.lst ((nY++[a7]).map V.ref))/\Q7 t H2 H7 (nY++[a7]) (sx++[x7])/\((sx++[x7]).flatMap λ x=>x.2.2).Nodup/\jm H H7/\Ci H2 H7,?_,?_⟩
   ·rintro σ7 H7 ⟨q7,x7,a7,i1,i2,i3,rfl,i5,i6,i7,i8,i9,Xk⟩;exact⟨_,i2,sx++[x7],nY++[a7],q7,i1,i3,rfl,rfl,i5,i6,i7,i8,i9,Xk⟩
   ·refine⟨_,rfl,.inl ⟨rfl,_,jE.of Q8⟩,?_⟩;refine⟨_,rfl,DV R6 hb (λ e H'=>?_) λ x7 e=>⟨CN sq e,λ v H7 R7 k7 hv=>?_⟩⟩
    ·rw[e] at h;exact h H'
    have l7:=Rd.l6 e;obtain⟨a7,YI,SS,rfl,hst⟩:=hv;have YJ:H7 sl=some (.lst (nY.map V.ref)):=k7 sl _ VW Q8;have YK:nY.length<=65536:=by rw[W.len];omega
    have Vo:Ci H2 H6:=lq2.trans Vh;refine⟨sl,_,_,rfl,rfl,YJ,?_,?_⟩
    ·rw[ah,sizeLine_eq];omega
    have k8:Kp sl H7 (upd H7 sl (.lst (nY.map V.ref++[.ref a7]))):=Kp.upd;have Xn:Ci H7 (upd H7 sl (.lst (nY.map V.ref++[.ref a7]))):=Kp.Cj k8 jb;have SH:Q7 t H2 H7 (nY++[a7]) (sx++[(x7.1,YI,SS)]):=Ea.snoc (W6.mono λ x a h=>h.kp R2.ins R6.ins (by intro xs z;cases z) k7) (hst.Cj Vo);have Xq:sl≠r:=VW;refine⟨x7.2,(x7.1,YI,SS),a7,?_,by omega,by simp;omega,rfl,?_,?_,SH.mono λ x a h=>h.kp SR YJ (by intro xs z;cases z) k8,?_,?_,(Vo.trans (Kp.Cj k7 R7.ins)).trans Xn⟩
    ·rw[inv,hstep,e,ak,iC]
     congr 1;funext z;simp
    ·exact⟨by rw[je VW.symm];exact R7.ins,EQ hl Vm R7.txt,R7.yx,R7.len⟩
    ·rw[jb,bu];rfl
    ·rw[gc,cU];refine⟨nd,by simpa using hst.choose_spec.choose_spec.2.2.2.2.1,λ a ha b hb e2=>?_⟩;have hb:b∈SS:=by simpa using hb
     obtain⟨o,eo⟩:=NO W6 ha;rw[e2,hst.new hb] at eo
     cases eo
    ·intro b o eb;rw[je (jh eb Vm)];exact k7 b o (jh eb Vn) (Xp b o eb)
  case pos=>
   rw[if_pos Lu] at h;simp only[bE,cQ,ak] at h
   refine sX (by rw[decide_eq_true Lu];rfl) ?_;have nl:(sx.map (·.1)).length=nY.length:=by rw[ah,W.len]
   refine⟨_,rfl,sl,_,rfl,.inl (jE.of Q8),_,_,rfl,rfl,?_⟩;have q1:decide ((1:Int)<=((nY.map V.ref).length:Int))=decide (1<=(sx.map (·.1)).length):=by rw[ah,<-nl];exact qy 1 _
   have q2:decide (((nY.map V.ref).length:Int)<=16)=decide ((sx.map (·.1)).length<=16):=by rw[ah,<-nl];exact qy _ 16
   refine⟨_,rfl,?_⟩
   by_cases w1:1<=(sx.map (·.1)).length
   case neg=>
    rw[if_neg (λ z=>w1 z.1)] at h;exact sX (q1.trans (decide_eq_false w1)) ⟨_,rfl,qS (h _)⟩
   refine tW (q1.trans (decide_eq_true w1)) ⟨_,_,rfl,rfl,?_⟩
   by_cases w2:(sx.map (·.1)).length<=16
   case neg=>
    rw[if_neg (λ z=>w2 z.2)] at h;exact⟨_,rfl,sX (q2.trans (decide_eq_false w2)) (h _)⟩
   rw[if_pos ⟨w1,w2⟩] at h;refine⟨_,rfl,tW (q2.trans (decide_eq_true w2)) ?_⟩;have sxl:sx.length<=16:=by rw[ah] at w2;exact w2
   obtain⟨nms,N6⟩:=NN W6;refine⟨_,rfl,sl,rfl,⟨_,jE.of Q8⟩,λ D hD=>mR (K:=K) (a:=sl) (xs:=nY.map V.ref) (λ i H8=>H8=upd H6 D (.lst ((nms.map V.ref).take i))) rfl (λ i H8 _ e8=>by rw[e8];exact jE.of (by rw[je (jh Q8 hD)];exact Q8)) ?_ ?_⟩
   ·rintro i v H8 hi rfl;obtain⟨ha,ea,rfl⟩:=lY hi;have hil:i<sx.length:=by rw[<-W6.len];exact (ao.mp ea).1
    obtain⟨a',Lw,n,p1,p2,p3,p4⟩:=N6.2 i sx[i] (af hil);rw[ea] at p1
    cases p1;refine⟨rfl,?_⟩;refine⟨_,rfl,ha,_,Lw,_,_,rfl,(by rw[je (jh p3 hD)];exact p3),T.tU.cl,T.tV,Gj _ _,(nms.map V.ref).take i,jb,?_,?_⟩
    ·rw[aX,sizeLine_eq];have:=N6.1;simp;omega
    ·rw[jU,take_snoc (l:=nms.map V.ref) (x:=V.ref n) (by rw[aj,p2];rfl)]
   ·rintro H8 rfl;rw[ah,show (nms.map V.ref).take nY.length=nms.map V.ref from aA (by rw[ah,N6.1,W6.len];exact aq _)];have ER:=jj (o:=.lst (nms.map V.ref)) hD;have Vp:upd H6 D (.lst (nms.map V.ref)) D=some (.lst (nms.map V.ref)):=jb;have N8:pU K (upd H6 D (.lst (nms.map V.ref))) nms (((sx.map (·.1)).map λ s=>s.name).map zn):=⟨by simp[N6.1],λ i a k e1 e2=>by
     rw[aj,aj,aj] at e2
     cases e:sx[i]? with
     |none=>rw[e] at e2;cases e2
     |some x=>
      rw[e] at e2;have e2:some (zn x.1.name)=some k:=e2
      cases e2;obtain⟨a',Lw,n,p1,p2,p3,p4⟩:=N6.2 i x e;rw[e1] at p2
      cases p2;rw[<-vI];exact rH.of (ER _ _ p4)⟩
    have YL:=ER _ _ Q8;have W8:Q7 t H2 (upd H6 D (.lst (nms.map V.ref))) nY sx:=W6.mono λ x a h=>h.same ER
    have Vq:=Xp.trans ER;show JC _ _ _ _ (upd H6 D (.lst (nms.map V.ref)));generalize upd H6 D (.lst (nms.map V.ref))=H8 at ER Vp N8 YL W8 Vq
    refine⟨_,rfl,D,nms,_,rfl,jE.of Vp,N8,by simp;omega,λ H9 Qg=>?_⟩;refine⟨_,rfl,?_⟩;generalize hnames:((sx.map (·.1)).map λ s=>s.name)=names at h N8
    have end_:decide ((names.map zn).Nodup)=decide (names.Nodup):=by
     rw[aT,decide_eq_true_eq,decide_eq_true_eq];exact BU _
    by_cases Qh:names.Nodup
    case neg=>rw[if_neg Qh] at h;exact sX (end_.trans (decide_eq_false Qh)) (h _)
    rw[if_pos Qh] at h;refine tW (end_.trans (decide_eq_true Qh)) ?_;have hD9:=Qg _ _ Vp;have N9:=pU.tk N8 Qg;have YM:=Qg _ _ YL;have W9:Q7 t H2 H9 nY sx:=W8.mono λ x a h=>h.same Qg
    have Xr:=Vq.trans Qg;have raws:Rd.MS bs=some (sx.map (·.1)):=by rw[inv,hstep,if_pos Lu];simp
    have few:=NQ _ _ (aD _) _ raws;refine⟨_,rfl,sl,rfl,⟨_,jE.of YM⟩,xD (K:=K) (a:=sl) (xs:=nY.map V.ref)
     (λ i σ Hc=>∃v4 v5,σ=[some (.ref l),some (.ref r),some (.ref sl),some (.ref D),v4,v5]/\Hc sl=some (.lst (nY.map V.ref))/\Hc D=some (.lst (nms.map V.ref))/\pU K Hc nms (names.map zn)/\jm H Hc/\Ea (Jo t H2 Hc names ((sx.take i).flatMap λ x=>x.2.2)) nY sx)
     ⟨none,none,rfl,YM,hD9,N9,Xr,W9.mono λ x a h=>Jo.of h⟩ (λ i σ Hc _ ⟨_,_,_,e,_⟩=>jE.of e) ?_ ?_⟩
    ·rintro i v σ Hc hi ⟨v4,v5,rfl,hsc,hDc,Nc,smc,Wc⟩;obtain⟨ha,ea,rfl⟩:=lY hi;obtain⟨x,ex,dxs,nm,g1,g2,g3,g4⟩:=Wc.get ea;refine⟨_,rfl,ha,_,dxs,_,_,rfl,g1,T.tU.cl,T.pL,zN _ _,x.2.1,rfl,⟨_,jE.of g3⟩,?_⟩;refine xD (K:=K) (a:=x.2.1) (xs:=x.2.2.map V.ref)
      (λ j σ Hd=>∃v5,σ=[some (.ref l),some (.ref r),some (.ref sl),some (.ref D),some (.ref ha),v5]/\Hd sl=some (.lst (nY.map V.ref))/\Hd D=some (.lst (nms.map V.ref))/\pU K Hd nms (names.map zn)/\jm H Hd/\Ea (Jo t H2 Hd names ((sx.take i).flatMap (λ x=>x.2.2)++x.2.2.take j)) nY sx)
      ⟨v5,rfl,hsc,hDc,Nc,smc,by rw[gy,cQ];exact Wc⟩ (λ j σ Hd _ ⟨_,_,_,_,_,_,e⟩=>by
       obtain⟨x',Tg,_,_,_,_,g3',_⟩:=e.get ea;rw[ex] at Tg
       cases Tg;exact jE.of g3') ?_ ?_
     ·rintro j v σ Hd hj ⟨v5',rfl,TF,TH,Nd,Vr,Wd⟩;obtain⟨ca,ec,rfl⟩:=lY hj;obtain⟨x',Tg,dxs',UI,k1,k2,k3,k4⟩:=Wd.get ea;rw[ex] at Tg
      cases Tg;obtain⟨c,YN,_,raw⟩:=k4.get ec;obtain⟨a',Lw,VX,wy,as,bn,e0,c1,c2,c3,c4,c5,c6⟩:=raw (Gk nd ex ec)
      cases e0;have hx:x.1∈sx.map (·.1):=az.mpr ⟨x,au ex,rfl⟩;have O6:c∈x.1.choices:=au YN;have hfew:=few _ hx _ O6;refine⟨_,rfl,ca,_,Lw,_,_,rfl,c1,T.jN.cl,T.lT,vp _ _ _ _,_,rfl,wy,D,as,bn,nms,c.ways,names,rfl,jE.of c3,c4,jE.of TH,Nd,by omega,?_⟩
      by_cases hall:(c.ways.all λ w=>names.contains w.1)=true
      case neg=>
       rw[if_neg hall];have hno:¬((sx.map (·.1)).all λ s=>s.choices.all λ c=>c.ways.all λ w=>names.contains w.1)=true:=λ z=>by
        have z1:=bD.mp z x.1 hx;have z2:=bD.mp z1 c O6;exact hall z2
       rw[if_neg hno] at h;exact h
      rw[if_pos hall];intro p ps He Qk hp YO Ee;have Q9:=Qk _ _ c1;refine⟨_,rfl,ca,_,Lw,_,rfl,Q9,T.jN.cl,T.lT,(by show 4<1000;decide),?_⟩;rw[Qc];have kp:Kp ca He (upd He ca (.ins t.jS Lw (z0 (.ref VX) (.int c.gain) (.ref p) (.int (c.ways.map λ w=>(w.2:Int)).sum)))):=Kp.upd;have new:Lx t (upd He ca (.ins t.jS Lw (z0 (.ref VX) (.int c.gain) (.ref p) (.int (c.ways.map λ w=>(w.2:Int)).sum)))) (Tz names c) ca:=by
       refine⟨Lw,VX,p,ps,?_,Kp.tk kp Q9 _ _ (Qk _ _ c2),kp _ _ (nK YO Q9 (by intro z;cases z)) YO,Ee.mono λ x a h=>Kp.tk kp Q9 _ _ h⟩;rw[jb];have:((Tz names c).ways.map λ w=>(w.2:Int))=(c.ways.map λ w=>(w.2:Int)):=by unfold Tz;rw[eF];rfl
       rw[this];rfl
      generalize upd He ca (.ins t.jS Lw (z0 (.ref VX) (.int c.gain) (.ref p) (.int (c.ways.map λ w=>(w.2:Int)).sum)))=Hf at kp new
      refine⟨some (.ref ca),rfl,kp _ _ (nK (Qk _ _ TF) Q9 (by intro z;cases z)) (Qk _ _ TF),kp _ _ (nK (Qk _ _ TH) Q9 (by intro z;cases z)) (Qk _ _ TH),pU.ki (pU.tk Nd Qk) Q9 kp,?_,?_⟩
      ·intro b o eb;refine kp b o (λ z=>?_) (Qk _ _ (Vr _ _ eb));rw[z,jm.Cj SQ _ c5] at eb
       cases eb
      ·rw[take_snoc ec,<-cG];refine⟨Wd.len,λ i' x' e'=>?_⟩;obtain⟨a',e1,e2⟩:=Wd.at_ i' x' e';refine⟨a',e1,Jo.step (c:=c) (e2.same Qk) Q9 kp λ j' e3 c' e4=>?_⟩;obtain⟨rfl,rfl⟩:i'=i/\j'=j:=NR nd ex ec e' e3;rw[ex] at e'
       cases e';rw[YN] at e4
       cases e4;exact⟨new,hall⟩
     ·rintro σ Hd ⟨v5',rfl,TF,TH,Nd,Vr,Wd⟩;rw[ah,eG,<-Lf ex] at Wd;exact⟨_,_,rfl,TF,TH,Nd,Vr,Wd⟩
    ·rintro σ Hd ⟨v4,v5,rfl,TF,TH,Nd,Vr,Wd⟩;rw[ah,W.len,eG] at Wd;have fin:∀(i:Nat) (x:SX),sx[i]? = some x->∃a,nY[i]? = some a/\SN t Hd (Vl names x.1) a/\(x.1.choices.all λ c=>c.ways.all λ w=>names.contains w.1)=true:=λ i x e=>by
      obtain⟨a,e1,e2⟩:=Wd.at_ i x e;exact⟨a,e1,e2.all λ c hc=>fN.mpr ⟨x,au e,hc⟩⟩
     have hall:((sx.map (·.1)).all λ s=>s.choices.all λ c=>c.ways.all λ w=>names.contains w.1)=true:=by
      rw[bD];intro s hs;obtain⟨x,hx,rfl⟩:=az.mp hs;obtain⟨i,hi⟩:=B0 hx;obtain⟨_,_,_,z⟩:=fin i x hi;exact z
     rw[if_pos hall,Ld,hnames] at h;refine⟨_,rfl,h _ _ Vr ⟨sl,nY,rfl,TF,?_,λ i s e=>?_⟩⟩
     ·rw[W.len];simp
     ·rw[aj,aj] at e
      cases ex:sx[i]? with
      |none=>rw[ex] at e;cases e
      |some x=>
       rw[ex] at e
       cases e;obtain⟨a,e1,e2,_⟩:=fin i x ex;exact⟨a,e1,e2⟩
theorem p9(T:Txt K mg t)(kb:K.In base):OwnCls "OutOfRange" t.jG [.type "Exception",.type "BaseException",.type "object"] "Exception.__new__" mg base:=rO kb T.ye.mg T.ye.ex
def NS(t:nF):Sp:=λ vs H Q E=>∃n a b:Int,vs=[.int n,.int a,.int b]/\if a<=n/\n<=b then Q .pZ H else E (.ref t.jG) none H
theorem pN(T:Txt K mg t)(kb:K.In base):Ok P w K mg base 1 t.uO t.t8 ["number","least","greatest"] (NS t):=by
 refine T.pW.fn.qD zW (λ vs H Q E h=>?_) λ cdv A outer s H vs Q E hr h=>?_
 ·obtain⟨n,a,b,rfl,_⟩:=h;rfl
 ·obtain⟨n,a,b,rfl,h⟩:=h
  refine⟨_,jg (rJ (Al (LQ nN nN (pv 1) (pv 0) (pv 2))) (jg (xJ xl_of rfl (p9 T kb) cA)) nc),?_⟩;refine⟨_,rfl,_,rfl,_,_,rfl,rfl,_,rfl,?_⟩
  by_cases h1:a<=n
  case neg=>
   rw[if_neg (λ z=>h1 z.1)] at h;exact sX (decide_eq_false h1) ⟨_,rfl,uA h⟩
  refine tW (decide_eq_true h1) ⟨_,rfl,_,_,rfl,rfl,_,rfl,?_⟩
  by_cases h2:n<=b
  ·rw[if_pos ⟨h1,h2⟩] at h;exact sX (by rw[decide_eq_true h2];rfl) h
  ·rw[if_neg (λ z=>h2 z.2)] at h;exact tW (by rw[decide_eq_false h2];rfl) h
theorem sV(T:Txt K mg t)(kb:K.In base):OwnCls "NoSuchGoal" t.jH [.type "Exception",.type "BaseException",.type "object"] "Exception.__new__" mg base:=rO kb T.yf.mg T.yf.ex
theorem vy(T:Txt K mg t)(kb:K.In base):OwnCls "GainTooLow" t.j8 [.type "Exception",.type "BaseException",.type "object"] "Exception.__new__" mg base:=rO kb T.yg.mg T.yg.ex
theorem sW(T:Txt K mg t)(kb:K.In base):OwnCls "NoRoom" t.lM [.type "Exception",.type "BaseException",.type "object"] "Exception.__new__" mg base:=rO kb T.FY.mg T.FY.ex
inductive Told(t:nF):Value->Int->Prop
 |range:Told t (.ref t.jG) (-1)
 |text:Told t (.ref t.ju) (-2)
 |goal:Told t (.ref t.jH) (-3)
 |gain:Told t (.ref t.j8) (-4)
 |room:Told t (.ref t.lM) (-7)
def Vs(t:nF)(Q:VK):XK:=λ cls _ H1=>∃c:Int,Told t cls c/\∀l,H1 l=none->Q (.ref l) (upd H1 l (.lst [.int c]))
theorem HQ(T:Txt K mg t)(kb:K.In base){A:Around}{outer:List Env}{s:Shared}{H:Hp}{Q:VK}{E:XK}{p:Addr}{o:Obj}{fd:FuncData}{k:Nat}(hr:mQ (k+1) A)(e0:yM P w K mg base A outer s H)
  (ho:s.heap.get? p=some o) (hd:o.data=.func fd)
  (run:∀(SV:Env) (A1:Around) (s1:Shared),mQ k A1->yM P w K mg base A1 (SV::outer) s1 H->(∀b o,s.heap.get? b=some o->s1.heap.get? b=some o) ->
   codeAny (model P w) A1 (.call (.ref p) ⟨[],[]⟩) (CR (wU P w) (SV::outer) P w H s1 Q (Vs t Q)) s1) :
  codeAny (model P w) A (.call (.ref t.A0) ⟨[.ref p],[]⟩) (CR (wU P w) outer P w H s Q E) s:=by
 obtain⟨oc,od,kV,doc,pm,an,cdv,ct,osl,Xs,lk,hcd⟩:=T.answer.fn.ex
 have KX:K.In s.heap:=kb.keeps λ b o e=>(e0.bs b o e).1
 have hb:=T.answer.bd s [.ref p] KX rfl
 rw[Xs] at hb lk
 refine MM (vs:=[.ref p]) (us:=[.ref p]) (E:=E) lk hcd KC rfl hr e0 hb (.cons rfl .nil) λ s1 hr1 I kp=>?_
 have hS:∀{D:Ends} {f:Flow} {s':Shared},D.rt=Q->(∀σ H,¬D.nx σ H)->(∀σ H,¬D.bk σ H)->(∀σ H,¬D.ct σ H)->SP (Ay (wU P w) P w K mg base ["work"] "answer" (jk xR) t.A0 cdv A outer s H E) [] D f s'->(match f with
    |.ret u=>CR (wU P w) outer P w H s Q E (.ok (.ret u)) s'
    |.next=>CR (wU P w) outer P w H s Q E (.ok (.ret .none)) s'
    |_=>False):=by
  intro D f s' e1 e2 e3 e4 h
  cases f with
  |ret u=>obtain⟨v,σ',H',J,rv,q⟩:=h;rw[e1] at q;exact⟨v,H',J.os,J.bare,J.base,J.hok,rv,q⟩
  |next=>obtain⟨σ',H',_,q⟩:=h;exact (e2 _ _ q).elim
  |brk=>obtain⟨σ',H',_,q⟩:=h;exact (e3 _ _ q).elim
  |cont=>obtain⟨σ',H',_,q⟩:=h;exact (e4 _ _ q).elim
 refine wpAny_execs_cons (wpAny_mono (MO (Ds:={ nx:=λ _ _=>False,rt:=Q }) (i:=0) (p:=p) (E:=Vs t Q) I rfl rfl rfl (Or.inl rfl) rfl (kp _ _ ho) hd (run _ _ s1 hr1 I.OW kp) ?_) (λ f s' h=>?_) λ e s' h=>h)
 ·rintro a C a0 B h3 s' H1 fl again ⟨c,tc,hq⟩
  have I3:=again h3 fl (Heap.UpToSlots.refl _);have ox:=cA
  cases tc with
  |range=>exact hit I3 fl rfl (p9 T kb) ox (λ E=>jg (jB (mh (ja (kh T.Bf rfl) jd)))) ⟨(by show 1<=sizeLine;decide),hq⟩ again
  |text=>
   refine miss I3 fl rfl (za T kb) (p9 T kb) ox T.sE ?_;exact hit I3 fl rfl (za T kb) ox (λ E=>jg (jB (mh (ja (kh T.Bg rfl) jd)))) ⟨(by show 1<=sizeLine;decide),hq⟩ again
  |goal=>
   refine miss I3 fl rfl (sV T kb) (p9 T kb) ox T.sG ?_;refine miss I3 fl rfl (sV T kb) (za T kb) ox T.sF ?_;exact hit I3 fl rfl (sV T kb) ox (λ E=>jg (jB (mh (ja (kh T.Bh rfl) jd)))) ⟨(by show 1<=sizeLine;decide),hq⟩ again
  |gain=>
   refine miss I3 fl rfl (vy T kb) (p9 T kb) ox T.sJ ?_;refine miss I3 fl rfl (vy T kb) (za T kb) ox T.sI ?_;refine miss I3 fl rfl (vy T kb) (sV T kb) ox T.sL ?_;exact hit I3 fl rfl (vy T kb) ox (λ E=>jg (jB (mh (ja (kh T.Bj rfl) jd)))) ⟨(by show 1<=sizeLine;decide),hq⟩ again
  |room=>
   refine miss I3 fl rfl (sW T kb) (p9 T kb) ox T.vK ?_;refine miss I3 fl rfl (sW T kb) (za T kb) ox T.vJ ?_;refine miss I3 fl rfl (sW T kb) (sV T kb) ox T.vL ?_;refine miss I3 fl rfl (sW T kb) (vy T kb) ox T.vM ?_;exact hit I3 fl rfl (sW T kb) ox (λ E=>jg (jB (mh (ja (kh T.KG rfl) jd)))) ⟨(by show 1<=sizeLine;decide),hq⟩ again
 ·have z:=hS (D:={ nx:=λ _ _=>False,rt:=Q }) rfl (λ _ _ z=>z) (λ _ _ z=>z) (λ _ _ z=>z) h
  cases f with
  |next=>exact wpAny_execs_nil z
  |ret u=>exact z
  |brk=>exact z
  |cont=>exact z
def Given(K:ai)(t:nF)(H:Hp)(Q:VK)(E:XK)(l:Addr)(bs:List Nat)(room:Int):Prop:=jE K H l (jL bs)/\(∀c∈bs,c<256) /\
 if bs.length<=65536/\0<=room/\room<=65536 then HJ (Rd.ku bs) (∀H',E (.ref t.ju) none H') (λ net=>∀v H',jm H H'->NL t net v H'->Q v H') else ∀H',E (.ref t.jG) none H'
def NT(K:ai)(t:nF):Sp:=λ vs H Q E=>∃l bs room,vs=[.ref l,.int room]/\Given K t H Q E l bs room
theorem CO(T:Txt K mg t)(kb:K.In base):Ok P w K mg base 9 t.xW t.vY ["text","room"] (NT K t):=by
 refine T.A6.fn.qD Cz (λ vs H Q E h=>?_) λ cdv A outer s H vs Q E hr h=>?_
 ·obtain⟨l,bs,room,rfl,_⟩:=h;rfl
 ·obtain⟨l,bs,room,rfl,hl,hb,h⟩:=h
  have hr1:=hr.mono (show 1<=8 by decide);refine⟨_,jc (jJ (jI T.pW (pN T kb) hr1 rfl (jA xl_of) (ja (jX jK (by rfl) T.qx nH (ja (pv 0) jd))<|ja jv<|ja (kh T.Be rfl) jd)))<|
   jc (jJ (jI T.pW (pN T kb) hr1 rfl (jA xl_of) (ja (pv 1)<|ja jv<|ja (kh T.zY rfl) jd)))<|
   jg (jB (jI T.zC (B4 T kb) hr rfl (jA xl_of) (ja (pv 0) jd))),?_⟩
  refine⟨_,rfl,l,_,rfl,.inl hl,_,_,_,rfl,?_⟩;rw[jT]
  by_cases h1:bs.length<=65536
  case neg=>
   rw[if_neg (λ z=>h1 z.1)] at h;rw[if_neg (λ z=>h1 (by omega))];exact h _
  rw[if_pos ⟨by omega,by omega⟩];refine⟨_,rfl,_,_,_,rfl,?_⟩
  by_cases h2:0<=room/\room<=65536
  case neg=>
   rw[if_neg (λ z=>h2 z.2)] at h;rw[if_neg h2];exact h _
  rw[if_pos ⟨h1,h2⟩] at h;rw[if_pos h2];exact⟨_,rfl,l,bs,rfl,hl,h1,hb,h⟩
def NU(K:ai)(t:nF):Sp:=λ vs H Q E=>∃l bs room g,vs=[.ref l,.int room,.int g]/\jE K H l (jL bs)/\(∀c∈bs,c<256) /\
 if (0<=g/\g<=65535)/\bs.length<=65536/\0<=room/\room<=65536 then HJ (Rd.ku bs) (∀H',E (.ref t.ju) none H') (λ net=>if 2^net.length<=g.toNat then ∀H',E (.ref t.jH) none H' else ∀v H',jm H H'->NL t net v H'->Q v H') else ∀H',E (.ref t.jG) none H'
theorem NV{g:Int}{n:Nat}(hg:0<=g):decide (V.int (g/2^n)=V.int 0)=decide (¬2^n<=g.toNat):=by
 rw[mq,aT,beq_iff_eq,decide_eq_true_eq]
 obtain⟨m,rfl⟩:=fc hg
 have e:(m:Int)/2^n=((m/2^n:Nat):Int):=by push_cast;rfl
 rw[e,bP]
 have hp:0<2^n:=Nat.two_pow_pos n
 constructor
 ·intro z q
  have:m/2^n=0:=by omega
  rw[Nat.div_eq_zero_iff] at this;omega
 ·intro q
  have:m/2^n=0:=Nat.div_eq_of_lt (by omega);omega
theorem vN(T:Txt K mg t)(kb:K.In base):Ok P w K mg base 10 t.qt t.pS ["text","room","goals"] (NU K t):=by
 refine T.sD.fn.qD pQ (λ vs H Q E h=>?_) λ cdv A outer s H vs Q E hr h=>?_
 ·obtain⟨l,bs,room,g,rfl,_⟩:=h;rfl
 ·obtain⟨l,bs,room,g,rfl,hl,hb,h⟩:=h
  have hr1:=hr.mono (show 1<=9 by decide);refine⟨_,jc (jJ (jI T.pW (pN T kb) hr1 rfl (jA xl_of) (ja (pv 2)<|ja jv<|ja (kh T.y9 rfl) jd)))<|
   jc (jD (i:=3) pQ.nd rfl (Or.inl rfl) (jI T.A6 (CO T kb) hr rfl (jA xl_of) (ja (pv 0)<|ja (pv 1) jd)))<|
   jc (rJ (lU CY (kB LL (pv 2) (jX jK (by rfl) T.qx nH (ja (pv 3) jd))) jv (kC _)) (jg (xJ xl_of rfl (sV T kb) cA)) nc)<|
   jg (jB (pv 3)),?_⟩
  refine⟨_,rfl,_,_,_,rfl,?_⟩
  by_cases h1:0<=g/\g<=65535
  case neg=>
   rw[if_neg (λ z=>h1 z.1)] at h;rw[if_neg h1];exact h _
  rw[if_pos h1];refine⟨_,rfl,_,rfl,l,bs,room,rfl,hl,hb,?_⟩
  by_cases h2:bs.length<=65536/\0<=room/\room<=65536
  case neg=>
   rw[if_neg (λ z=>h2 z.2)] at h;rw[if_neg h2];exact h
  rw[if_pos ⟨h1,h2⟩] at h;rw[if_pos h2]
  cases e:Rd.ku bs with
  |none=>rw[e] at h;exact h
  |some net=>
   rw[e] at h;intro v H' sm hv;obtain⟨sl,nY,rfl,hsl,hst⟩:=id hv;refine⟨_,rfl,_,rfl,sl,_,rfl,.inl (jE.of hsl),_,_,rfl,rfl,by omega,rfl,_,rfl,?_⟩;have ez:=NV (g:=g) (n:=nY.length) h1.1;have en:((nY.map V.ref).length:Int).toNat=nY.length:=by simp
   have Xu:=hst.len;have eb:(!decide (V.int (g/2^((nY.map V.ref).length:Int).toNat)=V.int 0))=decide (2^nY.length<=g.toNat):=by
    rw[en,ez]
    by_cases z:2^nY.length<=g.toNat
    ·rw[decide_eq_false (λ q=>q z),decide_eq_true z];rfl
    ·rw[decide_eq_true z,decide_eq_false z];rfl
   have h:if 2^net.length<=g.toNat then ∀H',E (.ref t.jH) none H' else ∀v H',jm H H'->NL t net v H'->Q v H':=h
   rw[<-Xu] at h
   by_cases h3:2^nY.length<=g.toNat
   ·rw[if_pos h3] at h;exact tW (eb.trans (decide_eq_true h3)) (h _)
   ·rw[if_neg h3] at h;exact sX (eb.trans (decide_eq_false h3)) ⟨_,rfl,h _ _ sm hv⟩
theorem Ql{g:Int}{s:Nat}(hg:0<=g):Builtin.bitAnd (g/2^s) 1=if Ra61.isGoal g.toNat s=true then 1 else 0:=by
 rw[PyProof.Rows.bitAnd_m1]
 obtain⟨m,rfl⟩:=fc hg
 have e:(m:Int)/2^s%2=((m/2^s%2:Nat):Int):=by push_cast;rfl
 rw[e,bP]
 unfold Ra61.isGoal
 have:m/2^s%2=0\/m/2^s%2=1:=by omega
 rcases this with q | q<;>rw[q]<;>rfl
def mP(n:Nat)(g:Nat):List Int:=(ay n).map λ s=>if Ra61.isGoal g s=true then 1 else 0
def NW(K:ai):Sp:=λ vs H Q _=>∃g sl xs,vs=[.int g,.ref sl]/\0<=g/\jE K H sl xs/\xs.length<=16/\∀D,H D=none->Q (.ref D) (upd H D (.lst ((mP xs.length g.toNat).map V.int)))
theorem CP(T:Txt K mg t):Ok P w K mg base 1 t.xY t.vZ ["goals","states"] (NW K):=by
 refine T.A7.fn.qD rA (λ vs H Q E h=>?_) λ cdv A outer s H vs Q E hr h=>?_
 ·obtain⟨g,sl,xs,rfl,_⟩:=h;rfl
 ·obtain⟨g,sl,xs,rfl,hg,hl,hn,h⟩:=h
  refine⟨_,jg (jB (pO (own:=[("place",2)]) rfl rA.nd (vA (by rfl) T.Ab (ja (jX jK (by rfl) T.qx nH (ja (pv 1) jd)) jd)) (j5 rfl) (λ _ _ _ _ _=>j0 (i:=2) rA.nd rfl (Or.inl rfl)) (λ _ _ _ _ _=>kY)
   (λ _ _ _ _ _=>kB RH (kB LL (pv 0) (pv 2)) jv))),?_⟩
  refine⟨_,rfl,sl,_,rfl,.inl hl,_,rfl,by omega,by omega,λ D hD=>?_⟩;have en:(xs.length:Int).toNat=xs.length:=by simp
  refine Ft (n:=(xs.length:Int).toNat) (λ i H8=>H8=upd H D (.lst (((mP xs.length g.toNat).map V.int).take i))) rfl ?_ ?_
  ·rintro i H8 hi rfl;rw[en] at hi;refine⟨rfl,?_⟩;refine⟨_,rfl,_,rfl,_,_,rfl,rfl,by omega,_,_,rfl,rfl,_,jb,?_,?_⟩
   ·rw[aX,sizeLine_eq];unfold mP;simp;omega
   ·have e1:(0+(i:Int)).toNat=i:=by omega
    show upd (upd _ D _) D (.lst (_++[V.int (Builtin.bitAnd (g/2^(0+(i:Int)).toNat) 1)]))=_;rw[jU,e1,Ql hg,take_snoc (l:=(mP xs.length g.toNat).map V.int) (x:=V.int (if Ra61.isGoal g.toNat i=true then 1 else 0)) (by unfold mP;rw[aj,aj,aO hi];rfl)]
  ·rintro H8 rfl;rw[en,aA (by unfold mP;simp)];exact h D hD
theorem NX(x y:Int):iG y (x%y)=iG x y:=by
 rw[Int.emod_def,Int.gcd_comm x y]
 simp
def SW:Sp:=λ vs H Q _=>∃a b:Int,vs=[.int a,.int b]/\0<b/\Q (.int (iG a b:Nat)) H
theorem yH(T:Txt K mg t):Ok P w K mg base 1 t.rX t.qK ["number","other"] SW:=by
 refine T.u3.fn.qD mr (λ vs H Q E h=>?_) λ cdv A outer s H vs Q E hr h=>?_
 ·obtain⟨a,b,rfl,_⟩:=h;rfl
 ·obtain⟨a,b,rfl,hb,h⟩:=h
  refine⟨_,jc (mU mW (lU CY (pv 1) jv (kC _))
    (jc (jD (i:=2) mr.nd rfl (Or.inl rfl) (kB GR (pv 0) (pv 1)))<|
      jc (jD (i:=0) mr.nd rfl (Or.inl rfl) (pv 1))<|
      jg (jD (i:=1) mr.nd rfl (Or.inl rfl) (pv 2))))<|
   jg (jB (pv 0)),?_⟩
  refine⟨λ m σ H'=>∃(x y:Int) (v2:Option V),σ=[some (.int x),some (.int y),v2]/\0<=y/\(0<x\/0<y)/\iG x y=iG a b/\m=y.toNat/\H'=H,⟨_,a,b,none,rfl,by omega,.inr hb,rfl,rfl,rfl⟩,?_⟩;rintro m σ H' ⟨x,y,v2,rfl,hy,hxy,e,rfl,hH⟩;have hH':=hH.symm;subst hH';refine⟨_,rfl,rfl,_,rfl,?_⟩
  by_cases h0:y=0
  ·subst h0;refine sX (by rw[mq];rfl) ⟨_,rfl,?_⟩;have hx:0<x:=by omega
   rw[Int.gcd_zero] at e;have ex:x=((iG a b:Nat):Int):=by omega
   rw[ex];exact h
  ·have hy1:0<y:=by omega
   refine tW (by rw[mq];simpa using h0) ⟨λ σ H'=>∃v2,σ=[some (.int y),some (.int (x%y)),v2]/\H'=H,?_,?_⟩
   ·rintro σ' H' ⟨v2',rfl,hH2⟩;have hlt:=Int.emod_lt_of_pos x hy1;have hge:=Int.emod_nonneg x h0;exact⟨(x%y).toNat,by omega,y,x%y,v2',rfl,hge,.inl (by omega),(NX x y).trans e,rfl,hH2⟩
   ·refine⟨_,rfl,_,rfl,_,_,rfl,rfl,hy1,_,rfl,_,rfl,?_⟩;exact⟨_,rfl,rfl⟩
def Qm(jf bot:V):List (Str×V):=mV "bottom" bot (mV "tops" jf [])
def Lg(os es:V):List (Str×V):=mV "ends" es (mV "options" os [])
theorem Gm(a b:V):(Qm a b).lookup ("tops":Str)=some a:=by
 unfold Qm;rw[jq,if_neg (by decide),jq,if_pos rfl]
theorem B5(a b:V):(Qm a b).lookup ("bottom":Str)=some b:=by
 unfold Qm;rw[jq,if_pos rfl]
theorem vz(a b:V):(Lg a b).lookup ("options":Str)=some a:=by
 unfold Lg;rw[jq,if_neg (by decide),jq,if_pos rfl]
theorem NY(a b:V):(Lg a b).lookup ("ends":Str)=some b:=by
 unfold Lg;rw[jq,if_pos rfl]
def B6(t:nF):Sp:=λ vs H Q _=>∃x dx a b,vs=[.ref x,a,b]/\H x=some (.ins t.nS dx [])/\Q .pZ (upd H x (.ins t.nS dx (Qm a b)))
theorem B7(T:Txt K mg t):Ok P w K mg base 1 t.wC t.uW ["self","tops","bottom"] (B6 t):=by
 refine T.zG.fn.qD AX (λ vs H Q E h=>?_) λ cdv A outer s H vs Q E hr h=>?_
 ·obtain⟨x,dx,a,b,rfl,_⟩:=h;rfl
 ·obtain⟨x,dx,a,b,rfl,hx,h⟩:=h
  refine⟨_,jc (om (pv 0) (pv 1) rfl) (jg (om (pv 0) (pv 2) rfl)),?_⟩;refine⟨_,rfl,_,rfl,x,_,dx,_,rfl,hx,T.o7.cl,T.rD,(by show 0<1000;decide),?_⟩;refine⟨_,rfl,_,rfl,x,_,dx,_,rfl,jb,T.o7.cl,T.pM,(by show 1<1000;decide),?_⟩;rw[jU];exact h
def CQ(t:nF):Sp:=λ vs H Q _=>∃x dx a b,vs=[.ref x,a,b]/\H x=some (.ins t.lK dx [])/\Q .pZ (upd H x (.ins t.lK dx (Lg a b)))
theorem CS(T:Txt K mg t):Ok P w K mg base 1 t.x9 t.wF ["self","options","ends"] (CQ t):=by
 refine T.Ba.fn.qD CB (λ vs H Q E h=>?_) λ cdv A outer s H vs Q E hr h=>?_
 ·obtain⟨x,dx,a,b,rfl,_⟩:=h;rfl
 ·obtain⟨x,dx,a,b,rfl,hx,h⟩:=h
  refine⟨_,jc (om (pv 0) (pv 1) rfl) (jg (om (pv 0) (pv 2) rfl)),?_⟩;refine⟨_,rfl,_,rfl,x,_,dx,_,rfl,hx,T.mT.cl,T.nv,(by show 0<1000;decide),?_⟩;refine⟨_,rfl,_,rfl,x,_,dx,_,rfl,jb,T.mT.cl,T.yc,(by show 1<1000;decide),?_⟩;rw[jU];exact h
def Jp(t:nF)(H:Hp)(o:Fq.kU)(a:Addr):Prop:=∃dx nm wy ps,H a=some (.ins t.jS dx (z0 (.ref nm) (.int o.gain) (.ref wy) (.int o.tot)))/\H nm=some (.tup (jL o.name))/\H wy=some (.lst (ps.map V.ref))/\Ea (K9 H) ps o.ways
theorem Jp.same{H H':Hp}{o:Fq.kU}{a:Addr}(h:Jp t H o a)(k:jm H H'):Jp t H' o a:=by
 obtain⟨dx,nm,wy,ps,h1,h2,h3,h4⟩:=h
 exact⟨dx,nm,wy,ps,k _ _ h1,k _ _ h2,k _ _ h3,h4.mono λ x a h=>k _ _ h⟩
def Jq(t:nF)(H:Hp)(os:List Fq.kU)(a:Addr):Prop:=∃as:List Addr,H a=some (.lst (as.map V.ref))/\Ea (Jp t H) as os
theorem Jq.same{H H':Hp}{os:List Fq.kU}{a:Addr}(h:Jq t H os a)(k:jm H H'):Jq t H' os a:=by
 obtain⟨as,h1,h2⟩:=h
 exact⟨as,k _ _ h1,h2.mono λ x a h=>h.same k⟩
def Qn(c:Ra61.Choice):Fq.kU:=⟨c.name,c.gain,c.ways,(c.weight:Int)⟩
theorem Lx.op{H:Hp}{c:Ra61.Choice}{a:Addr}(h:Lx t H c a):Jp t H (Qn c) a:=by
 obtain⟨dx,nm,wy,ps,h1,h2,h3,h4⟩:=h
 have e:(c.ways.map λ w=>(w.2:Int)).sum=((Qn c).tot):=by
  show _=(((c.ways.map λ w=>w.2).sum:Nat):Int)
  induction c.ways with
  |nil=>rfl
  |cons w r ih=>rw[aU,aU,cW,cW,ih,Int.natCast_add]
 exact⟨dx,nm,wy,ps,by rw[<-e];exact h1,h2,h3,h4⟩
theorem Ea.map{α β:Type}{R:α->Addr->Prop}{S:β->Addr->Prop}{f:α->β}{as:List Addr}{xs:List α}(E:Ea R as xs)(h:∀x a,R x a->S (f x) a):Ea S as (xs.map f):=
 ⟨by rw[ah];exact E.len,λ i y e=>by
  rw[aj] at e
  cases q:xs[i]? with
  |none=>rw[q] at e;cases e
  |some x=>rw[q] at e;cases e;obtain⟨a,e1,e2⟩:=E.at_ i x q;exact⟨a,e1,h x a e2⟩⟩
def Oz(t:nF)(H:Hp)(D:Addr)(o:Fq.kU)(a:Addr):Prop:=∃dx nm wy ps,H a=some (.ins t.jS dx (z0 (.ref nm) (.int o.gain) (.ref wy) (.int o.tot)))/\H nm=some (.tup (jL o.name))/\H wy=some (.lst (ps.map V.ref))/\Ea (K9 H) ps o.ways/\wy≠D
def Jr(t:nF)(H:Hp)(D:Addr)(os:List Fq.kU)(a:Addr):Prop:=a≠D/\∃as:List Addr,H a=some (.lst (as.map V.ref))/\Ea (Oz t H D) as os
theorem Oz.op{H:Hp}{D:Addr}{o:Fq.kU}{a:Addr}(h:Oz t H D o a):Jp t H o a:=by
 obtain⟨dx,nm,wy,ps,h1,h2,h3,h4,_⟩:=h
 exact⟨dx,nm,wy,ps,h1,h2,h3,h4⟩
theorem Oz.same{H H':Hp}{D:Addr}{o:Fq.kU}{a:Addr}(h:Oz t H D o a)(k:jm H H'):Oz t H' D o a:=by
 obtain⟨dx,nm,wy,ps,h1,h2,h3,h4,h5⟩:=h
 exact⟨dx,nm,wy,ps,k _ _ h1,k _ _ h2,k _ _ h3,h4.mono λ x a h=>k _ _ h,h5⟩
theorem Oz.put{H:Hp}{D:Addr}{o:Fq.kU}{a:Addr}{xs ys:List V}(h:Oz t H D o a)(hD:H D=some (.lst xs)):Oz t (upd H D (.lst ys)) D o a:=by
 obtain⟨dx,nm,wy,ps,h1,h2,h3,h4,h5⟩:=h
 exact⟨dx,nm,wy,ps,by rw[je (nK h1 hD (by intro z;cases z))];exact h1,by rw[je (nK h2 hD (by intro z;cases z))];exact h2,by rw[je h5];exact h3,h4.mono λ x a h=>by
  show (upd H D (.lst ys)) a=_;rw[je (nK (show H a=_ from h) hD (by intro z;cases z))];exact h,h5⟩
theorem Jp.new{H H':Hp}{D:Addr}{o:Fq.kU}{a:Addr}(h:Jp t H o a)(hD:H D=none)(k:jm H H'):Oz t H' D o a:=by
 obtain⟨dx,nm,wy,ps,h1,h2,h3,h4⟩:=h
 exact⟨dx,nm,wy,ps,k _ _ h1,k _ _ h2,k _ _ h3,h4.mono λ x a h=>k _ _ h,jh h3 hD⟩
theorem Jr.os{H:Hp}{D:Addr}{os:List Fq.kU}{a:Addr}(h:Jr t H D os a):Jq t H os a:=by
 obtain⟨_,as,h1,h2⟩:=h
 exact⟨as,h1,h2.mono λ x a h=>h.op⟩
theorem Jr.same{H H':Hp}{D:Addr}{os:List Fq.kU}{a:Addr}(h:Jr t H D os a)(k:jm H H'):Jr t H' D os a:=by
 obtain⟨h0,as,h1,h2⟩:=h
 exact⟨h0,as,k _ _ h1,h2.mono λ x a h=>h.same k⟩
theorem Jr.put{H:Hp}{D:Addr}{os:List Fq.kU}{a:Addr}{xs ys:List V}(h:Jr t H D os a)(hD:H D=some (.lst xs)):Jr t (upd H D (.lst ys)) D os a:=by
 obtain⟨h0,as,h1,h2⟩:=h
 exact⟨h0,as,by rw[je h0];exact h1,h2.mono λ x a h=>h.put hD⟩
theorem Jq.new{H H':Hp}{D:Addr}{os:List Fq.kU}{a:Addr}(h:Jq t H os a)(hD:H D=none)(k:jm H H'):Jr t H' D os a:=by
 obtain⟨as,h1,h2⟩:=h
 exact⟨jh h1 hD,as,k _ _ h1,h2.mono λ x a h=>h.new hD k⟩
def B8(m:Int)(o:Fq.kU):Fq.kU:=⟨o.name,o.gain*m,o.ways,o.tot⟩
def B9(t:nF)(H0 H:Hp)(o:Fq.kU)(a:Addr):Prop:=∃dx nm wy ps,H a=some (.ins t.jS dx (z0 (.ref nm) (.int o.gain) (.ref wy) (.int o.tot)))/\H0 nm=some (.tup (jL o.name))/\H0 wy=some (.lst (ps.map V.ref))/\Ea (K9 H0) ps o.ways
def NZ(K:ai)(t:nF):Sp:=λ vs H Q _=>∃(H0:Hp) (cl:Addr) (m:Int) (nM:List Addr) (os:List Fq.kU),vs=[.ref cl,.int m]/\jm H0 H/\(m=0\/m = -1)/\jE K H cl (nM.map V.ref)/\Ea (Jp t H0) nM os/\nM.length<=8 /\
 ∀(D:Addr) (as:List Addr) (H':Hp),jm H H'->H D=none->H' D=some (.lst (as.map V.ref))->Ea (B9 t H0 H') as (os.map (B8 m))->Q (.ref D) H'
theorem B9.op{H0 H:Hp}{o:Fq.kU}{a:Addr}(h:B9 t H0 H o a)(k:jm H0 H):Jp t H o a:=by
 obtain⟨dx,nm,wy,ps,h1,h2,h3,h4⟩:=h
 exact⟨dx,nm,wy,ps,h1,k _ _ h2,k _ _ h3,h4.mono λ x a h=>k _ _ h⟩
theorem Ca(T:Txt K mg t):Ok P w K mg base 3 t.wc t.uP ["choices","times"] (NZ K t):=by
 refine T.zD.fn.qD qm (λ vs H Q E h=>?_) λ cdv A outer s H vs Q E hr h=>?_
 ·obtain⟨H0,cl,m,nM,os,rfl,_⟩:=h;rfl
 ·obtain⟨H0,cl,m,nM,os,rfl,k0,hm,hl,W,hn,h⟩:=h
  refine⟨_,jg (jB (pO (own:=[("choice",2)]) rfl qm.nd (lH (pv 0)) (j5 rfl) (λ _ _ _ _ _=>j0 (i:=2) qm.nd rfl (Or.inl rfl)) (λ _ _ _ _ _=>kY)
   (λ _ _ _ _ _=>Dj T.jN T.u4 (vq T) hr rfl jF (ja (jR K (pv 2) rfl)<|ja (kB uw (jR K (pv 2) rfl) (pv 1))<|ja (jR K (pv 2) rfl)<|ja (jR K (pv 2) rfl) jd)))),?_⟩
  refine⟨_,rfl,cl,rfl,⟨_,hl⟩,λ D hD=>mR (K:=K) (a:=cl) (xs:=nM.map V.ref) (λ i H9=>∃as:List Addr,as.length=i/\jm H H9/\H9 D=some (.lst (as.map V.ref))/\Ea (B9 t H0 H9) as ((os.map (B8 m)).take i))
   ⟨[],rfl,jj hD,jb,Ea.nil⟩ (λ i H9 _ ⟨_,_,e,_,_⟩=>jm.seq e hl) ?_ ?_⟩
  ·rintro i v H9 hi ⟨as,has,s9,h9,E9⟩;obtain⟨ca,ea,rfl⟩:=lY hi;obtain⟨o,eo,dx,nm,wy,ps,c1,c2,c3,c4⟩:=W.get ea;have VY:=s9 _ _ (k0 _ _ c1);refine⟨rfl,?_⟩;refine⟨_,rfl,ca,_,dx,_,_,rfl,VY,T.jN.cl,T.rC,Gi _ _ _ _,_,rfl,ca,_,dx,_,_,rfl,VY,T.jN.cl,T.oO,yE _ _ _ _,_,rfl,_,_,rfl,rfl,?_,_,rfl,ca,_,dx,_,_,rfl,VY,T.jN.cl,T.lT,vp _ _ _ _,_,rfl,ca,_,dx,_,_,rfl,VY,T.jN.cl,T.lE,p6 _ _ _ _,?_⟩
   ·exact .inr (by rcases hm with rfl | rfl<;>exact⟨by decide,by decide⟩)
   intro x Xv hx Xw hne;refine⟨x,Xv,_,_,_,_,rfl,jb,rfl,?_⟩;rw[jU];have sm:=p8 (u:=.own x) (v:=.ins t.jS Xv (z0 (.ref nm) (.int (o.gain*m)) (.ref wy) (.int o.tot))) hx Xw;refine⟨as.map V.ref,sm _ _ h9,?_,as++[x],by simp[has],?_,?_,?_⟩
   ·rw[ah,has,sizeLine_eq];have:=(ao.mp ea).1;omega
   ·intro b ob eb;rw[je (jh eb hD)];exact sm _ _ (s9 _ _ eb)
   ·rw[jb,bu];rfl
   ·have hDl:=sm _ _ h9;rw[take_snoc (l:=os.map (B8 m)) (x:=B8 m o) (by rw[aj,eo];rfl)];have hxD:x≠D:=λ z=>by rw[z,h9] at hx;cases hx
    refine Ea.snoc (E9.mono λ o' a' h'=>?_) ⟨Xv,nm,wy,ps,by rw[je hxD];exact jb,c2,c3,c4⟩;obtain⟨Ug,UI,VT,ps',q1,q2,q3,q4⟩:=h';exact⟨Ug,UI,VT,ps',by rw[je (nK q1 h9 (by intro z;cases z))];exact sm _ _ q1,q2,q3,q4⟩
  ·rintro H9 ⟨as,has,s9,h9,E9⟩;rw[ah] at has E9;rw[aA (by rw[ah,<-W.len];exact aq _)] at E9;exact h D as H9 s9 hD h9 E9
def N1(t:nF)(H0 H:Hp)(os:List Fq.kU)(a:Addr):Prop:=∃as:List Addr,H a=some (.lst (as.map V.ref))/\Ea (B9 t H0 H) as os
theorem N1.os{H0 H:Hp}{os:List Fq.kU}{a:Addr}(h:N1 t H0 H os a)(k:jm H0 H):Jq t H os a:=by
 obtain⟨as,h1,h2⟩:=h
 exact⟨as,h1,h2.mono λ x a h=>h.op k⟩
theorem B9.same{H0 H H':Hp}{o:Fq.kU}{a:Addr}(h:B9 t H0 H o a)(k:jm H H'):B9 t H0 H' o a:=by
 obtain⟨dx,nm,wy,ps,h1,h2,h3,h4⟩:=h
 exact⟨dx,nm,wy,ps,k _ _ h1,h2,h3,h4⟩
theorem N1.same{H0 H H':Hp}{os:List Fq.kU}{a:Addr}(h:N1 t H0 H os a)(k:jm H H'):N1 t H0 H' os a:=by
 obtain⟨as,h1,h2⟩:=h
 exact⟨as,k _ _ h1,h2.mono λ x a h=>h.same k⟩
theorem B9.put{H0 H:Hp}{o:Fq.kU}{a D:Addr}{xs ys:List V}(h:B9 t H0 H o a)(hD:H D=some (.lst xs)):B9 t H0 (upd H D (.lst ys)) o a:=by
 obtain⟨dx,nm,wy,ps,h1,h2,h3,h4⟩:=h
 exact⟨dx,nm,wy,ps,by rw[je (nK h1 hD (by intro z;cases z))];exact h1,h2,h3,h4⟩
theorem N1.put{H0 H:Hp}{os:List Fq.kU}{a D:Addr}{xs ys:List V}(h:N1 t H0 H os a)(hD:H D=some (.lst xs))(ne:a≠D):N1 t H0 (upd H D (.lst ys)) os a:=by
 obtain⟨as,h1,h2⟩:=h
 exact⟨as,by rw[je ne];exact h1,h2.mono λ x a h=>h.put hD⟩
def DX(N:Ra61.Net)(g:Nat)(m:Int)(s:Nat):List Fq.kU:=if Ra61.isGoal g s=true then [] else (Ra61.choicesOf N s).map (Fq.lX m)
def Qo(K:ai)(t:nF):Sp:=λ vs H Q _=>∃(ml sl:Addr) (m:Int) (N:Ra61.Net) (g:Nat) (nY:List Addr),vs=[.ref ml,.ref sl,.int m]/\(m=0\/m = -1)/\jE K H ml ((mP N.length g).map V.int)/\jE K H sl (nY.map V.ref)/\Ea (SN t H) nY N/\Fq.Good N /\
 ∀(D:Addr) (ls:List Addr) (H':Hp),jm H H'->H D=none->H' D=some (.lst (ls.map V.ref))->Ea (Jq t H') ls (Fq.rF N g m)->Q (.ref D) H'
theorem qC{n g i:Nat}{v:V}(h:((mP n g).map V.int)[i]? = some v):i<n/\v=.int (if Ra61.isGoal g i=true then 1 else 0):=by
 unfold mP at h
 rw[aj,aj] at h
 by_cases hi:i<n
 ·rw[aO hi] at h
  cases h;exact⟨hi,rfl⟩
 ·rw[bO (by simpa using hi)] at h
  cases h
theorem z4(T:Txt K mg t):Ok P w K mg base 4 t.uQ t.t9 ["marks","states","times"] (Qo K t):=by
 refine T.yb.fn.qD pJ (λ vs H Q E h=>?_) λ cdv A outer s H vs Q E hr h=>?_
 ·obtain⟨ml,sl,m,N,g,nY,rfl,_⟩:=h;rfl
 ·obtain⟨ml,sl,m,N,g,nY,rfl,hm,hml,hsl,W,G,h⟩:=h
  refine⟨_,jg (jB (pO (own:=[("mark",3),("state",4)]) rfl pJ.nd (Ef (by rfl) T.IL (ja (pv 0)<|ja (pv 1) jd)) (j5 rfl)
   (λ _ _ _ _ _=>tF K (i:=3) (j:=4) rfl pJ.nd rfl rfl (Or.inl rfl) (Or.inl rfl)) (λ _ _ _ _ _=>kY)
   (λ _ _ _ _ _=>uu (Em K (pv 3)) (mh jd) (jI T.zD (Ca T) hr rfl jF (ja (jR K (pv 4) rfl)<|ja (pv 2) jd))))),?_⟩
  have nl:(mP N.length g).length=N.length:=by unfold mP;simp
  have hlen:((mP N.length g).map V.int).length=(nY.map V.ref).length:=by rw[ah,ah,nl,W.len]
  refine⟨_,rfl,_,rfl,ml,sl,_,_,rfl,hml,hsl,λ D hD=>G9 (K:=K) (a:=ml) (b:=sl) (xs:=(mP N.length g).map V.int) (ys:=nY.map V.ref) hlen
   (λ i H9=>∃ls:List Addr,ls.length=i/\jm H H9/\H9 D=some (.lst (ls.map V.ref))/\Ea (λ os a=>N1 t H H9 os a/\a≠D) ls ((Fq.rF N g m).take i))
   ⟨[],rfl,jj hD,jb,Ea.nil⟩ (λ i H9 _ ⟨_,_,e,_,_⟩=>⟨jm.seq e hml,jm.seq e hsl⟩) ?_ ?_⟩
  ·rintro i v u H9 T9 hi hj Qp ⟨ls,hls,s9,h9,E9⟩;obtain⟨hin,rfl⟩:=qC hi;obtain⟨sa,ea,rfl⟩:=lY hj;obtain⟨st,es,dx,nm,cl,nM,c1,c2,c3,c4⟩:=W.get ea;have hu:∀{b o},H9 b=some o->(upd H9 T9 (.tup [.int (if Ra61.isGoal g i=true then 1 else 0),.ref sa])) b=some o:=λ {b o} e=>by rw[je (jh e Qp)];exact e
   have tl:(Fq.rF N g m)[i]? = some (DX N g m i):=by
    unfold Fq.rF;rw[aj,aO hin];rfl
   have lsl:ls.length<sizeLine:=by rw[sizeLine_eq];have:=G.len.2;omega
   refine zT.at jb ⟨rfl,?_⟩;have Js:jm H (upd H9 T9 (.tup [.int (if Ra61.isGoal g i=true then 1 else 0),.ref sa])):=λ b o e=>hu (s9 b o e)
   have fin:∀(z:Addr) (H4:Hp),jm (upd H9 T9 (.tup [.int (if Ra61.isGoal g i=true then 1 else 0),.ref sa])) H4->N1 t H H4 (DX N g m i) z->z≠D->∃acc,H4 D=some (.lst acc)/\acc.length<sizeLine/\∃ls:List Addr,ls.length=i+1/\jm H (upd H4 D (.lst (acc++[V.ref z]))) /\
     (upd H4 D (.lst (acc++[V.ref z]))) D=some (.lst (ls.map V.ref))/\Ea (λ os a=>N1 t H (upd H4 D (.lst (acc++[V.ref z]))) os a/\a≠D) ls ((Fq.rF N g m).take (i+1)):=λ z H4 k4 hz hne=>by
    have N2:=k4 _ _ (hu h9);refine⟨ls.map V.ref,N2,by rw[ah];exact lsl,ls++[z],by simp[hls],λ b o e=>?_,by rw[jb,bu];rfl,?_⟩
    ·rw[je (jh e hD)];exact k4 _ _ (hu (s9 _ _ e))
    ·rw[take_snoc tl];exact Ea.snoc (E9.mono λ x a h=>⟨(h.1.same λ b o e=>k4 _ _ (hu e)).put N2 h.2,h.2⟩) ⟨hz.put N2 hne,hne⟩
   by_cases hg:Ra61.isGoal g i=true
   ·refine⟨_,rfl,true,?_,?_⟩
    ·rw[if_pos hg];rfl
    ·refine tW rfl ?_;refine⟨by simp,λ z hz=>fin z _ (jj hz) ?_ (λ q=>by rw[q,hu h9] at hz;cases hz)⟩;have e0:DX N g m i=[]:=by unfold DX;rw[if_pos hg]
     rw[e0];exact⟨[],jb,Ea.nil⟩
   ·refine⟨_,rfl,false,?_,?_⟩
    ·rw[if_neg hg];rfl
    ·have c3':jm H (upd H9 T9 (.tup [.int (if Ra61.isGoal g i=true then 1 else 0),.ref sa])):=Js;have stm:=au es;refine sX rfl ?_;refine⟨_,rfl,sa,_,dx,_,_,rfl,Js _ _ c1,T.tU.cl,T.pL,zN _ _,_,rfl,H,cl,m,nM,st.choices.map Qn,rfl,Js,hm,.inl (.inl (Js _ _ c3)),c4.map λ x a h=>h.op,by rw[c4.len];exact G.few st stm,?_⟩;intro z as H4 k4 hz hz4 E4;refine fin z H4 k4 ⟨as,hz4,?_⟩ (λ q=>by rw[q,hu h9] at hz;cases hz);have e0:DX N g m i=(Ra61.choicesOf N i).map (Fq.lX m):=by unfold DX;rw[if_neg hg]
     rw[e0];have:(st.choices.map Qn).map (B8 m)=(Ra61.choicesOf N i).map (Fq.lX m):=by
      rw[eF];unfold Ra61.choicesOf;rw[es];rfl
     rw[<-this];exact E4
  ·rintro H9 ⟨ls,hls,s9,h9,E9⟩;rw[ah,nl] at hls E9;rw[aA (by unfold Fq.rF;simp)] at E9;exact h D ls H9 s9 hD h9 (E9.mono λ x a h=>h.1.os s9)
def OA(K:ai)(t:nF)(H:Hp)(va:Addr)(jf:List Int)(bot:Int):Prop:=∃dv tl,H va=some (.ins t.nS dv (Qm (.ref tl) (.int bot)))/\jE K H tl (jf.map V.int)
theorem OA.same{H H':Hp}{va:Addr}{jf:List Int}{bot:Int}(h:OA K t H va jf bot)(k:jm H H'):OA K t H' va jf bot:=by
 obtain⟨dv,tl,h1,h2⟩:=h
 exact⟨dv,tl,k _ _ h1,k.seq h2⟩
structure Small(o:Fq.kU)(n:Nat):Prop where
 gain:-1000<=o.gain/\o.gain<=1000
 tot:0<o.tot/\o.tot<=16000000
 ways:o.ways.length<=16/\∀w∈o.ways,w.1<n/\w.2<=1000000
theorem Small.gt{o:Fq.kU}{n:Nat}(S:Small o n):-(2^64)<o.gain*o.tot/\o.gain*o.tot<2^64:=by
 obtain⟨a,b⟩:=S.gain
 obtain⟨c,d⟩:=S.tot
 have h1:o.gain*o.tot<=1000*o.tot:=bR b (by omega)
 have h2:(-1000)*o.tot<=o.gain*o.tot:=bR a (by omega)
 constructor<;>omega
theorem SY{α:Type}{xs:List α}{i:Nat}(h:i<xs.length):Fe xs (i:Int)=xs[i]?:=by
 unfold Fe Ih
 rw[if_pos (by omega),bP]
 by_cases q:i<xs.length
 ·simp[q]
 ·exact absurd h q
theorem S0{a b:Int}:Fe [V.int a,V.int b] 0=some (.int a):=rfl
theorem Vt{a b:Int}:Fe [V.int a,V.int b] 1=some (.int b):=rfl
def Lh(K:ai)(t:nF):Sp:=λ vs H Q _=>∃(sf:V) (c va:Addr) (o:Fq.kU) (jf:List Int) (bot:Int),vs=[sf,.ref c,.ref va]/\Jp t H o c/\OA K t H va jf bot/\Small o jf.length /\
 ∀H',jm H H'->Q (.int (o.top jf bot)) H'
theorem pC{jf:List Int}{i:Nat}(h:i<jf.length):Fe (jf.map V.int) (i:Int)=some (.int (jf.getD i 0)):=by
 rw[SY (by rw[ah];exact h),aj,af h,aa,af h]
 rfl
theorem DY(T:Txt K mg t):Ok P w K mg base 1 t.uY t.ue ["self","choice","values"] (Lh K t):=by
 refine T.tS.fn.qD nq (λ vs H Q E h=>?_) λ cdv A outer s H vs Q E hr h=>?_
 ·obtain⟨sf,c,va,o,jf,bot,rfl,_⟩:=h;rfl
 ·obtain⟨sf,c,va,o,jf,bot,rfl,⟨dx,nm,wy,ps,c1,c2,c3,c4⟩,⟨dv,tl,v1,v2⟩,S,h⟩:=h
  refine⟨_,jc (jD (i:=3) nq.nd rfl (Or.inl rfl) (jX (Ma rfl) (by rfl) T.QY M8 (ja
    (pO (own:=[("way",4)]) rfl nq.nd (lH (jR K (pv 1) rfl)) (j5 rfl) (λ _ _ _ _ _=>j0 (i:=4) nq.nd rfl (Or.inl rfl)) (λ _ _ _ _ _=>kY)
     (λ _ _ _ _ _=>kB uw (lZ (Ox K) (pv 4) jv (λ _ _=>rfl)) (lZ (HL K) (jR K (pv 2) rfl) (lZ (Ox K) (pv 4) jv (λ _ _=>rfl)) (λ _ _=>rfl)))) jd)))<|
   jg (jB (kB An (kB uw (kB uw (jR K (pv 1) rfl) (jR K (pv 1) rfl)) (jR K (pv 2) rfl)) (pv 3))),?_⟩
  refine⟨_,rfl,c,_,dx,_,_,rfl,c1,T.jN.cl,T.lT,vp _ _ _ _,wy,rfl,⟨_,jE.of c3⟩,λ D hD=>mR (K:=K) (a:=wy) (xs:=ps.map V.ref) (λ i H9=>H9=upd H D (.lst (((o.ways.map λ w=>(w.2:Int)*jf.getD w.1 0).map V.int).take i))) rfl (λ i H9 _ e9=>by rw[e9];exact jE.of (by rw[je (jh c3 hD)];exact c3)) ?_ ?_⟩
  ·rintro i v H9 hi rfl;obtain⟨pa,ea,rfl⟩:=lY hi;obtain⟨wv,ew,hw⟩:=c4.get ea;have hk:∀{b u},H b=some u->(upd H D (.lst (((o.ways.map λ w=>(w.2:Int)*jf.getD w.1 0).map V.int).take i))) b=some u:=λ {b u} e=>by rw[je (jh e hD)];exact e
   have wm:=S.ways.2 wv (au ew);refine⟨rfl,?_⟩;refine⟨_,rfl,pa,_,_,_,rfl,rfl,rH.of (hk hw),Vt,_,rfl,va,_,dv,_,_,rfl,hk v1,T.o7.cl,T.rD,Gm _ _,_,rfl,pa,_,_,_,rfl,rfl,rH.of (hk hw),S0,tl,_,_,_,rfl,rfl,jm.seq (λ b u e=>hk e) v2,pC wm.1,_,_,rfl,rfl,?_,_,jb,?_,?_⟩
   ·left;constructor<;>omega
   ·rw[aX,sizeLine_eq];have:=S.ways.1;simp;omega
   ·rw[jU,take_snoc (l:=(o.ways.map λ w=>(w.2:Int)*jf.getD w.1 0).map V.int) (x:=V.int ((wv.2:Int)*jf.getD wv.1 0)) (by rw[aj,aj,ew];rfl)]
  ·rintro H9 rfl;rw[ah,show ((o.ways.map λ w=>(w.2:Int)*jf.getD w.1 0).map V.int).take ps.length=(o.ways.map λ w=>(w.2:Int)*jf.getD w.1 0).map V.int from aA (by rw[ah,ah,c4.len];exact aq _)];have sm:=jj (o:=.lst ((o.ways.map λ w=>(w.2:Int)*jf.getD w.1 0).map V.int)) hD;refine⟨D,_,rfl,jE.of jb,?_⟩;refine⟨_,rfl,c,_,dx,_,_,rfl,sm _ _ c1,T.jN.cl,T.oO,yE _ _ _ _,_,rfl,c,_,dx,_,_,rfl,sm _ _ c1,T.jN.cl,T.lE,p6 _ _ _ _,_,_,rfl,rfl,?_,_,rfl,va,_,dv,_,_,rfl,sm _ _ v1,T.o7.cl,T.pM,B5 _ _,_,_,rfl,rfl,?_,_,rfl,_,_,rfl,rfl,?_⟩
   ·have:=S.gain;left;constructor<;>omega
   ·exact .inl S.gt
   ·exact h _ sm
theorem zl{a b:V}{m:Str}(h1:(m==("options":Str))=false)(h2:(m==("ends":Str))=false):(Lg a b).lookup m=none:=by
 unfold Lg
 rw[jq,if_neg (λ z=>by rw[z] at h2;exact absurd h2 (by decide)),jq,if_neg (λ z=>by rw[z] at h1;exact absurd h1 (by decide))]
 rfl
def Vu(t:nF)(H:Hp)(q ol:Addr):Prop:=∃dq en,H q=some (.ins t.lK dq (Lg (.ref ol) en))
theorem Vu.same{H H':Hp}{q ol:Addr}(h:Vu t H q ol)(k:jm H H'):Vu t H' q ol:=by
 obtain⟨dq,en,h⟩:=h
 exact⟨dq,en,k _ _ h⟩
def Li(K:ai)(t:nF):Sp:=λ vs H Q _=>∃(q ol a b va:Addr) (o p:Fq.kU) (jf:List Int) (bot:Int),vs=[.ref q,.ref a,.ref b,.ref va]/\Vu t H q ol/\Jp t H o a/\Jp t H p b/\OA K t H va jf bot/\Small o jf.length/\Small p jf.length /\
 ∀H',jm H H'->Q (.bl (o.better p jf bot)) H'
theorem ES(T:Txt K mg t):Ok P w K mg base 2 t.qM t.qv ["self","choice","other","values"] (Li K t):=by
 refine T.uf.fn.qD xf (λ vs H Q E h=>?_) λ cdv A outer s H vs Q E hr h=>?_
 ·obtain⟨q,ol,a,b,va,o,p,jf,bot,rfl,_⟩:=h;rfl
 ·obtain⟨q,ol,a,b,va,o,p,jf,bot,rfl,hq,ho,hp,hv,So,YQ,h⟩:=h
  refine⟨_,jg (jB (nO Uc (kB uw (rQ T.mT T.tS (DY T) hr jF (pv 0) (ja (pv 1)<|ja (pv 3) jd)) (jR K (pv 2) rfl)) (kB uw (rQ T.mT T.tS (DY T) hr jF (pv 0) (ja (pv 2)<|ja (pv 3) jd)) (jR K (pv 1) rfl)) (kC _))),?_⟩;obtain⟨dq,en,q1⟩:=id hq;refine⟨_,rfl,q,dq,_,rfl,q1,zl (by decide) (by decide),_,rfl,_,rfl,.ref q,a,va,o,jf,bot,rfl,ho,hv,So,λ H1 k1=>?_⟩;obtain⟨dx,nm,wy,ps,b1,b2,b3,b4⟩:=hp.same k1;refine⟨_,rfl,b,_,dx,_,_,rfl,b1,T.jN.cl,T.lE,p6 _ _ _ _,_,_,rfl,rfl,?_,?_⟩
  ·have:=YQ.tot;right;constructor<;>omega
  refine⟨_,rfl,q,dq,_,rfl,k1 _ _ q1,zl (by decide) (by decide),_,rfl,_,rfl,.ref q,b,va,p,jf,bot,rfl,hp.same k1,hv.same k1,YQ,λ H2 k2=>?_⟩;obtain⟨dx,nm,wy,ps,a1,a2,a3,a4⟩:=(ho.same k1).same k2;refine⟨_,rfl,a,_,dx,_,_,rfl,a1,T.jN.cl,T.lE,p6 _ _ _ _,_,_,rfl,rfl,?_,?_⟩
  ·have:=So.tot;right;constructor<;>omega
  exact⟨_,_,rfl,rfl,h _ (k1.trans k2)⟩
def pk(os:List Fq.kU)(jf:List Int)(bot:Int)(b:Nat):Nat->Nat
 |0=>b
 |j+1=>if ((os.getD j Fq.jz).better (os.getD (pk os jf bot b j) Fq.jz) jf bot)=true then j else pk os jf bot b j
theorem Jt{os:List Fq.kU}{jf:List Int}{bot:Int}{b:Nat}:∀(k j:Nat),j+k=os.length->Fq.kK os jf bot j (os.drop j) (pk os jf bot b j)=pk os jf bot b os.length
 |0,j,h=>by
  have:j=os.length:=by omega
  subst this;rw[List.drop_length];rfl
 |k+1,j,h=>by
  have hj:j<os.length:=by omega
  rw[bB hj];have e:os.getD j Fq.jz=os[j]:=by rw[aa,af hj];rfl
  show Fq.kK os jf bot (j+1) (os.drop (j+1)) (if os[j].better (os.getD (pk os jf bot b j) Fq.jz) jf bot=true then j else pk os jf bot b j)=_;rw[<-e];exact Jt k (j+1) (by omega)
theorem Qq{os:List Fq.kU}{jf:List Int}{bot:Int}{b:Nat}:Fq.pick os jf bot b=pk os jf bot b os.length:=by
 have:=Jt (os:=os) (jf:=jf) (bot:=bot) (b:=b) os.length 0 (by omega)
 rw[List.drop_zero] at this
 exact this
theorem Ra{os:List Fq.kU}{jf:List Int}{bot:Int}{b:Nat}(hb:b<os.length):∀j,j<=os.length->pk os jf bot b j<os.length
 |0,_=>hb
 |j+1,h=>by
  unfold pk
  split
  ·omega
  ·exact Ra hb j (by omega)
def Gn(K:ai)(t:nF):Sp:=λ vs H Q _=>∃(q ol pl va:Addr) (ls:List Addr) (iZ:List (List Fq.kU)) (ji jf:List Int) (bot:Int),vs=[.ref q,.ref pl,.ref va]/\Vu t H q ol/\H ol=some (.lst (ls.map V.ref))/\Ea (Jq t H) ls iZ /\
 jE K H pl (ji.map V.int)/\OA K t H va jf bot/\(∀os∈iZ,os.length<=8/\∀o∈os,Small o jf.length)/\iZ.length<=16/\La.Fits iZ iZ.length ji /\
 ∀D H',jm H H'->H D=none->H' D=some (.lst ((La.mC iZ iZ.length ji jf bot).map V.int))->Q (.ref D) H'
theorem Gp(T:Txt K mg t):Ok P w K mg base 3 t.sA t.qN ["self","plan","values"] (Gn K t):=by
 refine T.u7.fn.qD mz (λ vs H Q E h=>?_) λ cdv A outer s H vs Q E hr h=>?_
 ·obtain⟨q,ol,pl,va,ls,iZ,ji,jf,bot,rfl,_⟩:=h;rfl
 ·obtain⟨q,ol,pl,va,ls,iZ,ji,jf,bot,rfl,hq,Rb,W,hpl,hv,S,hn,F,h⟩:=h
  refine⟨_,jc (jD (i:=3) mz.nd rfl (Or.inl rfl) (rM tu (by rfl) T.Ez EA (ja (pv 1) jd)))<|
   jc (qc mW rfl (xF (by rfl) T.o9 (ja (jR K (pv 0) rfl) jd)) (tF K (i:=4) (j:=5) rfl mz.nd rfl rfl (Or.inl rfl) (Or.inl rfl))
    (jg (qc mW rfl (xF (by rfl) T.o9 (ja (pv 5) jd)) (tF K (i:=6) (j:=7) rfl mz.nd rfl rfl (Or.inl rfl) (Or.inl rfl))
     (jg (rJ (qb (rQ T.mT T.uf (ES T) hr jF (pv 0) (ja (pv 7)<|ja (lZ (HL K) (pv 5) (lZ (HL K) (pv 3) (pv 4) (λ _ _=>rfl)) (λ _ _=>rfl))<|ja (pv 2) jd)))
      (jg (wN (pv 6) (wM (pv 3) (pv 4) set_list))) nc)))))<|
   jg (jB (pv 3)),?_⟩
  refine⟨_,rfl,pl,_,rfl,.inl hpl,λ D hD=>?_⟩;have s0:=jj (o:=.lst (ji.map V.int)) hD;obtain⟨dq,en,q1⟩:=id hq;refine⟨_,rfl,q,_,dq,_,_,rfl,s0 _ _ q1,T.mT.cl,T.nv,vz _ _,ol,_,rfl,jE.of (s0 _ _ Rb),?_⟩;have bl:(La.mC iZ iZ.length ji jf bot).length=iZ.length:=by simp[La.mC]
  have pll:ji.length=iZ.length:=F.len;refine xM (K:=K) (a:=ol) (xs:=ls.map V.ref) (λ i σ H9=>∃v4 v5 v6 v7,σ=[some (.ref q),some (.ref pl),some (.ref va),some (.ref D),v4,v5,v6,v7]/\jm H H9/\H9 D=some (.lst (((La.mC iZ iZ.length ji jf bot).take i++ji.drop i).map V.int)))
   ⟨none,none,none,none,rfl,s0,by rw[gy,List.drop_zero,dF];exact jb⟩ (λ i σ H9 _ ⟨_,_,_,_,_,e,_⟩=>jE.of (e _ _ Rb)) ?_ ?_
  ·rintro i x σ H9 T9 hi Qp ⟨v4,v5,v6,v7,rfl,s9,h9⟩;obtain⟨l,el,rfl⟩:=lY hi;obtain⟨os,eo,as,l1,l2⟩:=W.get el;have hin:i<iZ.length:=(ao.mp eo).1;have go:iZ.getD i []=os:=by rw[aa,eo];rfl
   obtain⟨o8,So⟩:=S os (au eo);have Xx:jm H9 (upd H9 T9 (.tup [.int (i:Nat),.ref l])):=jj Qp;have gp:ji.drop i=ji.getD i 0::ji.drop (i+1):=by
    rw[bB (by omega),aa,af (by omega)];rfl
   let cur:Nat->Int:=λ j=>if os.length=0 then ji.getD i 0 else ((pk os jf bot (ji.getD i 0).toNat j:Nat):Int)
   let row:Int->List V:=λ x=>((La.mC iZ iZ.length ji jf bot).take i++x::ji.drop (i+1)).map V.int
   have Xy:((La.mC iZ iZ.length ji jf bot).take i).length=i:=by rw[aX,bl];omega
   have c0:cur 0=ji.getD i 0:=by
    show (if os.length=0 then ji.getD i 0 else ((ji.getD i 0).toNat:Int))=_
    split
    ·rfl
    ·rename_i ne
     have:=(F.at_ i hin (by rw[go];exact ne)).1;omega
   have rowAt:∀x,Fe (row x) (i:Int)=some (.int x):=λ x=>sZ (by
    show (((La.mC iZ iZ.length ji jf bot).take i++x::ji.drop (i+1)).map V.int)[i]? = _;rw[aj,cP (by omega),Xy,iX];rfl)
   have S1:∀x,(row x).length=iZ.length:=λ x=>by
    show (((La.mC iZ iZ.length ji jf bot).take i++x::ji.drop (i+1)).map V.int).length=_;rw[ah,aE,Xy,aK,fJ];omega
   have S2:∀x y,(row x).set i (.int y)=row y:=λ x y=>by
    show (((La.mC iZ iZ.length ji jf bot).take i++x::ji.drop (i+1)).map V.int).set i (V.int y)=_;rw[<-List.map_set,List.set_append_right _ _ (by omega),Xy,iX];rfl
   refine zT.at jb ?_;refine⟨_,rfl,l,_,rfl,jE.of (Xx _ _ (s9 _ _ l1)),?_⟩;refine xM (K:=K) (a:=l) (xs:=as.map V.ref) (λ j σ H8=>∃v6 v7,σ=[some (.ref q),some (.ref pl),some (.ref va),some (.ref D),some (.int (i:Nat)),some (.ref l),v6,v7]/\jm H H8/\H8 D=some (.lst (row (cur j))))
    ⟨v6,v7,rfl,s9.trans Xx,by rw[c0];rw[gp] at h9;exact Xx _ _ h9⟩ (λ j σ H8 _ ⟨_,_,_,e,_⟩=>jE.of (e _ _ l1)) ?_ ?_
   ·rintro j x σ H8 T8 hj Vv ⟨w6,w7,rfl,s8,h8⟩;obtain⟨a,ea,rfl⟩:=lY hj;obtain⟨o,S3,ho⟩:=l2.get ea;have hjl:j<os.length:=(ao.mp S3).1;have ne:os.length≠0:=by omega
    have TJ:os.getD j Fq.jz=o:=by rw[aa,S3];rfl
    have fit:=F.at_ i hin (by rw[go];exact ne);rw[go] at fit;have Xz:=Ra (jf:=jf) (bot:=bot) fit.2 j (by omega);have cj:cur j=((pk os jf bot (ji.getD i 0).toNat j:Nat):Int):=if_neg ne;obtain⟨b,eb,hb⟩:=l2.at_ _ _ (af Xz);have YR:os.getD (pk os jf bot (ji.getD i 0).toNat j) Fq.jz=os[pk os jf bot (ji.getD i 0).toNat j]:=by rw[aa,af Xz];rfl
    have YS:jm H8 (upd H8 T8 (.tup [.int (j:Nat),.ref a])):=jj Vv;have sH:=s8.trans YS;have YT:=YS _ _ h8;refine zT.at jb ?_;refine⟨_,rfl,q,dq,_,rfl,sH _ _ q1,zl (by decide) (by decide),_,rfl,_,rfl,_,rfl,_,rfl,D,_,_,_,rfl,rfl,jE.of YT,rowAt _,l,_,_,.ref b,rfl,rfl,jE.of (sH _ _ l1),?_,_,rfl,q,ol,a,b,va,o,os[pk os jf bot (ji.getD i 0).toNat j],jf,bot,rfl,hq.same sH,ho.same sH,hb.same sH,hv.same sH,So o (au S3),So _ (aW Xz),λ H7 k7=>⟨_,rfl,?_⟩⟩
    ·rw[cj];exact sZ (by rw[aj,eb];rfl)
    ·have h7:=k7 _ _ YT
     by_cases c:o.better os[pk os jf bot (ji.getD i 0).toNat j] jf bot=true
     ·refine tW c ?_;have e1:cur (j+1)=(j:Int):=by
       show (if os.length=0 then ji.getD i 0 else ((pk os jf bot (ji.getD i 0).toNat (j+1):Nat):Int))=_;rw[if_neg ne];show (((if (os.getD j Fq.jz).better (os.getD (pk os jf bot (ji.getD i 0).toNat j) Fq.jz) jf bot=true then j else _):Nat):Int)=_;rw[TJ,YR,if_pos c]
      refine⟨_,rfl,_,rfl,_,rfl,D,_,(i:Int),i,rfl,rfl,h7,?_,?_⟩
      ·unfold Ih;rw[S1,if_pos (by omega),if_pos (by omega),bP]
      ·refine⟨_,_,rfl,λ b' u' e'=>?_,?_⟩
       ·rw[je (jh e' hD)];exact k7 _ _ (sH _ _ e')
       ·rw[jb,S2,e1]
     ·have c':o.better os[pk os jf bot (ji.getD i 0).toNat j] jf bot=false:=by simpa using c
      refine sX c' ?_;have e1:cur (j+1)=cur j:=by
       rw[cj];show (if os.length=0 then ji.getD i 0 else ((pk os jf bot (ji.getD i 0).toNat (j+1):Nat):Int))=_;rw[if_neg ne];show (((if (os.getD j Fq.jz).better (os.getD (pk os jf bot (ji.getD i 0).toNat j) Fq.jz) jf bot=true then j else _):Nat):Int)=_;rw[TJ,YR,if_neg c]
      exact⟨_,_,rfl,sH.trans k7,by rw[e1];exact h7⟩
   ·rintro σ H8 ⟨w6,w7,rfl,s8,h8⟩;refine⟨_,_,_,_,rfl,s8,?_⟩;rw[ah,l2.len] at h8;rw[h8];have bi:(La.mC iZ iZ.length ji jf bot)[i]? = some (cur os.length):=by
     unfold La.mC;rw[aj,aO hin];show some (if (iZ.getD i []).length=0 then ji.getD i 0 else ((Fq.pick (iZ.getD i []) jf bot (ji.getD i 0).toNat:Nat):Int))=some (if os.length=0 then ji.getD i 0 else ((pk os jf bot (ji.getD i 0).toNat os.length:Nat):Int));rw[go,Qq]
    rw[take_snoc bi,cG];rfl
  ·rintro σ H9 ⟨v4,v5,v6,v7,rfl,s9,h9⟩;rw[ah,W.len,aA (by rw[bl];exact aq _),List.drop_of_length_le (by rw[pll];exact aq _),cQ] at h9;exact⟨_,rfl,h D H9 s9 hD h9⟩
structure Ju(jf:List Int)(bot:Int)(B:Nat):Prop where
 jf:∀x∈jf,x.natAbs<2^B
 bot:bot.natAbs<2^B
 B:B<=1000000
theorem Gq:∀d,d<10->(Nat.digitChar d).toNat=48+d
 |0,_ | 1,_ | 2,_ | 3,_ | 4,_ | 5,_ | 6,_ | 7,_ | 8,_ | 9,_=>rfl
 |n+10,h=>by omega
theorem zm{n:Nat}(h:n<10):Ra61.decimal n=[48+n]:=by
 unfold Ra61.decimal
 rw[Nat.toDigits_of_lt_base h]
 simp[Gq n h]
theorem ET{n:Nat}(h:10<=n):Ra61.decimal n=Ra61.decimal (n/10)++[48+n%10]:=by
 unfold Ra61.decimal
 rw[Nat.toDigits_of_base_le (by decide) h,bu]
 simp[Gq (n%10) (by omega)]
def HR:Nat:=2^2000000
def Lj(K:ai):Sp:=λ vs H Q _=>∃n:Nat,vs=[.int (n:Int)]/\n<HR/\∀D H',jm H H'->H D=none->H' D=some (.lst (jL (Ra61.decimal n)))->Q (.ref D) H'
theorem yI(T:Txt K mg t):Ok P w K mg base 1 t.zz t.xX ["number"] (Lj K):=by
 refine T.digits_of.fn.qD tQ (λ vs H Q E h=>?_) λ cdv A outer s H vs Q E hr h=>?_
 ·obtain⟨n,rfl,_⟩:=h;rfl
 ·obtain⟨n,rfl,hn,h⟩:=h
  refine⟨_,jc (jD (i:=1) tQ.nd rfl (Or.inl rfl) (mh (ja (kB An (kh T.Hs rfl) (kB GR (pv 0) jv)) jd)))<|
   jc (mU mW (lU QL (pv 0) jv (kC _))
    (jc (Rz (i:=0) tQ.nd rfl (Or.inl rfl) jv LM)<|
      jg (jJ (C4 bW cY cZ vC (pv 1) (ja (kB An (kh T.Hs rfl) (kB GR (pv 0) jv)) jd)))))<|
   jg (jB (Hg rfl (by rfl) T.Ez (by rfl) T.Ht (pv 1))),?_⟩
  refine⟨_,rfl,_,_,rfl,rfl,(show (0:Int)<10 by decide),_,_,rfl,rfl,by rw[sizeLine_eq];simp,λ D hD=>?_⟩;have k0:=jj (o:=.lst [V.int (48+(n:Int)%10)]) hD;refine⟨λ m σ H'=>∃(x:Nat) (ds:List Nat),σ=[some (.int (x:Int)),some (.ref D)]/\jm H H'/\H' D=some (.lst (jL ds))/\Ra61.decimal n=(if 10<=x then Ra61.decimal (x/10) else [])++ds.reverse/\x*10^(ds.length-1)<=n/\1<=ds.length/\x=m,
   ⟨_,n,[48+n%10],rfl,k0,?_,?_,?_,?_,rfl⟩,?_⟩
  ·rw[jb];have e:(48:Int)+(n:Int)%10=((48+n%10:Nat):Int):=by push_cast;rfl
   show some (HO.lst [V.int (48+(n:Int)%10)])=_;rw[e];rfl
  ·by_cases Qs:10<=n
   ·rw[if_pos Qs,ET Qs];rfl
   ·rw[if_neg Qs,zm (by omega),c9 (by omega)];rfl
  ·simp
  ·simp
  ·rintro m σ H' ⟨x,ds,rfl,k1,h1,inv,big,one,rfl⟩;refine⟨_,rfl,_,_,rfl,rfl,_,rfl,?_⟩
   by_cases Qs:10<=x
   ·refine tW (by rw[decide_eq_true_eq];omega) ⟨λ σ H2=>∃(ds:List Nat),σ=[some (.int ((x/10:Nat):Int)),some (.ref D)]/\jm H H2/\H2 D=some (.lst (jL ds))/\Ra61.decimal n=(if 10<=x/10 then Ra61.decimal (x/10/10) else [])++ds.reverse/\(x/10)*10^(ds.length-1)<=n/\1<=ds.length,?_,?_⟩
    ·rintro σ2 H2 ⟨ds2,rfl,a1,a2,a3,a4,a5⟩;exact⟨x/10,by omega,x/10,ds2,rfl,a1,a2,a3,a4,a5,rfl⟩
    ·refine⟨_,rfl,_,_,rfl,rfl,⟨by decide,by decide⟩,?_⟩;have pw:2^(ds.length-1)<=10^(ds.length-1):=gf (by decide) _;have pw2:10^(ds.length-1)<=x*10^(ds.length-1):=Nat.le_mul_of_pos_left _ (by omega);have ln:ds.length-1<2000000:=by
      have:2^(ds.length-1)<2^2000000:=bF (bf pw (bf pw2 big)) (show n<2^2000000 from hn);exact (eW (by decide)).mp this
     refine⟨_,rfl,.inl ⟨rfl,_,jE.of h1⟩,_,rfl,_,_,rfl,rfl,(show (0:Int)<10 by decide),_,_,rfl,rfl,D,_,_,rfl,rfl,h1,by rw[jT,sizeLine_eq];omega,?_⟩;refine⟨ds++[48+x/10%10],rfl,λ b u e=>?_,?_,?_,?_,by simp⟩
     ·rw[je (jh e hD)];exact k1 _ _ e
     ·rw[jb];have e:(48:Int)+(x:Int)/10%10=((48+x/10%10:Nat):Int):=by push_cast;rfl
      show some (HO.lst (jL ds++[V.int (48+(x:Int)/10%10)]))=_;rw[e];unfold jL;rw[bu];rfl
     ·rw[inv,if_pos Qs,List.reverse_append]
      by_cases q:10<=x/10
      ·rw[if_pos q,ET q];simp
      ·rw[if_neg q,zm (by omega),c9 (show x/10<10 by omega)];simp
     ·rw[aE];show x/10*10^(ds.length+1-1)<=n;have e1:ds.length+1-1=ds.length-1+1:=by omega
      rw[e1,cg,<-iJ,Nat.mul_right_comm];refine bf (eB _ ?_) big;omega
   ·refine sX (by rw[decide_eq_false_iff_not];omega) ?_;refine⟨_,rfl,D,_,rfl,jE.of h1,λ D2 Lv=>?_⟩;have k2:=jj (o:=.lst (jL ds).reverse) Lv;refine h D2 _ (k1.trans k2) (k1.free Lv) ?_;rw[jb,inv,if_neg Qs,dF];unfold jL;rw[List.map_reverse]
def Qt(K:ai):Sp:=λ vs H Q _=>∃(z:Int) (d:Nat),vs=[.int z,.int (d:Int)]/\0<d/\z.natAbs<HR/\d<HR/\∀D H',jm H H'->H D=none->H' D=some (.lst (jL (Ra61.frac z d)))->Q (.ref D) H'
theorem Jv:∀n:Nat,n≠0->10^((Ra61.decimal n).length-1)<=n/\1<=(Ra61.decimal n).length:=by
 intro n
 induction n using g8 with
 |_ n ih=>
  intro h0
  by_cases h:10<=n
  ·obtain⟨a,b⟩:=ih (n/10) (by omega) (by omega);rw[ET h,aE];refine⟨?_,by simp⟩;show 10^((Ra61.decimal (n/10)).length+1-1)<=n;have e:(Ra61.decimal (n/10)).length+1-1=(Ra61.decimal (n/10)).length-1+1:=by omega
   rw[e,cg];have:=eB 10 a;omega
  ·rw[zm (by omega)];exact⟨by show 1<=n;omega,by simp⟩
theorem Jw{n:Nat}(h:n<HR):(Ra61.decimal n).length<=2000001:=by
 by_cases h0:n=0
 ·subst h0;decide
 ·obtain⟨a,b⟩:=Jv n h0
  have p1:2^((Ra61.decimal n).length-1)<=10^((Ra61.decimal n).length-1):=gf (by decide) _;have p2:2^((Ra61.decimal n).length-1)<2^2000000:=bF (bf p1 a) (show n<2^2000000 from h);have:=(eW (by decide)).mp p2;omega
theorem S4:bootBuiltins "abs" = some (.builtin "abs"):=by decide +kernel
theorem zo(T:Txt K mg t)(hN:base.NoSeer)(hP:P.given.tree=none):Ok P w K mg base 36 t.pK t.rY ["top","bottom"] (Qt K):=by
 refine T.wG.fn.qD mS (λ vs H Q E h=>?_) λ cdv A outer s H vs Q E hr h=>?_
 ·obtain⟨z,d,rfl,_⟩:=h;rfl
 ·have Rc:(A.deeper (envOfC "fraction_told" (jk nk) s.heap.objs.size t.pK cdv)).depth+Builtin.pylongFrames<recursionLimit:=by
   have:=hr.dp;show _+100<_;omega
  obtain⟨z,d,rfl,hd,hz,hd2,h⟩:=h;have hr1:=hr.mono (show 1<=35 by decide);refine⟨_,jc (jD (i:=2) mS.nd rfl (Or.inl rfl) (jI T.u3 (yH T) hr1 rfl jF (ja (pv 0)<|ja (pv 1) jd)))<|
   jc (jD (i:=3) mS.nd rfl (Or.inl rfl) (jI T.digits_of (yI T) hr1 rfl jF (ja (kB (FL hN hP rfl rfl rfl Rc) (jX LS (by rfl) T.UP S4 (ja (pv 0) jd)) (pv 2)) jd)))<|
   jc (rJ (lU CY (pv 1) (pv 2) (kC _))
    (jg (jD (i:=3) mS.nd rfl (Or.inl rfl) (kB wR (kB wR (pv 3) (mh (ja (kh T.IK rfl) jd))) (jI T.digits_of (yI T) hr1 rfl jF (ja (kB (FL hN hP rfl rfl rfl Rc) (pv 1) (pv 2)) jd))))) nc)<|
   jg (jB (uu (lU LO (pv 0) jv (kC _)) (kB wR (mh (ja (kh T.IJ rfl) jd)) (pv 3)) (pv 3))),?_⟩
  have g0:0<bq z.natAbs d:=cX _ hd;have eg:(iG z (d:Int):Nat)=bq z.natAbs d:=rfl;refine⟨_,rfl,_,rfl,z,(d:Int),rfl,by omega,?_⟩;have gd:bq z.natAbs d ∣ d:=gE _ _;have ea:(if z<0 then -z else z)/((bq z.natAbs d:Nat):Int)=((z.natAbs/bq z.natAbs d:Nat):Int):=by
   rw[show (if z<0 then -z else z)=(z.natAbs:Int) by split<;>omega]
   push_cast;rfl
  have l1:z.natAbs/bq z.natAbs d<HR:=bF (fZ _ _) hz;have l2:d/bq z.natAbs d<HR:=bF (fZ _ _) hd2;have ln1:=Jw l1;have ln2:=Jw l2;refine⟨_,rfl,z,rfl,_,rfl,_,_,rfl,rfl,(show (0:Int)<((bq z.natAbs d:Nat):Int) by omega),z.natAbs/bq z.natAbs d,?_,l1,λ D1 H1 k1 hD1 h1=>?_⟩
  ·show [V.int ((if z<0 then -z else z)/((bq z.natAbs d:Nat):Int))]=_;rw[ea]
  have fin:∀(D:Addr) (H2:Hp) (bs:List Nat) (v:V),jm H H2->H D=none->H2 D=some (.lst (jL bs))->bs.length<=5000000->Ra61.frac z d=(if z<0 then [45] else [])++bs ->
    OJ (XT (LP (QK (GD λ i j=>V.bl (decide (i<j))) (xy 0) (tC (V.int 0)))) (QK Ut (Ui (Ax (tC (V.int 45)) E5)) (xy 3)) (xy 3)) { nx:=λ x H'=>Q V.pZ H',rt:=Q } [some (.int z),some (.int (d:Int)),some v,some (.ref D)] H2:=by
   intro D H2 bs v k2 hD h2 hb e;refine⟨_,rfl,_,_,rfl,rfl,_,rfl,?_⟩
   by_cases hn:z<0
   ·refine tW (decide_eq_true hn) ?_;refine⟨by rw[sizeLine_eq];simp,λ D3 XA=>?_⟩;have k3:=jj (o:=.lst [V.int 45]) XA;refine⟨_,rfl,D3,D,_,_,rfl,rfl,jb,k3 _ _ h2,by rw[jT,sizeLine_eq];simp;omega,λ D4 N2=>?_⟩;have k4:=jj (o:=.lst ([V.int 45]++jL bs)) N2;refine h D4 _ ((k2.trans k3).trans k4) ((k2.trans k3).free N2) ?_;rw[jb,e,if_pos hn];rfl
   ·refine sX (decide_eq_false hn) ?_;refine⟨_,rfl,h D H2 k2 hD ?_⟩;rw[h2,e,if_neg hn];rfl
  by_cases hq:d=bq z.natAbs d
  ·refine⟨_,rfl,_,rfl,rfl,_,rfl,sX ?_ ?_⟩
   ·rw[mq];simp[eg,<-hq]
   ·refine fin D1 H1 _ _ k1 hD1 h1 (by omega) ?_;unfold Ra61.frac;dsimp only;rw[if_pos (show d/bq z.natAbs d=1 by rw[<-hq];exact Nat.div_self hd),cQ]
  ·refine⟨_,rfl,_,rfl,rfl,_,rfl,tW ?_ ?_⟩
   ·rw[mq];simp[eg];omega
   ·have ed:(d:Int)/((bq z.natAbs d:Nat):Int)=((d/bq z.natAbs d:Nat):Int):=by push_cast;rfl
    refine⟨_,rfl,by rw[sizeLine_eq];simp,λ D2 Lv=>?_⟩;have k2:=jj (o:=.lst [V.int 47]) Lv;refine⟨D1,D2,_,_,rfl,rfl,k2 _ _ h1,jb,by rw[jT,sizeLine_eq];simp;omega,λ D3 XA=>?_⟩;have k3:=jj (o:=.lst (jL (Ra61.decimal (z.natAbs/bq z.natAbs d))++[V.int 47])) XA;refine⟨_,rfl,_,rfl,_,_,rfl,rfl,(show (0:Int)<((bq z.natAbs d:Nat):Int) by omega),d/bq z.natAbs d,?_,l2,λ D4 H4 k4 N2 h4=>?_⟩
    ·show [V.int ((d:Int)/((bq z.natAbs d:Nat):Int))]=_;rw[ed]
    ·refine⟨D3,D4,_,_,rfl,rfl,k4 _ _ jb,h4,by rw[aE,jT,jT,sizeLine_eq];simp;omega,λ D5 YU=>?_⟩;have k5:=jj (o:=.lst (jL (Ra61.decimal (z.natAbs/bq z.natAbs d))++[V.int 47]++jL (Ra61.decimal (d/bq z.natAbs d)))) YU;have K5:=(((k1.trans k2).trans k3).trans k4)
     refine fin D5 _ (Ra61.decimal (z.natAbs/bq z.natAbs d)++47::Ra61.decimal (d/bq z.natAbs d)) _ (K5.trans k5) (K5.free YU) ?_ (by simp;omega) ?_
     ·rw[jb];unfold jL;simp
     ·unfold Ra61.frac;dsimp only;have:¬d/bq z.natAbs d=1:=λ q=>hq (by
       have:=Nat.div_mul_cancel gd;rw[q,Nat.one_mul] at this;exact this.symm)
      rw[if_neg this,cG]
theorem Gr{n B:Nat}(h:n<2^B):(Ra61.decimal n).length<=B+1:=by
 by_cases h0:n=0
 ·subst h0
  show ([48]:List Nat).length<=B+1;simp
 ·obtain⟨a,b⟩:=Jv n h0
  have p1:2^((Ra61.decimal n).length-1)<=10^((Ra61.decimal n).length-1):=gf (by decide) _;have:=(eW (by decide)).mp (bF (bf p1 a) h);omega
theorem N3{z:Int}{d B:Nat}(hz:z.natAbs<2^B)(hd:d<2^B):(Ra61.frac z d).length<=2*B+4:=by
 have l1:=Gr (bF (fZ z.natAbs (bq z.natAbs d)) hz)
 have l2:=Gr (bF (fZ d (bq z.natAbs d)) hd)
 unfold Ra61.frac
 dsimp only
 rw[aE,aE]
 have a:(if z<0 then [45] else ([]:List Nat)).length<=1:=by split<;>simp
 have b:(if d/bq z.natAbs d=1 then ([]:List Nat) else 47::Ra61.decimal (d/bq z.natAbs d)).length<=(Ra61.decimal (d/bq z.natAbs d)).length+1:=by split<;>simp
 omega
theorem N4{n B:Nat}(h:n<2^B)(hB:B<=100000):n<HR:=
 aI h (dW (by decide) (bf hB (by decide)))
abbrev YV(H:Hp)(ws:List Addr)(words:List (List Nat)):Prop:=Ea (λ bs a=>H a=some (.lst (jL bs))) ws words
def Qu(K:ai)(t:nF):Sp:=λ vs H Q _=>∃(va:Addr) (jf:List Int) (d B:Nat),vs=[.ref va]/\OA K t H va jf (d:Int)/\0<d/\Ju jf (d:Int) B/\B<=100000/\jf.length<=16 /\
 ∀D ws H',jm H H'->H D=none->H' D=some (.lst (ws.map V.ref))->YV H' ws (jf.map λ z=>Ra61.frac z d)->Q (.ref D) H'
theorem Qv(T:Txt K mg t)(hN:base.NoSeer)(hP:P.given.tree=none):Ok P w K mg base 37 t.wD t.uX ["self"] (Qu K t):=by
 refine T.zH.fn.qD qp (λ vs H Q E h=>?_) λ cdv A outer s H vs Q E hr h=>?_
 ·obtain⟨va,jf,d,B,rfl,_⟩:=h;rfl
 ·obtain⟨va,jf,d,B,rfl,⟨dv,tl,v1,v2⟩,hd,Z,hB,hn,h⟩:=h
  refine⟨_,jg (jB (pO (own:=[("top",1)]) rfl qp.nd (lH (jR K (pv 0) rfl)) (j5 rfl) (λ _ _ _ _ _=>j0 (i:=1) qp.nd rfl (Or.inl rfl)) (λ _ _ _ _ _=>kY)
   (λ _ _ _ _ _=>jI T.wG (zo T hN hP) hr rfl jF (ja (pv 1)<|ja (jR K (pv 0) rfl) jd)))),?_⟩
  refine⟨_,rfl,va,_,dv,_,_,rfl,v1,T.o7.cl,T.rD,Gm _ _,tl,rfl,⟨_,v2⟩,λ D hD=>mR (K:=K) (a:=tl) (xs:=jf.map V.int) (λ i H9=>∃ws:List Addr,ws.length=i/\jm H H9/\H9 D=some (.lst (ws.map V.ref))/\Ea (λ bs a=>H9 a=some (.lst (jL bs))/\a≠D) ws ((jf.map λ z=>Ra61.frac z d).take i))
   ⟨[],rfl,jj hD,jb,Ea.nil⟩ (λ i H9 _ ⟨_,_,e,_,_⟩=>jm.seq e v2) ?_ ?_⟩
  ·rintro i x H9 hi ⟨ws,hw,s9,h9,E9⟩;obtain⟨z,ez,rfl⟩:∃z,jf[i]? = some z/\x=.int z:=by
    rw[aj] at hi
    cases q:jf[i]? with
    |none=>rw[q] at hi;cases hi
    |some z=>rw[q] at hi;cases hi;exact⟨z,rfl,rfl⟩
   have hin:i<jf.length:=(ao.mp ez).1;refine⟨rfl,?_⟩;refine⟨_,rfl,_,rfl,va,_,dv,_,_,rfl,s9 _ _ v1,T.o7.cl,T.pM,B5 _ _,z,d,rfl,hd,N4 (Z.jf z (au ez)) hB,N4 (by have:=Z.bot;simpa using this) hB,λ a H8 k8 ha h8=>?_⟩;have Vp:=k8 _ _ h9;have hne:a≠D:=λ q=>by rw[q,h9] at ha;cases ha
   refine⟨ws.map V.ref,Vp,by rw[ah,hw,sizeLine_eq];omega,ws++[a],by simp[hw],λ b u e=>?_,by rw[jb,bu];rfl,?_⟩
   ·rw[je (jh e hD)];exact k8 _ _ (s9 _ _ e)
   ·rw[take_snoc (l:=jf.map λ z=>Ra61.frac z d) (x:=Ra61.frac z d) (by rw[aj,ez];rfl)];exact Ea.snoc (E9.mono λ bs b hb=>⟨by rw[je hb.2];exact k8 _ _ hb.1,hb.2⟩) ⟨by rw[je hne];exact h8,hne⟩
  ·rintro H9 ⟨ws,hw,s9,h9,E9⟩;rw[ah] at hw E9;rw[aA (by simp)] at E9;exact h D ws H9 s9 hD h9 (E9.mono λ bs a hb=>hb.1)
def Cb(x bs:List Nat):List Nat:=x++[32]++bs++[10]
def mj:List (List Nat)->List (List Nat)->List Nat
 |x::xs,b::bs=>Cb x b++mj xs bs
 |_,_=>[]
theorem zO:∀{xs bs:List (List Nat)}{x b:List Nat},xs.length=bs.length->mj (xs++[x]) (bs++[b])=mj xs bs++Cb x b
 |[],[],x,b,_=>by simp[mj]
 |y::xs,c::bs,x,b,h=>by
  simp only[fM,mj]
  rw[zO (by simpa using h),cG]
theorem Cc:∀{xs bs:List (List Nat)},(∀x∈xs,x.length<=100)->(∀b∈bs,b.length<=250000)->(mj xs bs).length<=xs.length*250102
 |[],_,_,_=>by simp[mj]
 |x::xs,[],_,_=>by simp[mj]
 |x::xs,b::bs,h1,h2=>by
  have i:=Cc (xs:=xs) (bs:=bs) (λ y hy=>h1 y (by simp[hy])) λ y hy=>h2 y (by simp[hy])
  have a:=h1 x (by simp);have c:=h2 b (by simp);simp only[mj,Cb,aE,aK,List.length_nil]
  omega
def N5(K:ai)(t:nF):Sp:=λ vs H Q E=>∃(sl wl:Addr) (room:Int) (N:Ra61.Net) (ws:List Addr) (words:List (List Nat)),vs=[.ref sl,.ref wl,.int room]/\NL t N (.ref sl) H/\H wl=some (.lst (ws.map V.ref))/\YV H ws words /\
 N.length=words.length/\N.length<=16/\(∀s∈N,s.name.length<=100)/\(∀b∈words,b.length<=250000) /\
 if room<((mj (N.map λ s=>s.name) words).length:Int) then ∀H',E (.ref t.lM) none H' else
  ∀D H',jm H H'->H D=none->H' D=some (.lst (((((mj (N.map λ s=>s.name) words).length:Nat):Int)::(mj (N.map λ s=>s.name) words).map λ(b:Nat)=>(b:Int)).map V.int))->Q (.ref D) H'
theorem Qw(T:Txt K mg t)(kb:K.In base):Ok P w K mg base 1 t.M5 t.IF ["states","words","room"] (N5 K t):=by
 refine T.tell.fn.qD Et (λ vs H Q E h=>?_) λ cdv A outer s H vs Q E hr h=>?_
 ·obtain⟨sl,wl,room,N,ws,words,rfl,_⟩:=h;rfl
 ·obtain⟨sl,wl,room,N,ws,words,rfl,⟨VG,nY,esl,n1,n2⟩,hwl,W,hlen,hn,hnm,YW,h⟩:=h
  cases esl;refine⟨_,jc (jD (i:=3) Et.nd rfl (Or.inl rfl) (mh jd))<|
   jc (qc mW rfl (Ef (by rfl) T.IL (ja (pv 0)<|ja (pv 1) jd)) (tF K (i:=4) (j:=5) rfl Et.nd rfl rfl (Or.inl rfl) (Or.inl rfl))
    (jg (jJ (C4 bW PySem.F.slot_list_extend PySem.F.type_list_extend JJ (pv 3) (ja
     (kB wR (kB wR (kB wR (rM tu (by rfl) T.Ez EA (ja (jR K (pv 4) rfl) jd)) (mh (ja (kh T.II rfl) jd))) (pv 5)) (mh (ja (kh T.Bd rfl) jd))) jd)))))<|
   jc (rJ (lU LO (pv 2) (jX jK (by rfl) T.qx nH (ja (pv 3) jd)) (kC _)) (jg (xJ xl_of rfl (sW T kb) cA)) nc)<|
   jg (jB (kB wR (mh (ja (jX jK (by rfl) T.qx nH (ja (pv 3) jd)) jd)) (pv 3))),?_⟩
  refine⟨by rw[sizeLine_eq];simp,λ D hD=>?_⟩;have k0:=jj (o:=.lst []) hD;refine⟨_,rfl,_,rfl,sl,wl,_,_,rfl,jE.of (k0 _ _ n1),jE.of (k0 _ _ hwl),?_⟩;have N7:∀{i:Nat} {st:Ra61.State},N[i]? = some st->(N.map λ s=>s.name)[i]? = some st.name:=λ e=>by rw[aj,e];rfl
  have small:∀i,(mj ((N.map λ s=>s.name).take i) (words.take i)).length<=4100000:=λ i=>by
   have:=Cc (xs:=(N.map λ s=>s.name).take i) (bs:=words.take i) (λ x hx=>by
    obtain⟨s,hs,rfl⟩:=az.mp (iD hx);exact hnm s hs) λ b hb=>YW b (iD hb)
   have l:((N.map λ s=>s.name).take i).length<=16:=by rw[aX,ah];omega
   have:((N.map λ s=>s.name).take i).length*250102<=16*250102:=eB _ l;omega
  refine Pr (K:=K) (a:=sl) (b:=wl) (xs:=nY.map V.ref) (ys:=ws.map V.ref) (by rw[ah,ah,n2.len,W.len,hlen]) (λ i σ H9=>∃v4 v5,σ=[some (.ref sl),some (.ref wl),some (.int room),some (.ref D),v4,v5]/\jm H H9/\H9 D=some (.lst (jL (mj ((N.map λ s=>s.name).take i) (words.take i)))))
   ⟨none,none,rfl,k0,by rw[gy,gy];exact jb⟩ (λ i σ H9 _ ⟨_,_,_,e,_⟩=>⟨jE.of (e _ _ n1),jE.of (e _ _ hwl)⟩) ?_ ?_
  ·rintro i x y σ H9 T9 hi hj Qp ⟨v4,v5,rfl,k9,h9⟩;obtain⟨sa,ea,rfl⟩:=lY hi;obtain⟨wa,eb,rfl⟩:=lY hj;obtain⟨st,es,dx,nm,cl,nM,c1,c2,c3,c4⟩:=n2.get ea;obtain⟨wd,ew,hwa⟩:=W.get eb;have hin:i<N.length:=(ao.mp es).1;have ln:=hnm st (au es);have lw:=YW wd (au ew);have ls:=small i;have k1:jm H9 (upd H9 T9 (.tup [.ref sa,.ref wa])):=jj Qp;have K1:=k9.trans k1;have h1:=k1 _ _ h9;refine zT.at jb ?_;generalize upd H9 T9 (.tup [.ref sa,.ref wa])=H1 at *
   refine⟨_,rfl,.inl ⟨rfl,_,jE.of h1⟩,_,rfl,sa,_,dx,_,_,rfl,K1 _ _ c1,T.tU.cl,T.tV,Gj _ _,nm,_,rfl,.inr (rH.of (K1 _ _ c2)),λ L1 XC=>?_⟩;have k2:=jj (o:=.lst (jL st.name)) XC;refine⟨by rw[sizeLine_eq];simp,λ L2 VZ=>?_⟩;have k3:=jj (o:=.lst [V.int 32]) VZ;refine⟨L1,L2,_,_,rfl,rfl,k3 _ _ jb,jb,by rw[jT,sizeLine_eq];simp;omega,λ L3 hL3=>?_⟩;have k4:=jj (o:=.lst (jL st.name++[V.int 32])) hL3;have K4:=((K1.trans k2).trans k3).trans k4;refine⟨_,rfl,L3,wa,_,_,rfl,rfl,jb,K4 _ _ hwa,by rw[aE,jT,jT,sizeLine_eq];simp;omega,λ L4 hL4=>?_⟩;have k5:=jj (o:=.lst (jL st.name++[V.int 32]++jL wd)) hL4;refine⟨by rw[sizeLine_eq];simp,λ L5 hL5=>?_⟩;have k6:=jj (o:=.lst [V.int 10]) hL5;refine⟨L4,L5,_,_,rfl,rfl,k6 _ _ jb,jb,by rw[aE,aE,jT,jT,sizeLine_eq];simp;omega,λ L6 hL6=>?_⟩;have k7:=jj (o:=.lst (jL st.name++[V.int 32]++jL wd++[V.int 10])) hL6;have K7:=((K4.trans k5).trans k6).trans k7;have hD7:=k7 _ _ (k6 _ _ (k5 _ _ (k4 _ _ (k3 _ _ (k2 _ _ h1)))));refine⟨D,L6,_,_,rfl,rfl,hD7,jb,by rw[aE,aE,aE,jT,jT,jT,sizeLine_eq];simp;omega,?_⟩;refine⟨_,_,rfl,λ b u e=>?_,?_⟩
   ·rw[je (jh e hD)];exact K7 _ _ e
   ·rw[jb,take_snoc (N7 es),take_snoc ew,zO (by rw[aX,aX,ah,hlen])];unfold jL Cb;simp
  ·rintro σ H9 ⟨v4,v5,rfl,k9,h9⟩;rw[ah,n2.len,aA (by rw[ah];exact aq _),aA (by rw[hlen];exact aq _)] at h9;have ls:=small N.length;rw[aA (by rw[ah];exact aq _),aA (by rw[hlen];exact aq _)] at ls;generalize mj (N.map λ s=>s.name) words=out at *
   refine⟨_,rfl,_,rfl,D,_,rfl,.inl (jE.of h9),_,_,rfl,rfl,_,rfl,?_⟩
   by_cases hq:room<(out.length:Int)
   ·rw[if_pos hq] at h;exact tW (by rw[jT];exact decide_eq_true hq) (h _)
   ·rw[if_neg hq] at h;refine sX (by rw[jT];exact decide_eq_false hq) ?_;refine⟨_,rfl,D,_,rfl,.inl (jE.of h9),by rw[sizeLine_eq];simp,λ L1 XC=>?_⟩;have k1:=jj (o:=.lst [V.int ((jL out).length:Nat)]) XC;refine⟨_,rfl,L1,D,_,_,rfl,rfl,jb,k1 _ _ h9,by rw[jT,sizeLine_eq];simp;omega,λ L2 VZ=>?_⟩;have k2:=jj (o:=.lst ([V.int ((jL out).length:Nat)]++jL out)) VZ;refine h L2 _ ((k9.trans k1).trans k2) ((k9.trans k1).free VZ) ?_;rw[jb,jT];unfold jL;simp
theorem int_at{xs:List Int}{i:Nat}{v:V}(h:(xs.map V.int)[i]? = some v):i<xs.length/\v=.int (xs.getD i 0):=by
 rw[aj] at h
 cases e:xs[i]? with
 |none=>rw[e] at h;cases h
 |some x=>rw[e] at h;cases h;exact⟨(ao.mp e).1,by rw[aa,e];rfl⟩
def HS(K:ai):Sp:=λ vs H Q _=>∃(ra pa:Addr) (row nI:List Int) (turn:Nat) (before:Int),vs=[.ref ra,.ref pa,.int (turn:Int),.int before]/\jE K H ra (row.map V.int)/\jE K H pa (nI.map V.int)/\row.length=nI.length/\row.length<=17/\turn<row.length /\
 0<before/\before.natAbs<2^1000/\(∀x∈row,x.natAbs<2^1000)/\(∀x∈nI,x.natAbs<2^1000)/\∀D H',jm H H'->H D=none->H' D=some (.lst ((La.lN row nI turn before).map V.int))->Q (.ref D) H'
theorem HU(T:Txt K mg t):Ok P w K mg base 1 t.Du t.A2 ["row","pivot_row","turn","pivot_before"] (HS K):=by
 refine T.cleared.fn.qD qk (λ vs H Q E h=>?_) λ cdv A outer s H vs Q E hr h=>?_
 ·obtain⟨ra,pa,row,nI,turn,before,rfl,_⟩:=h;rfl
 ·obtain⟨ra,pa,row,nI,turn,before,rfl,XD,hpa,hl,h17,ht,b0,bb,EU,Rf,h⟩:=h
  refine⟨_,jc (jD (i:=4) qk.nd rfl (Or.inr rfl) (lZ (HL K) (pv 1) (pv 2) (λ _ _=>rfl)))<|
   jc (jD (i:=5) qk.nd rfl (Or.inr rfl) (lZ (HL K) (pv 0) (pv 2) (λ _ _=>rfl)))<|
   jg (jB (pO (own:=[("number",6),("other",7)]) rfl qk.nd (Ef (by rfl) T.IL (ja (pv 0)<|ja (pv 1) jd)) (j5 rfl) (λ _ _ _ _ _=>tF K (i:=6) (j:=7) rfl qk.nd rfl rfl (Or.inl rfl) (Or.inl rfl)) (λ _ _ _ _ _=>kY)
    (λ _ _ _ _ _=>kB MU (kB D6 (kB Iz (pv 4) (pv 6)) (kB Iz (pv 5) (pv 7))) (pv 3)))),?_⟩
  have mem:∀{l:List Int} {i:Nat},i<l.length->l.getD i 0∈l:=λ {l i} h=>by rw[aa,af h];exact aW h
  have cl:(La.lN row nI turn before).length=row.length:=by unfold La.lN;rw[eT];omega
  refine⟨_,rfl,_,rfl,pa,_,_,_,rfl,rfl,hpa,pC (by omega),_,rfl,_,rfl,ra,_,_,_,rfl,rfl,XD,pC ht,_,rfl,_,rfl,ra,pa,_,_,rfl,XD,hpa,λ D hD=>G9 (K:=K) (a:=ra) (b:=pa) (xs:=row.map V.int) (ys:=nI.map V.int) (by rw[ah,ah,hl])
   (λ i H9=>jm H H9/\H9 D=some (.lst (((La.lN row nI turn before).map V.int).take i))) ⟨jj hD,jb⟩ (λ i H9 _ ⟨e,_⟩=>⟨jm.seq e XD,jm.seq e hpa⟩) ?_ ?_⟩
  ·rintro i x y H9 T9 hi hj Qp ⟨s9,h9⟩;obtain⟨hi1,rfl⟩:=int_at hi;obtain⟨hj1,rfl⟩:=int_at hj;have k1:jm H9 (upd H9 T9 (.tup [.int (row.getD i 0),.int (nI.getD i 0)])):=jj Qp;refine zT.at jb ⟨rfl,?_⟩;refine⟨_,rfl,_,rfl,_,_,rfl,rfl,QW (Rf _ (mem (by omega))) (EU _ (mem hi1)) (by decide),_,rfl,_,rfl,_,_,rfl,rfl,QW (EU _ (mem ht)) (Rf _ (mem hj1)) (by decide),_,_,rfl,rfl,_,rfl,_,_,rfl,rfl,⟨b0,bb⟩,_,k1 _ _ h9,by rw[aX,sizeLine_eq];omega,λ b u e=>?_,?_⟩
   ·rw[je (jh e hD)];exact k1 _ _ (s9 _ _ e)
   ·rw[jb,take_snoc (l:=(La.lN row nI turn before).map V.int) (x:=V.int ((nI.getD turn 0*row.getD i 0-row.getD turn 0*nI.getD i 0).fdiv before)) (by
     have q:(La.lN row nI turn before)[i]? = some ((nI.getD turn 0*row.getD i 0-row.getD turn 0*nI.getD i 0).fdiv before):=by
      unfold La.lN;rw[fF,af hi1,af hj1,aa (l:=row) (i:=i),af hi1,aa (l:=nI) (i:=i),af hj1];rfl
     rw[aj,q];rfl)]
  ·rintro H9 ⟨s9,h9⟩;rw[ah,aA (by rw[ah,cl];exact aq _)] at h9;exact h D H9 s9 hD h9
abbrev YX(H:Hp)(Rg:List Addr)(rows:List (List Int)):Prop:=Ea (λ row a=>H a=some (.lst (row.map V.int))) Rg rows
def Oa(K:ai)(t:nF):Sp:=λ vs H Q _=>∃(rl:Addr) (Rg:List Addr) (rows:List (List Int)),vs=[.ref rl]/\H rl=some (.lst (Rg.map V.ref))/\YX H Rg rows/\1<=rows.length/\rows.length<=16/\(∀r∈rows,r.length=rows.length+1) /\
 (∀i j,i<rows.length->j<=rows.length->((rows.getD i []).getD j 0).natAbs<2^40)/\(∀k,k<rows.length->0<La.G (La.ent rows) k k k)/\∀x H',jm H H'->H x=none->OA K t H' x (La.lF rows).1 (La.lF rows).2->Q (.ref x) H'
theorem Qx{xs:List V}{n:Nat}(h:xs.length=n+1):Fe xs (-1)=xs[n]?:=by
 unfold Fe Ih
 rw[if_neg (by decide),if_pos (by omega)]
 show xs[((-1:Int)+(xs.length:Int)).toNat]? = _
 rw[h]
 congr 1
 omega
theorem Ob(T:Txt K mg t):Ok P w K mg base 3 t.IG t.FW ["rows"] (Oa K t):=by
 refine T.QX.fn.qD mZ (λ vs H Q E h=>?_) λ cdv A outer s H vs Q E hr h=>?_
 ·obtain⟨rl,Rg,rows,rfl,_⟩:=h;rfl
 ·obtain⟨rl,Rg,rows,rfl,hrl,R,n1,Qy,hw,hA,hp,h⟩:=h
  have hr1:=hr.mono (show 1<=2 by decide);refine⟨_,jc (jD (i:=1) mZ.nd rfl (Or.inr rfl) jv)<|
   jc (qc mW rfl (vA (by rfl) T.Ab (ja (jX jK (by rfl) T.qx nH (ja (pv 0) jd)) jd)) (j0 (i:=2) mZ.nd rfl (Or.inr rfl))
    (jc (jD (i:=3) mZ.nd rfl (Or.inr rfl) (lZ (HL K) (pv 0) (pv 2) (λ _ _=>rfl)))<|
      jc (AB (i:=0) (own:=[("place",4),("row",5)]) rfl mZ.nd rfl rfl (Ed mZ.kind rfl rfl rfl) (xF (by rfl) T.o9 (ja (pv 0) jd)) (j5 rfl) (λ _ _ _ _ _=>tF K (i:=4) (j:=5) rfl mZ.nd rfl rfl (Or.inl rfl) (Or.inl rfl)) (λ _ _ _ _ _=>kY)
       (λ _ _ _ _ _=>uu (lU Aq (pv 4) (pv 2) (kC _)) (pv 5) (jI T.cleared (HU T) hr1 rfl jF (ja (pv 5)<|ja (pv 3)<|ja (pv 2)<|ja (pv 1) jd))))<|
      jg (jD (i:=1) mZ.nd rfl (Or.inr rfl) (lZ (HL K) (pv 3) (pv 2) (λ _ _=>rfl)))))<|
   jg (jB (Dj T.o7 T.zG (B7 T) hr rfl jF (ja (pO (own:=[("row",5)]) rfl mZ.nd (lH (pv 0)) (j5 rfl) (λ _ _ _ _ _=>j0 (i:=5) mZ.nd rfl (Or.inl rfl)) (λ _ _ _ _ _=>kY) (λ _ _ _ _ _=>lZ (HL K) (pv 5) (E2 Ao jv) (λ _ _=>rfl)))<|ja (pv 1) jd))),?_⟩
  have lr:(Rg.map V.ref).length=rows.length:=by rw[ah,R.len]
  refine⟨_,rfl,rl,_,rfl,.inl (jE.of hrl),_,rfl,by rw[lr];omega,by rw[lr];omega,?_⟩;rw[lr];have en:(rows.length:Int).toNat=rows.length:=by simp
  refine CW (n:=(rows.length:Int).toNat) (λ k σ H9=>∃(la:Addr) (S5:List Addr) (v2 v3:Option V),σ=[some (.ref la),some (.int (La.jx rows k).2),v2,v3,none,none]/\jm H H9/\H9 la=some (.lst (S5.map V.ref))/\YX H9 S5 (La.jx rows k).1)
   ⟨rl,Rg,none,none,rfl,jm.refl _,hrl,R⟩ ?_ ?_
  ·rintro k σ H9 hk ⟨la,S5,v2,v3,rfl,k9,h9,R9⟩;rw[en] at hk;have ez:(0:Int)+(k:Int)=(k:Int):=by omega
   obtain⟨t1,t2,t3,t4⟩:=La.qz rfl hw hp k (aY hk);obtain⟨z1,z2⟩:=La.F6 rfl hw Qy hA hp k (aY hk);have pos:0<(La.jx rows k).2:=by
    have:((0:Int):Rat)<((La.jx rows k).2:Rat):=by rw[t3];exact La.Bs hp k (aY hk)
    exact cK.mp this
   have big:∀r∈(La.jx rows k).1,∀x∈r,x.natAbs<2^1000:=λ r hr x hx=>by
    obtain⟨i,hi,rfl⟩:=bN hr;obtain⟨j,hj,rfl⟩:=bN hx;have lr:=t2 _ (aW hi);have:=z2 i j (by omega) (by omega);rw[aa,aa,af hi] at this;rw[di,af hj] at this;exact this
   obtain⟨nI,ep⟩:∃nI,(La.jx rows k).1[k]? = some nI:=⟨_,af (by omega)⟩
   obtain⟨pa,ea,hpa⟩:=R9.at_ k nI ep;have gp:(La.jx rows k).1.getD k []=nI:=by rw[aa,ep];rfl
   have lp:=t2 nI (au ep);refine⟨_,rfl,_,rfl,la,_,(k:Int),.ref pa,rfl,by rw[ez],jE.of h9,sZ (by rw[aj,ea];rfl),?_⟩;have Vw:(La.jx rows (k+1)).1.length=rows.length:=(La.qz rfl hw hp (k+1) hk).1;refine⟨_,rfl,la,_,rfl,jE.of h9,λ D hD=>Pq (K:=K) (a:=la) (xs:=S5.map V.ref) (λ i H8=>∃qs:List Addr,qs.length=i/\jm H9 H8/\H8 D=some (.lst (qs.map V.ref))/\Ea (λ row a=>H8 a=some (.lst (row.map V.int))/\a≠D) qs ((La.jx rows (k+1)).1.take i))
    ⟨[],rfl,jj hD,jb,Ea.nil⟩ (λ i H8 _ ⟨_,_,e,_,_⟩=>jE.of (e _ _ h9)) ?_ ?_⟩
   ·rintro i x H8 T8 hi Vv ⟨qs,Lk,k8,h8,E8⟩;obtain⟨ra,er,rfl⟩:=lY hi;obtain⟨row,eo,EU⟩:=R9.get er;have hin:i<rows.length:=by rw[<-t1];exact (ao.mp eo).1
    have Oc:=t2 row (au eo);have k7:jm H8 (upd H8 T8 (.tup [.int (i:Nat),.ref ra])):=jj Vv;have h7:=k7 _ _ h8;have K7:=k8.trans k7;have E7:=E8.mono λ x a h=>(⟨k7 _ _ h.1,h.2⟩:_/\a≠D)
    have nx:(La.jx rows (k+1)).1[i]? = some (if i=k then row else La.lN row nI k (La.jx rows k).2):=by
     show ((La.jx rows k).1.zipIdx.map λ x=>if x.2=k then x.1 else La.lN x.1 ((La.jx rows k).1.getD k []) k (La.jx rows k).2)[i]? = _;rw[aj,dY,eo,gp];simp
    refine zT.at jb ⟨rfl,?_⟩;generalize upd H8 T8 (.tup [.int (i:Nat),.ref ra])=H7 at *
    have fin:∀(z:Addr) (H4:Hp),jm H7 H4->H4 z=some (.lst ((if i=k then row else La.lN row nI k (La.jx rows k).2).map V.int))->z≠D->∃acc,H4 D=some (.lst acc)/\acc.length<sizeLine/\∃qs:List Addr,qs.length=i+1/\jm H9 (upd H4 D (.lst (acc++[V.ref z]))) /\
      (upd H4 D (.lst (acc++[V.ref z]))) D=some (.lst (qs.map V.ref))/\Ea (λ row a=>(upd H4 D (.lst (acc++[V.ref z]))) a=some (.lst (row.map V.int))/\a≠D) qs ((La.jx rows (k+1)).1.take (i+1)):=λ z H4 k4 hz hne=>by
     refine⟨qs.map V.ref,k4 _ _ h7,by rw[ah,Lk,sizeLine_eq];omega,qs++[z],by simp[Lk],λ b u e=>?_,by rw[jb,bu];rfl,?_⟩
     ·rw[je (jh e hD)];exact k4 _ _ (K7 _ _ e)
     ·rw[take_snoc nx];exact Ea.snoc (E7.mono λ x a h=>⟨by rw[je h.2];exact k4 _ _ h.1,h.2⟩) ⟨by rw[je hne];exact hz,hne⟩
    have Vx:=K7 _ _ EU;have XE:ra≠D:=λ q=>by rw[q,hD] at EU;cases EU
    refine⟨_,rfl,_,rfl,rfl,_,rfl,?_⟩;rw[ez]
    by_cases hik:i=k
    ·refine tW (by rw[mq];simp[hik]) ?_;refine⟨_,rfl,fin ra H7 (jm.refl _) ?_ XE⟩;rw[if_pos hik];exact Vx
    ·refine sX (by rw[mq];simp;omega) ?_;rw[if_neg hik] at fin;refine⟨_,rfl,_,rfl,_,rfl,_,rfl,ra,pa,row,nI,k,(La.jx rows k).2,rfl,jE.of Vx,jE.of (K7 _ _ hpa),by rw[Oc,lp],by rw[Oc];omega,by rw[Oc];omega,pos,z1,big row (au eo),big nI (au ep),λ z H4 k4 hz h4=>fin z H4 k4 h4 (λ q=>by rw[q,h7] at hz;cases hz)⟩
   ·rintro H8 ⟨qs,Lk,k8,h8,E8⟩;rw[ah,R9.len,t1] at Lk E8;rw[aA (by rw[Vw];exact aq _)] at E8;refine⟨_,rfl,_,rfl,pa,_,(k:Int),.int (nI.getD k 0),rfl,by rw[ez],jE.of (k8 _ _ hpa),pC (by omega),?_⟩;refine⟨D,qs,some (.int (0+(k:Int))),some (.ref pa),?_,k9.trans k8,h8,E8.mono λ x a h=>h.1⟩;show _=[some (V.ref D),some (V.int (((La.jx rows k).1.getD k []).getD k 0)),some (.int (0+(k:Int))),some (.ref pa),none,none];rw[gp];rfl
  ·rintro σ H9 ⟨la,S5,v2,v3,rfl,k9,h9,R9⟩;rw[en] at R9 ⊢;obtain⟨t1,t2,t3,t4⟩:=La.qz rfl hw hp rows.length (aq _);refine⟨_,rfl,la,rfl,⟨_,jE.of h9⟩,λ D hD=>mR (K:=K) (a:=la) (xs:=S5.map V.ref) (λ i H8=>H8=upd H9 D (.lst (((La.lF rows).1.map V.int).take i))) rfl (λ i H8 _ e8=>by rw[e8];exact jE.of (by rw[je (jh h9 hD)];exact h9)) ?_ ?_⟩
   ·rintro i x H8 hi rfl;obtain⟨ra,er,rfl⟩:=lY hi;obtain⟨row,eo,EU⟩:=R9.get er;have Oc:=t2 row (au eo);have hin:i<rows.length:=by rw[<-t1];exact (ao.mp eo).1
    refine⟨rfl,?_⟩;have gl:(row.map V.int)[rows.length]? = some (.int (row.getD rows.length 0)):=by
     rw[aj,af (by omega),aa,af (by omega)];rfl
    refine⟨_,rfl,_,rfl,ra,_,-1,.int (row.getD rows.length 0),rfl,rfl,jE.of (by rw[je (jh EU hD)];exact EU),(Qx (by rw[ah,Oc])).trans gl,_,jb,by rw[aX,sizeLine_eq];omega,?_⟩;rw[jU,take_snoc (l:=(La.lF rows).1.map V.int) (x:=V.int (row.getD rows.length 0)) (by
     unfold La.lF;rw[aj,aj,eo];rfl)]
   ·rintro H8 rfl;rw[ah,show ((La.lF rows).1.map V.int).take S5.length=(La.lF rows).1.map V.int from aA (by rw[ah,R9.len];unfold La.lF;rw[ah];exact aq _)];have k1:=jj (o:=.lst ((La.lF rows).1.map V.int)) hD;refine⟨_,rfl,?_⟩;intro x dx hx hdx hne;refine⟨x,dx,_,_,rfl,jb,?_⟩;rw[jU];have k2:=p8 (u:=.own x) (v:=.ins t.nS dx (Qm (.ref D) (.int (La.jx rows rows.length).2))) hx hdx;exact⟨rfl,h x _ ((k9.trans k1).trans k2) ((k9.trans k1).free hx) ⟨dx,D,jb,jE.of (k2 _ _ jb)⟩⟩
structure TM(K:ai)(t:nF)(H:Hp)(q:Addr)(iZ:List (List Fq.kU))(ends:List Int):Prop where
 ex:∃dq ol el ls,H q=some (.ins t.lK dq (Lg (.ref ol) (.ref el)))/\H ol=some (.lst (ls.map V.ref))/\Ea (Jq t H) ls iZ/\jE K H el (ends.map V.int)
theorem TM.same{H H':Hp}{q:Addr}{iZ:List (List Fq.kU)}{ends:List Int}(h:TM K t H q iZ ends)(k:jm H H'):TM K t H' q iZ ends:=by
 obtain⟨dq,ol,el,ls,h1,h2,h3,h4⟩:=h.ex
 exact⟨dq,ol,el,ls,k _ _ h1,k _ _ h2,h3.mono λ x a h=>h.same k,k.seq h4⟩
theorem tY{H:Hp}{D:Addr}{row:List Int}{j:Nat}{z:Int}:upd H D (.lst ((row.map V.int).set j (.int z)))=upd H D (.lst ((row.set j z).map V.int)):=by rw[List.map_set]
theorem Cd{n i:Nat}(h:i<n):Ih n (i:Int)=some i:=by
 unfold Ih;rw[if_pos (by omega),if_pos (by omega),bP]
theorem Od{n:Nat}:Ih (n+1) (-1)=some n:=by
 unfold Ih;rw[if_neg (by decide),if_pos (by omega)]
 congr 1
 omega
theorem Gs{α:Type}(x:α):∀n,(aF n [x]).flatten=aF n x
 |0=>rfl
 |n+1=>by rw[cJ,dN,Gs x n];rfl
def Gu(K:ai)(t:nF):Sp:=λ vs H Q _=>∃(q pl:Addr) (place n:Nat) (iZ:List (List Fq.kU)) (ends ji:List Int),vs=[.ref q,.ref pl,.int (place:Int)]/\TM K t H q iZ ends/\jE K H pl (ji.map V.int)/\iZ.length=n/\ends.length=n/\n<=16/\place<n/\La.Fits iZ n ji/\(∀os∈iZ,∀o∈os,Small o n) /\
 ∀D H',jm H H'->H D=none->H' D=some (.lst ((La.IW n place (iZ.getD place []) (ends.getD place 0) (ji.getD place 0).toNat).map V.int))->Q (.ref D) H'
theorem Gv(T:Txt K mg t):Ok P w K mg base 1 t.su t.qL ["self","plan","place"] (Gu K t):=by
 refine T.u5.fn.qD mw (λ vs H Q E h=>?_) λ cdv A outer s H vs Q E hr h=>?_
 ·obtain⟨q,pl,place,n,iZ,ends,ji,rfl,_⟩:=h;rfl
 ·obtain⟨q,pl,place,n,iZ,ends,ji,rfl,⟨dq,ol,el,ls,q1,q2,W,q4⟩,hpl,hon,hen,hn,hp,F,S,h⟩:=h
  refine⟨_,jc (jD (i:=3) mw.nd rfl (Or.inl rfl) (kB RN (mh (ja jv jd)) (kB An (jX jK (by rfl) T.qx nH (ja (pv 1) jd)) jv)))<|
   jc (rJ (lU Aq (jX jK (by rfl) T.qx nH (ja (lZ (HL K) (jR K (pv 0) rfl) (pv 2) (λ _ _=>rfl)) jd)) jv (kC _))
    (jc (wN jv (wM (pv 3) (pv 2) set_list))<|
      jc (wN (lZ (HL K) (jR K (pv 0) rfl) (pv 2) (λ _ _=>rfl)) (wM (pv 3) (E2 Ao jv) set_list))<|
      jg (jB (pv 3))) nc)<|
   jc (jD (i:=4) mw.nd rfl (Or.inl rfl) (lZ (HL K) (lZ (HL K) (jR K (pv 0) rfl) (pv 2) (λ _ _=>rfl)) (lZ (HL K) (pv 1) (pv 2) (λ _ _=>rfl)) (λ _ _=>rfl)))<|
   jc (wN (jR K (pv 4) rfl) (wM (pv 3) (pv 2) set_list))<|
   jc (qc mW rfl (lH (jR K (pv 4) rfl)) (j0 (i:=5) mw.nd rfl (Or.inl rfl))
    (jg (OO (pv 3) (lZ (Ox K) (pv 5) jv (λ _ _=>rfl)) MV (lZ (Ox K) (pv 5) jv (λ _ _=>rfl)) RA set_list)))<|
   jc (wN (kB uw (jR K (pv 4) rfl) (jR K (pv 4) rfl)) (wM (pv 3) (E2 Ao jv) set_list))<|
   jg (jB (pv 3)),?_⟩
  have lp:(ji.map V.int).length=n:=by rw[ah,F.len]
  refine⟨by rw[sizeLine_eq];simp,λ L0 hL0=>?_⟩;have k0:=jj (o:=.lst [V.int 0]) hL0;refine⟨_,rfl,pl,_,rfl,.inl (jm.seq k0 hpl),_,_,rfl,rfl,L0,_,_,rfl,rfl,jb,by rw[lp];omega,by rw[lp];omega,?_,λ D hD=>?_⟩
  ·rw[lp,sizeLine_eq];show 1*((n:Int)+1).toNat<=_;omega
  have e0:(aF (((ji.map V.int).length:Int)+1).toNat [V.int 0]).flatten=(aF (n+1) (0:Int)).map V.int:=by
   rw[lp,Gs,List.map_replicate]
   congr 1
  rw[e0];have k1:=k0.trans (jj (o:=.lst ((aF (n+1) (0:Int)).map V.int)) hD);have d1:(upd (upd H L0 (.lst [V.int 0])) D (.lst ((aF (n+1) (0:Int)).map V.int))) D=some (.lst ((aF (n+1) (0:Int)).map V.int)):=jb;have XF:H D=none:=k0.free hD;generalize upd (upd H L0 (.lst [V.int 0])) D (.lst ((aF (n+1) (0:Int)).map V.int))=H1 at *
  have put:∀{H9:Hp} {o:HO},jm H H9->jm H (upd H9 D o):=λ {H9 o} k b u e=>by rw[je (jh e XF)];exact k b u e
  obtain⟨os,eo⟩:∃os,iZ[place]? = some os:=⟨_,af (by omega)⟩
  obtain⟨la,YY,as,l1,l2⟩:=W.at_ place os eo;have go:iZ.getD place []=os:=by rw[aa,eo];rfl
  rw[go] at h;refine⟨_,rfl,q,_,dq,_,_,rfl,k1 _ _ q1,T.mT.cl,T.nv,vz _ _,_,rfl,ol,_,_,.ref la,rfl,rfl,jE.of (k1 _ _ q2),sZ (by rw[aj,YY];rfl),la,_,rfl,.inl (jE.of (k1 _ _ l1)),rfl,_,rfl,?_⟩;rw[ah,l2.len]
  by_cases h0:os.length=0
  ·refine tW (by rw[mq];simp[h0]) ?_;refine⟨_,rfl,_,rfl,D,_,(place:Int),place,rfl,rfl,d1,Cd (by rw[ah,cB];omega),?_⟩;rw[tY];have k2:jm H (upd H1 D (.lst (((aF (n+1) (0:Int)).set place 1).map V.int))):=put k1;refine⟨_,rfl,q,_,dq,_,_,rfl,k2 _ _ q1,T.mT.cl,T.yc,NY _ _,_,rfl,el,_,_,.int (ends.getD place 0),rfl,rfl,jm.seq k2 q4,pC (by omega),?_⟩;refine⟨_,rfl,_,rfl,D,_,-1,n,rfl,rfl,jb,by rw[ah,cy,cB];exact Od,?_⟩;rw[tY];refine⟨_,rfl,h D _ (put k2) XF ?_⟩;rw[jb];unfold La.IW;rw[if_pos h0]
  ·refine sX (by rw[mq];exact beq_eq_false_iff_ne.mpr (by omega)) ?_;have fit:=F.at_ place hp (by rw[go];exact h0);rw[go] at fit;obtain⟨b,hb⟩:∃b,b=(ji.getD place 0).toNat:=⟨_,rfl⟩
   rw[<-hb] at fit h;have hb2:ji.getD place 0=(b:Int):=by rw[hb];exact (f7 fit.1).symm
   obtain⟨o,eb⟩:∃o,os[b]? = some o:=⟨_,af fit.2⟩
   obtain⟨ca,ec,dx,nm,wy,ps,c1,c2,c3,c4⟩:=l2.at_ b o eb;have gb:os.getD b Fq.jz=o:=by rw[aa,eb];rfl
   have So:=S os (au eo) o (au eb);refine⟨_,rfl,q,_,dq,_,_,rfl,k1 _ _ q1,T.mT.cl,T.nv,vz _ _,_,rfl,ol,_,_,.ref la,rfl,rfl,jE.of (k1 _ _ q2),sZ (by rw[aj,YY];rfl),_,rfl,_,rfl,pl,_,_,.int (ji.getD place 0),rfl,rfl,jm.seq k1 hpl,pC (by rw[F.len];exact hp),la,_,_,.ref ca,rfl,rfl,jE.of (k1 _ _ l1),?_,?_⟩
   ·rw[hb2];exact sZ (by rw[aj,ec];rfl)
   refine⟨_,rfl,ca,_,dx,_,_,rfl,k1 _ _ c1,T.jN.cl,T.lE,p6 _ _ _ _,_,rfl,_,rfl,D,_,(place:Int),place,rfl,rfl,d1,Cd (by rw[ah,cB];omega),?_⟩;rw[tY];have k2:jm H (upd H1 D (.lst (((aF (n+1) (0:Int)).set place o.tot).map V.int))):=put k1;have d2:(upd H1 D (.lst (((aF (n+1) (0:Int)).set place o.tot).map V.int))) D=some (.lst (((aF (n+1) (0:Int)).set place o.tot).map V.int)):=jb;generalize upd H1 D (.lst (((aF (n+1) (0:Int)).set place o.tot).map V.int))=H2 at *
   have tl:∀i,(La.sN (o.ways.take i) ((aF (n+1) (0:Int)).set place o.tot)).length=n+1:=λ i=>by rw[La.sO,cy,cB]
   refine⟨_,rfl,ca,_,dx,_,_,rfl,k2 _ _ c1,T.jN.cl,T.lT,vp _ _ _ _,wy,rfl,⟨_,jE.of (k2 _ _ c3)⟩,xD (K:=K) (a:=wy) (xs:=ps.map V.ref) (λ i σ H9=>∃v5,σ=[some (.ref q),some (.ref pl),some (.int (place:Int)),some (.ref D),some (.ref ca),v5]/\jm H H9/\H9 D=some (.lst ((La.sN (o.ways.take i) ((aF (n+1) (0:Int)).set place o.tot)).map V.int)))
    ⟨none,rfl,k2,d2⟩ (λ i σ H9 _ ⟨_,_,e,_⟩=>jE.of (e _ _ c3)) ?_ ?_⟩
   ·rintro i x σ H9 hi ⟨v5,rfl,k9,d9⟩;obtain⟨pa,ea,rfl⟩:=lY hi;obtain⟨wv,ew,V0⟩:=c4.get ea;have wm:=(So.ways.2 wv (au ew)).1;refine⟨_,rfl,_,rfl,pa,_,_,.int (wv.1:Int),rfl,rfl,rH.of (k9 _ _ V0),S0,D,_,wv.1,.int ((La.sN (o.ways.take i) ((aF (n+1) (0:Int)).set place o.tot)).getD wv.1 0),rfl,rfl,jE.of d9,?_,_,rfl,pa,_,_,.int (wv.2:Int),rfl,rfl,rH.of (k9 _ _ V0),Vt,_,_,rfl,rfl,D,_,(wv.1:Int),wv.1,rfl,rfl,d9,Cd (by rw[ah,tl];omega),?_⟩
    ·rw[aj,af (by rw[tl];omega),aa,af (by rw[tl];omega)];rfl
    ·rw[tY];refine⟨_,rfl,put k9,?_⟩;rw[jb,take_snoc ew];unfold La.sN;rw[cV];rfl
   ·rintro σ H9 ⟨v5,rfl,k9,d9⟩;rw[ah,c4.len,eG] at d9;have tn:=tl o.ways.length;rw[eG] at tn;refine⟨_,rfl,ca,_,dx,_,_,rfl,k9 _ _ c1,T.jN.cl,T.oO,yE _ _ _ _,_,rfl,ca,_,dx,_,_,rfl,k9 _ _ c1,T.jN.cl,T.lE,p6 _ _ _ _,_,_,rfl,rfl,?_,_,rfl,_,rfl,D,_,-1,n,rfl,rfl,d9,by rw[ah,tn];exact Od,?_⟩
    ·have:=So.gain;left;constructor<;>omega
    ·rw[tY];refine⟨_,rfl,h D _ (put k9) XF ?_⟩;rw[jb];unfold La.IW;rw[if_neg h0,gb]
theorem zP(k:List Int):SeqAt.shaped (.list (k.map PyData.int))=true:=by
 unfold SeqAt.shaped
 rw[PyData.canLay0,PyData.depth,lay_ints,xx];rfl
def XG(K:ai):R2:=λ x y H Q=>∃(a b:Addr) (k m:List Int),x=.ref a/\y=.ref b/\jE K H a (k.map V.int)/\jE K H b (m.map V.int)/\Q (.bl (decide (k=m))) H
theorem S6{X:Cx}(K:ai)(hu:X.A.units+64<cLine)(e:X.K=K:=by rfl):vB X (compareOp .Eq) (XG K):=by
 subst e
 intro pins s σ H x y v u Q I rx ry h
 obtain⟨a,b,k,m,rfl,rfl,ha,hb,q⟩:=h
 refine Mb hu pins s σ H _ _ v u Q I rx ry ⟨_,_,.lst ha (yG k),.lst hb (yG m),zP k,zP m,?_⟩
 rw[PyData.eqv,BY];exact q
theorem Jx{j b:Nat}:∀(ws:List (Nat×Nat)) (row:List Int) (b:Nat),(∀w∈ws,w.1<row.length/\w.2<=1000000)->(row.getD j 0).natAbs<=b->((La.sN ws row).getD j 0).natAbs<=b+ws.length*1000000
 |[],row,b,_,h=>by simpa [La.sN] using h
 |w::ws,row,b,hw,h=>by
  have w0:=hw w (by simp);have:=Jx (j:=j) (b:=b) ws (row.set w.1 (row.getD w.1 0-(w.2:Int))) (b+1000000) (λ v hv=>by rw[cy];exact hw v (by simp[hv])) (by
   rw[La.kL w0.1]
   split
   ·rename_i e;rw[<-e];omega
   ·omega)
  show ((La.sN ws (row.set w.1 (row.getD w.1 0-(w.2:Int)))).getD j 0).natAbs<=_;rw[aK];omega
theorem Oe(n j:Nat):(aF n (0:Int)).getD j 0=0:=by
 rw[aa,e7];split<;>rfl
theorem Vy{n place k j:Nat}{os:List Fq.kU}{e:Int}(hp:place<n)(he:e.natAbs<=1000)(hk:os.length≠0->k<os.length)(S:∀o∈os,Small o n):((La.IW n place os e k).getD j 0).natAbs<2^40:=by
 unfold La.IW
 split
 ·rw[La.kL (by simp)]
  split
  ·omega
  ·rw[La.kL (by simp;omega)]
   split
   ·decide
   ·rw[Oe];decide
 ·rename_i h
  have So:=S _ (La.getD_mem (hk h));rw[La.kL (by rw[La.sO];simp)]
  split
  ·obtain⟨a,b⟩:=So.gain;obtain⟨c,d⟩:=So.tot;rw[gu];have:((os.getD k Fq.jz).gain.natAbs)*((os.getD k Fq.jz).tot.natAbs)<=1000*16000000:=Nat.mul_le_mul (by omega) (by omega);omega
  ·have:=Jx (j:=j) (b:=0) (os.getD k Fq.jz).ways ((aF (n+1) (0:Int)).set place (os.getD k Fq.jz).tot) 16000000 (λ w hw=>by
    have:=So.ways.2 w hw;rw[cy,cB];omega) (by
    rw[La.kL (by simp;omega)]
    split
    ·have:=So.tot;omega
    ·rw[Oe];decide)
   have:=So.ways.1;have:(os.getD k Fq.jz).ways.length*1000000<=16*1000000:=eB _ this;omega
theorem Jy{iZ:List (List Fq.kU)}{s:Nat}(h:s<iZ.length):iZ.getD s []∈iZ:=by
 rw[aa,af h];exact aW h
structure Gw(iZ:List (List Fq.kU))(ends:List Int):Prop where
 n1:1<=iZ.length
 Qy:iZ.length<=16
 len:ends.length=iZ.length
 ends:∀e∈ends,e.natAbs<=1000
 iZ:∀os∈iZ,os.length<=8/\∀o∈os,Small o iZ.length
theorem Gw.ways{iZ:List (List Fq.kU)}{ends:List Int}(f:Gw iZ ends):∀os∈iZ,∀o∈os,∀w∈o.ways,w.1<iZ.length:=λ os hos o ho w hw=>(((f.iZ os hos).2 o ho).ways.2 w hw).1
theorem Gw.rows{iZ:List (List Fq.kU)}{ends ji:List Int}(f:Gw iZ ends)(F:La.Fits iZ iZ.length ji):∀i j,i<iZ.length->j<=iZ.length->(((La.m8 iZ ends iZ.length ji).getD i []).getD j 0).natAbs<2^40:=λ i j hi hj=>by
 rw[La.ED hi]
 refine Vy hi (f.ends _ ?_) (λ h=>(F.at_ i hi h).2) (f.iZ _ (Jy hi)).2
 have hi':i<ends.length:=by rw[f.len];exact hi
 rw[aa,af hi'];exact aW hi'
theorem Gw.Vz{iZ:List (List Fq.kU)}{ends ji:List Int}(f:Gw iZ ends)(F:La.Fits iZ iZ.length ji)(hp:∀k,k<iZ.length->0<La.G (La.ent (La.m8 iZ ends iZ.length ji)) k k k) :
  Ju (La.ko iZ ends iZ.length ji).1 (La.ko iZ ends iZ.length ji).2 1000:=by
 have hl:=La.Ag (iZ:=iZ) (ends:=ends) (n:=iZ.length) (ji:=ji)
 obtain⟨z1,z2⟩:=La.F6 hl.1 hl.2 f.Qy (f.rows F) hp _ (aq _)
 have t1:=(La.qz hl.1 hl.2 hp _ (aq _)).1
 unfold La.ko La.lF
 rw[hl.1]
 refine⟨λ x hx=>?_,z1,by decide⟩
 obtain⟨r,hr,rfl⟩:=az.mp hx
 obtain⟨i,hi,rfl⟩:=bN hr
 have:=z2 i iZ.length (by omega) (aq _)
 rw[show (La.jx (La.m8 iZ ends iZ.length ji) iZ.length).1.getD i []=(La.jx (La.m8 iZ ends iZ.length ji) iZ.length).1[i] by rw[aa,af hi];rfl] at this
 exact this
def Gx(K:ai)(t:nF):Sp:=λ vs H Q _=>∃(q pl:Addr) (iZ:List (List Fq.kU)) (ends ji:List Int) (P:List Int->Prop),vs=[.ref q,.ref pl]/\TM K t H q iZ ends/\jE K H pl (ji.map V.int)/\Gw iZ ends /\
 P ji/\(∀π,P π->La.Fits iZ iZ.length π/\(∃u,La.Keeps (La.kM iZ ends π) iZ.length u)/\P (La.nextM iZ ends iZ.length π))/\(∃k,La.nextM iZ ends iZ.length (La.iter (La.nextM iZ ends iZ.length) k ji)=La.iter (La.nextM iZ ends iZ.length) k ji) /\
 ∀π x H',P π->La.nextM iZ ends iZ.length π = π->jm H H'->H x=none->OA K t H' x (La.ko iZ ends iZ.length π).1 (La.ko iZ ends iZ.length π).2->Ju (La.ko iZ ends iZ.length π).1 (La.ko iZ ends iZ.length π).2 1000->Q (.ref x) H'
theorem Gy(T:Txt K mg t):Ok P w K mg base 4 t.sC t.qO ["self","plan"] (Gx K t):=by
 refine T.vc.fn.qD kP (λ vs H Q E h=>?_) λ cdv A outer s H vs Q E hr h=>?_
 ·obtain⟨q,pl,iZ,ends,ji,P,rfl,_⟩:=h;rfl
 ·obtain⟨q,pl,iZ,ends,ji,Pp,rfl,hq,hpl,f,p0,ps,⟨k,hk⟩,h⟩:=h
  have hr1:=hr.mono (show 1<=3 by decide);refine⟨_,jg (mU mW (qb LA)
   (jc (jD (i:=2) kP.nd rfl (Or.inl rfl) (jI T.QX (Ob T) hr rfl jF (ja
    (pO (own:=[("place",3)]) rfl kP.nd (vA (by rfl) T.Ab (ja (jX jK (by rfl) T.qx nH (ja (pv 1) jd)) jd)) (j5 rfl) (λ _ _ _ _ _=>j0 (i:=3) kP.nd rfl (Or.inl rfl)) (λ _ _ _ _ _=>kY)
     (λ _ _ _ _ _=>rQ T.mT T.u5 (Gv T) hr1 jF (pv 0) (ja (pv 1)<|ja (pv 3) jd))) jd)))<|
     jc (jD (i:=4) kP.nd rfl (Or.inl rfl) (rQ T.mT T.u7 (Gp T) hr jF (pv 0) (ja (pv 1)<|ja (pv 2) jd)))<|
     jc (rJ (lU (S6 K hr.units) (pv 4) (pv 1) (kC _)) (jg (jB (pv 2))) nc)<|
     jg (jD (i:=1) kP.nd rfl (Or.inr rfl) (pv 4)))),?_⟩
  have Pi:∀i,Pp (La.iter (La.nextM iZ ends iZ.length) i ji):=λ i=>by
   induction i with
   |zero=>exact p0
   |succ i ih=>rw[La.oH];exact (ps _ ih).2.2
  refine⟨λ m σ H9=>∃i S7 v2 v4,σ=[some (.ref q),some (.ref S7),v2,none,v4]/\jm H H9/\jE K H9 S7 ((La.iter (La.nextM iZ ends iZ.length) i ji).map V.int)/\i<=k/\m=k-i,
   ⟨_,0,pl,none,none,rfl,jm.refl _,hpl,aZ _,rfl⟩,?_⟩
  rintro m σ H9 ⟨i,S7,v2,v4,rfl,k9,V1,hik,rfl⟩;obtain⟨F,⟨u,Ku⟩,pn⟩:=ps _ (Pi i);have nx:La.iter (La.nextM iZ ends iZ.length) (i+1) ji=La.nextM iZ ends iZ.length (La.iter (La.nextM iZ ends iZ.length) i ji):=La.oH _ _ _;have hpi:=Pi i;have VA:i=k->La.nextM iZ ends iZ.length (La.iter (La.nextM iZ ends iZ.length) i ji)=La.iter (La.nextM iZ ends iZ.length) i ji:=λ e=>by rw[e];exact hk
  generalize La.iter (La.nextM iZ ends iZ.length) i ji = π at *
  have hp:=(La.IQ (La.IZ f.ways F Ku) iZ.length (aq _)).1;have vl:=La.zf f.ways F Ku;refine⟨true,rfl,tW rfl ⟨λ σ H8=>∃D x,σ=[some (.ref q),some (.ref D),some (.ref x),none,some (.ref D)]/\jm H H8/\H8 D=some (.lst ((La.nextM iZ ends iZ.length π).map V.int))/\i<k,?_,?_⟩⟩
  ·rintro σ H8 ⟨D,x,rfl,k8,h8,lt⟩;exact⟨k-(i+1),by omega,i+1,D,_,_,rfl,k8,by rw[nx];exact jE.of h8,lt,rfl⟩
  have lp:(π.map V.int).length=iZ.length:=by rw[ah,F.len]
  obtain⟨dq,ol,el,ls,q1,q2,W,q4⟩:=hq.ex;refine⟨_,rfl,S7,_,rfl,.inl V1,_,rfl,by rw[lp];have:=f.Qy;omega,by rw[lp];have:=f.Qy;omega,λ D hD=>?_⟩;rw[lp];have en:(iZ.length:Int).toNat=iZ.length:=by simp
  refine Ft (n:=(iZ.length:Int).toNat) (λ i H8=>∃qs:List Addr,qs.length=i/\jm H9 H8/\H8 D=some (.lst (qs.map V.ref))/\Ea (λ row a=>H8 a=some (.lst (row.map V.int))/\a≠D) qs ((La.m8 iZ ends iZ.length π).take i))
   ⟨[],rfl,jj hD,jb,Ea.nil⟩ ?_ ?_
  ·rintro j H8 hj ⟨qs,Lk,k8,h8,E8⟩;rw[en] at hj;have ez:(0:Int)+(j:Int)=(j:Int):=by omega
   have K8:=k9.trans k8;refine⟨rfl,?_⟩;refine⟨_,rfl,q,dq,_,rfl,K8 _ _ q1,zl (by decide) (by decide),_,rfl,_,rfl,q,S7,j,iZ.length,iZ,ends,π,by rw[ez];rfl,hq.same K8,jm.seq k8 V1,rfl,f.len,f.Qy,hj,F,λ os hos=>(f.iZ os hos).2,λ z H7 k7 hz h7=>?_⟩;have hne:z≠D:=λ e=>by rw[e,h8] at hz;cases hz
   refine⟨qs.map V.ref,k7 _ _ h8,by rw[ah,Lk,sizeLine_eq];have:=f.Qy;omega,qs++[z],by simp[Lk],λ b u e=>?_,by rw[jb,bu];rfl,?_⟩
   ·rw[je (jh e hD)];exact k7 _ _ (k8 _ _ e)
   ·rw[take_snoc (l:=La.m8 iZ ends iZ.length π) (x:=La.IW iZ.length j (iZ.getD j []) (ends.getD j 0) (π.getD j 0).toNat) (by unfold La.m8;rw[aj,aO hj];rfl)];exact Ea.snoc (E8.mono λ x a h=>⟨by rw[je h.2];exact k7 _ _ h.1,h.2⟩) ⟨by rw[je hne];exact h7,hne⟩
  ·rintro H8 ⟨qs,Lk,k8,h8,E8⟩;have rl:=La.Ag (iZ:=iZ) (ends:=ends) (n:=iZ.length) (ji:=π);rw[en,aA (by rw[rl.1];exact aq _)] at E8;refine⟨D,qs,La.m8 iZ ends iZ.length π,rfl,h8,E8.mono λ x a h=>h.1,by rw[rl.1];exact f.n1,by rw[rl.1];exact f.Qy,by rw[rl.1];exact rl.2,by rw[rl.1];exact f.rows F,by rw[rl.1];exact hp,λ x H7 k7 hx V7=>?_⟩;have XH:=k8.trans k7;have K7:=k9.trans XH;refine⟨_,rfl,q,dq,_,rfl,K7 _ _ q1,zl (by decide) (by decide),_,rfl,_,rfl,q,ol,S7,x,ls,iZ,π,_,_,rfl,⟨dq,_,K7 _ _ q1⟩,K7 _ _ q2,W.mono λ x a h=>h.same K7,jm.seq XH V1,V7,?_,f.Qy,F,λ B H6 k6 hB h6=>?_⟩
   ·rw[show (La.lF (La.m8 iZ ends iZ.length π)).1.length=iZ.length from vl.2.1];exact f.iZ
   ·have K6:=K7.trans k6;refine⟨_,rfl,_,rfl,B,S7,_,_,rfl,rfl,jE.of h6,jm.seq (XH.trans k6) V1,_,rfl,?_⟩
    by_cases e:La.nextM iZ ends iZ.length π = π
    ·refine tW (decide_eq_true e) ⟨_,rfl,h π x H6 hpi e K6 (k9.trans k8 |>.free hx) (V7.same k6) (f.Vz F hp)⟩
    ·refine sX (decide_eq_false e) ⟨_,rfl,?_⟩;refine⟨B,x,rfl,K6,h6,?_⟩
     by_cases z:i=k
     ·exact absurd (VA z) e
     ·omega
theorem S8(x:Int):(x != 0)=decide (x≠0):=by by_cases h:x=0<;>simp[h]
def Of(K:ai)(t:nF):Sp:=λ vs H Q _=>∃(ca ml:Addr) (o:Fq.kU) (m:List Int),vs=[.ref ca,.ref ml]/\Jp t H o ca/\jE K H ml (m.map V.int)/\o.ways.length<=16/\(∀w∈o.ways,w.1<m.length)/\∀H',jm H H'->Q (.bl (La.rG o m)) H'
theorem Og(T:Txt K mg t):Ok P w K mg base 1 t.xZ t.we ["choice","marks"] (Of K t):=by
 refine T.A8.fn.qD rB (λ vs H Q E h=>?_) λ cdv A outer s H vs Q E hr h=>?_
 ·obtain⟨ca,ml,o,m,rfl,_⟩:=h;rfl
 ·obtain⟨ca,ml,o,m,rfl,⟨dx,nm,wy,ps,c1,c2,c3,c4⟩,hm,YZ,hw,h⟩:=h
  refine⟨_,jg (jB (jX (Pw rfl) (by rfl) T.UR Sj (ja
   (pO (own:=[("way",2)]) rfl rB.nd (lH (jR K (pv 0) rfl)) (j5 rfl) (λ _ _ _ _ _=>j0 (i:=2) rB.nd rfl (Or.inl rfl)) (λ _ _ _ _ _=>kY)
    (λ _ _ _ _ _=>lZ (HL K) (pv 1) (lZ (Ox K) (pv 2) jv (λ _ _=>rfl)) (λ _ _=>rfl))) jd))),?_⟩
  refine⟨_,rfl,ca,_,dx,_,_,rfl,c1,T.jN.cl,T.lT,vp _ _ _ _,wy,rfl,⟨_,jE.of c3⟩,λ D hD=>mR (K:=K) (a:=wy) (xs:=ps.map V.ref) (λ i H9=>H9=upd H D (.lst (((o.ways.map λ w=>m.getD w.1 0).map V.int).take i))) rfl (λ i H9 _ e9=>by rw[e9];exact jE.of (by rw[je (jh c3 hD)];exact c3)) ?_ ?_⟩
  ·rintro i v H9 hi rfl;obtain⟨pa,ea,rfl⟩:=lY hi;obtain⟨wv,ew,V0⟩:=c4.get ea;have sm:=jj (o:=.lst (((o.ways.map λ w=>m.getD w.1 0).map V.int).take i)) hD;have wm:=hw wv (au ew);refine⟨rfl,?_⟩;refine⟨_,rfl,_,rfl,pa,_,_,_,rfl,rfl,rH.of (sm _ _ V0),S0,ml,_,_,_,rfl,rfl,jm.seq sm hm,pC wm,_,jb,?_,?_⟩
   ·rw[aX,sizeLine_eq];simp;omega
   ·rw[jU,take_snoc (l:=(o.ways.map λ w=>m.getD w.1 0).map V.int) (x:=V.int (m.getD wv.1 0)) (by rw[aj,aj,ew];rfl)]
  ·rintro H9 rfl;rw[ah,show ((o.ways.map λ w=>m.getD w.1 0).map V.int).take ps.length=(o.ways.map λ w=>m.getD w.1 0).map V.int from aA (by rw[ah,ah,c4.len];exact aq _)];refine⟨D,_,rfl,jE.of jb,?_⟩;have e:((o.ways.map λ w=>m.getD w.1 0).map λ n=>n != 0).any id=La.rG o m:=by
    unfold La.rG;rw[eF,List.any_map]
    congr 1
    funext w
    exact S8 _
   rw[e];exact h _ (jj hD)
theorem Oh:∀{ws:List (Nat×Nat)},(∀w∈ws,w.2<=1000)->(ws.map λ w=>w.2).sum<=ws.length*1000
 |[],_=>by simp
 |w::ws,h=>by
  have i:=Oh (ws:=ws) λ x hx=>h x (by simp[hx])
  have a:=h w (by simp);rw[aU,cW,aK];omega
theorem Ll{N:Ra61.Net}(G:Fq.Good N){s:Nat}{c:Ra61.Choice}(hc:c∈Ra61.choicesOf N s){m:Int}(hm:m=0\/m = -1):Small (Fq.lX m c) N.length:=by
 obtain⟨x,hx,hc'⟩:=Fq.qP hc
 obtain⟨a,b,d,e,f⟩:=G.ways x hx c hc'
 have wp:=Fq.Bo a λ w hw=>(d w hw).2.1
 have ws:=Oh (ws:=c.ways) λ w hw=>(d w hw).2.2
 have wt:c.weight<=16000:=by
  show (c.ways.map λ w=>w.2).sum<=16000;omega
 refine⟨?_,⟨by show (0:Int)<(c.weight:Int);omega,by show (c.weight:Int)<=16000000;omega⟩,⟨b,λ w hw=>⟨(d w hw).1,by have:=(d w hw).2.2;omega⟩⟩⟩
 show -1000<=c.gain*m/\c.gain*m<=1000
 rcases hm with rfl | rfl<;>constructor<;>omega
theorem Gz{N:Ra61.Net}(G:Fq.Good N)(s:Nat):(Ra61.choicesOf N s).length<=8:=by
 unfold Ra61.choicesOf
 cases e:N[s]? with
 |none=>simp
 |some y=>simp only[bE,di];exact G.few y (au e)
theorem Oi(N:Ra61.Net)(g:Nat)(m:Int):(Fq.rF N g m).length=N.length:=by simp[Fq.rF]
theorem Ce{N:Ra61.Net}{g:Nat}(G:Fq.Good N){m:Int}(hm:m=0\/m = -1):∀os∈Fq.rF N g m,os.length<=8/\∀o∈os,Small o N.length:=λ os hos=>by
 obtain⟨s,_,rfl⟩:=az.mp hos
 split
 ·exact⟨by simp,λ o ho=>by cases ho⟩
 ·refine⟨by rw[ah];exact Gz G s,λ o ho=>?_⟩
  obtain⟨c,hc,rfl⟩:=az.mp ho;exact Ll G hc hm
theorem GA{n:Nat}{b:Nat->Bool}{iZ:List (List Fq.kU)}{m:Nat}(h:∀os∈iZ,os.length<=8/\∀o∈os,Small o m):∀os∈La.oK n b iZ,os.length<=8/\∀o∈os,Small o m:=λ os hos=>by
 obtain⟨s,_,rfl⟩:=az.mp hos
 split
 ·by_cases q:s<iZ.length
  ·exact h _ (Jy q)
  ·rw[aa,bO (by omega)];exact⟨by simp,λ o ho=>by cases ho⟩
 ·exact⟨by simp,λ o ho=>by cases ho⟩
theorem S9{a b:V}{m:Str}(h1:(m==("tops":Str))=false)(h2:(m==("bottom":Str))=false):(Qm a b).lookup m=none:=by
 unfold Qm
 rw[jq,if_neg (λ z=>by rw[z] at h2;exact absurd h2 (by decide)),jq,if_neg (λ z=>by rw[z] at h1;exact absurd h1 (by decide))]
 rfl
theorem yJ:∀(xs bs:List (List Nat)),xs.length=bs.length->mj xs bs=(ay xs.length).flatMap λ s=>Cb (xs.getD s []) (bs.getD s [])
 |[],[],_=>rfl
 |x::xs,b::bs,h=>by
  have i:=yJ xs bs (by simpa using h);rw[aK,fm,fB,List.flatMap_map];show Cb x b++mj xs bs=_;rw[i];rfl
theorem Cf{α β:Type}{f g:α->List β}:∀{l:List α},(∀x∈l,f x=g x)->l.flatMap f=l.flatMap g
 |[],_=>rfl
 |x::l,h=>by rw[fB,fB,h x (by simp),Cf λ y hy=>h y (by simp[hy])]
def outF(N:Ra61.Net)(v:Ra61.Row):List Nat:=Ra61.linesOf N λ s=>(Ra61.toldFr (Ra61.at_ v s),none)
theorem Oj{N:Ra61.Net}{v:Ra61.Row}{jf:List Int}{d:Nat}(R:Fq.Nb v jf (d:Int))(hl:jf.length=N.length):mj (N.map λ s=>s.name) (jf.map λ z=>Ra61.frac z d)=outF N v:=by
 unfold outF Ra61.linesOf
 rw[yJ _ _ (by rw[ah,ah,hl]),ah]
 refine Cf λ s hs=>?_
 have hs:=aG.mp hs
 have hs':s<jf.length:=by omega
 have e1:(N.map λ s=>s.name).getD s []=Ra61.nameOf N s:=by
  rw[aa,aj];rfl
 have e2:(jf.map λ z=>Ra61.frac z d).getD s []=Ra61.toldFr (Ra61.at_ v s):=by
  rw[(R.at hs').told,bP,aa,aj,af hs',aa,af hs'];rfl
 rw[e1,e2]
 unfold Cb Ra61.line
 simp
def Ol(K:ai)(t:nF):Sp:=λ vs H Q _=>∃(ml ol:Addr) (xs:List V) (b:Nat->Bool) (ls:List Addr) (iZ:List (List Fq.kU)),vs=[.ref ml,.ref ol]/\jE K H ml xs/\xs.length=iZ.length/\(∀i v,xs[i]? = some v->∀H,OR K v H (b i))/\H ol=some (.lst (ls.map V.ref))/\Ea (Jq t H) ls iZ/\iZ.length<=16 /\
 ∀D ws H',jm H H'->H D=none->H' D=some (.lst (ws.map V.ref))->Ea (Jq t H') ws (La.oK iZ.length b iZ)->Q (.ref D) H'
theorem Om(T:Txt K mg t):Ok P w K mg base 1 t.ua t.rZ ["marks","options"] (Ol K t):=by
 refine T.wH.fn.qD oG (λ vs H Q E h=>?_) λ cdv A outer s H vs Q E hr h=>?_
 ·obtain⟨ml,ol,xs,b,ls,iZ,rfl,_⟩:=h;rfl
 ·obtain⟨ml,ol,xs,b,ls,iZ,rfl,hml,Y0,hx,Rb,W,YZ,h⟩:=h
  refine⟨_,jg (jB (pO (own:=[("mark",2),("choices",3)]) rfl oG.nd (Ef (by rfl) T.IL (ja (pv 0)<|ja (pv 1) jd)) (j5 rfl)
   (λ _ _ _ _ _=>tF K (i:=2) (j:=3) rfl oG.nd rfl rfl (Or.inl rfl) (Or.inl rfl)) (λ _ _ _ _ _=>kY)
   (λ _ _ _ _ _=>uu (Em K (pv 2)) (pv 3) (mh jd)))),?_⟩
  have hlen:xs.length=(ls.map V.ref).length:=by rw[ah,W.len,Y0]
  have wl:(La.oK iZ.length b iZ).length=iZ.length:=by simp[La.oK]
  refine⟨_,rfl,_,rfl,ml,ol,_,_,rfl,hml,jE.of Rb,λ D hD=>G9 (K:=K) (a:=ml) (b:=ol) (xs:=xs) (ys:=ls.map V.ref) hlen
   (λ i H9=>∃qs:List Addr,qs.length=i/\jm H H9/\H9 D=some (.lst (qs.map V.ref))/\Ea (Jr t H9 D) qs ((La.oK iZ.length b iZ).take i))
   ⟨[],rfl,jj hD,jb,Ea.nil⟩ (λ i H9 _ ⟨_,_,e,_,_⟩=>⟨jm.seq e hml,jE.of (e _ _ Rb)⟩) ?_ ?_⟩
  ·rintro i v u H9 T9 hi hj Qp ⟨qs,Lk,k9,h9,E9⟩;obtain⟨la,el,rfl⟩:=lY hj;obtain⟨os,eo,ho⟩:=W.get el;have hin:i<iZ.length:=(ao.mp eo).1;have tv:=hx i v hi;have XI:jm H9 (upd H9 T9 (.tup [v,.ref la])):=jj Qp;have Qs:=XI _ _ h9;have E10:=E9.mono λ x a h=>Jr.same h XI
   have Y3:=k9.trans XI;have ke:(La.oK iZ.length b iZ)[i]? = some (if b i=true then os else []):=by
    unfold La.oK;rw[aj,aO hin];show some (if b i=true then iZ.getD i [] else [])=_;rw[aa,eo];rfl
   refine zT.at jb ⟨rfl,?_⟩;generalize upd H9 T9 (.tup [v,.ref la])=QO at *
   have fin:∀(z:Addr) (H4:Hp),jm QO H4->Jr t H4 D (if b i=true then os else []) z->∃acc,H4 D=some (.lst acc)/\acc.length<sizeLine/\∃qs:List Addr,qs.length=i+1/\jm H (upd H4 D (.lst (acc++[V.ref z]))) /\
     (upd H4 D (.lst (acc++[V.ref z]))) D=some (.lst (qs.map V.ref))/\Ea (Jr t (upd H4 D (.lst (acc++[V.ref z]))) D) qs ((La.oK iZ.length b iZ).take (i+1)):=λ z H4 k4 hz=>by
    have N2:=k4 _ _ Qs;refine⟨qs.map V.ref,N2,by rw[ah,Lk,sizeLine_eq];omega,qs++[z],by simp[Lk],λ b u e=>?_,by rw[jb,bu];rfl,?_⟩
    ·rw[je (jh e hD)];exact k4 _ _ (Y3 _ _ e)
    ·rw[take_snoc ke];exact Ea.snoc (E10.mono λ x a h=>(Jr.same h k4).put N2) (hz.put N2)
   refine⟨_,rfl,b i,tv _,?_⟩
   cases hb:b i with
   |true=>
    rw[hb,if_pos rfl] at fin;exact tW rfl ⟨_,rfl,fin la QO (jm.refl _) (ho.new hD Y3)⟩
   |false=>
    rw[hb,if_neg (by simp)] at fin;refine sX rfl ⟨by simp,λ z hz=>fin z _ (jj hz) ⟨(λ q=>by rw[q,Qs] at hz;cases hz),[],jb,Ea.nil⟩⟩
  ·rintro H9 ⟨qs,Lk,k9,h9,E9⟩;rw[Y0] at Lk E9;rw[aA (by rw[wl];exact aq _)] at E9;exact h D qs H9 k9 hD h9 (E9.mono λ x a h=>h.os)
theorem DZ(n:Nat):(La.minus n).length=n:=by simp[La.minus]
def Lm(K:ai)(t:nF):Sp:=λ vs H Q _=>∃(ml ol:Addr) (m:List Int) (ls:List Addr) (iZ:List (List Fq.kU)),vs=[.ref ml,.ref ol]/\jE K H ml (m.map V.int)/\La.uo m iZ.length/\H ol=some (.lst (ls.map V.ref))/\Ea (Jq t H) ls iZ/\iZ.length<=16/\(∀os∈iZ,os.length<=8/\∀o∈os,Small o iZ.length) /\
 ∀D H',jm H H'->H D=none->H' D=some (.lst ((La.zj iZ m iZ.length).2.map V.int))->Q (.ref D) H'
theorem Ln(T:Txt K mg t):Ok P w K mg base 2 t.wg t.uR ["marks","options"] (Lm K t):=by
 refine T.zE.fn.qD kI (λ vs H Q E h=>?_) λ cdv A outer s H vs Q E hr h=>?_
 ·obtain⟨ml,ol,m,ls,iZ,rfl,_⟩:=h;rfl
 ·obtain⟨ml,ol,m,ls,iZ,rfl,hml,Bm,Rb,W,YZ,S,h⟩:=h
  refine⟨_,jc (jD (i:=2) kI.nd rfl (Or.inl rfl) (rM tu (by rfl) T.Ez EA (ja (pv 0) jd)))<|
   jc (AB (i:=3) (own:=[("mark",4)]) rfl kI.nd rfl rfl (Ed kI.kind rfl rfl rfl) (lH (pv 0)) (j5 rfl) (λ _ _ _ _ _=>j0 (i:=4) kI.nd rfl (Or.inl rfl)) (λ _ _ _ _ _=>kY) (λ _ _ _ _ _=>E2 Ao jv))<|
   jc (qc mW rfl (vA (by rfl) T.Ab (ja (jX jK (by rfl) T.qx nH (ja (pv 0) jd)) jd)) (j0 (i:=5) kI.nd rfl (Or.inl rfl))
    (jg (qc mW rfl (xF (by rfl) T.o9 (ja (pv 1) jd)) (tF K (i:=6) (j:=7) rfl kI.nd rfl rfl (Or.inl rfl) (Or.inl rfl))
     (jg (qc mW rfl (xF (by rfl) T.o9 (ja (pv 7) jd)) (tF K (i:=8) (j:=9) rfl kI.nd rfl rfl (Or.inl rfl) (Or.inl rfl))
      (jg (rJ (PW.pt (LB (Al (Em K (lZ (HL K) (pv 2) (pv 6) (λ _ _=>rfl)))) (HZ (qb (jI T.A8 (Og T) hr rfl jF (ja (pv 9)<|ja (pv 2) jd))))))
       (jc (wN jv (wM (pv 2) (pv 6) set_list))<|jg (wN (pv 8) (wM (pv 3) (pv 6) set_list))) nc)))))))<|
   jg (jB (pv 3)),?_⟩
  have mn:(m.map V.int).length=iZ.length:=by rw[ah,Bm.len]
  have lsn:(ls.map V.ref).length=iZ.length:=by rw[ah,W.len]
  refine⟨_,rfl,ml,_,rfl,.inl hml,λ R hR=>?_⟩;have k0:=jj (o:=.lst (m.map V.int)) hR;have r0:(upd H R (.lst (m.map V.int))) R=some (.lst (m.map V.int)):=jb;generalize upd H R (.lst (m.map V.int))=H0 at *
  refine⟨_,rfl,ml,rfl,⟨_,jm.seq k0 hml⟩,λ D hD=>mR (K:=K) (a:=ml) (xs:=m.map V.int) (λ i H9=>H9=upd H0 D (.lst (((La.minus iZ.length).map V.int).take i))) rfl (λ i H9 _ e9=>by rw[e9];exact jm.seq (k0.trans (jj hD)) hml) ?_ ?_⟩
  ·rintro i x H9 hi rfl;have hi':i<iZ.length:=by rw[<-mn];exact (ao.mp hi).1
   refine⟨rfl,?_⟩;refine⟨_,rfl,_,jb,by rw[aX,ah,DZ,sizeLine_eq];omega,?_⟩;rw[jU,take_snoc (l:=(La.minus iZ.length).map V.int) (x:=V.int (-1)) (by unfold La.minus;rw[aj,aj,aO hi'];rfl)]
  rintro H9 rfl;rw[mn,show ((La.minus iZ.length).map V.int).take iZ.length=(La.minus iZ.length).map V.int from aA (by rw[ah,DZ];exact aq _)];have k1:=jj (o:=.lst ((La.minus iZ.length).map V.int)) hD;have d1:(upd H0 D (.lst ((La.minus iZ.length).map V.int))) D=some (.lst ((La.minus iZ.length).map V.int)):=jb;have r1:=k1 _ _ r0;generalize upd H0 D (.lst ((La.minus iZ.length).map V.int))=H1 at *
  have K1:=k0.trans k1;have Y4:H D=none:=k0.free hD;have Y5:R≠D:=jh r0 hD;refine⟨_,rfl,ml,_,rfl,.inl (jm.seq K1 hml),_,rfl,by rw[mn];omega,by rw[mn];omega,?_⟩;rw[mn];have en:(iZ.length:Int).toNat=iZ.length:=by simp
  have TK:∀k,La.nT iZ m iZ.length (La.iter (La.mE iZ iZ.length) k (m,La.minus iZ.length)):=λ k=>La.oJ (P:=La.nT iZ m iZ.length) (λ _ b=>(La.vf b).1) k _ (La.BF Bm)
  refine CW (n:=(iZ.length:Int).toNat) (λ k σ H9=>∃v5 v6 v7 v8 v9,σ=[some (.ref ml),some (.ref ol),some (.ref R),some (.ref D),none,v5,v6,v7,v8,v9]/\jm H H9/\H9 R=some (.lst ((La.iter (La.mE iZ iZ.length) k (m,La.minus iZ.length)).1.map V.int))/\H9 D=some (.lst ((La.iter (La.mE iZ iZ.length) k (m,La.minus iZ.length)).2.map V.int)))
   ⟨none,none,none,none,none,rfl,K1,r1,d1⟩ ?_ ?_
  ·rintro k σ H9 hk ⟨v5,v6,v7,v8,v9,rfl,k9,r9,d9⟩;have Tk:=TK k;have nx:La.iter (La.mE iZ iZ.length) (k+1) (m,La.minus iZ.length)=La.mE iZ iZ.length (La.iter (La.mE iZ iZ.length) k (m,La.minus iZ.length)):=La.oH _ _ _;rw[nx];generalize La.iter (La.mE iZ iZ.length) k (m,La.minus iZ.length)=xk at *
   refine⟨_,rfl,ol,_,rfl,jE.of (k9 _ _ Rb),xM (K:=K) (a:=ol) (xs:=ls.map V.ref) (λ i σ H8=>∃v5 v6 v7 v8 v9,σ=[some (.ref ml),some (.ref ol),some (.ref R),some (.ref D),none,v5,v6,v7,v8,v9]/\jm H H8/\H8 R=some (.lst (((ay i).foldl (La.mL iZ) xk).1.map V.int))/\H8 D=some (.lst (((ay i).foldl (La.mL iZ) xk).2.map V.int)))
    ⟨_,_,_,_,_,rfl,k9,r9,d9⟩ (λ i σ H8 _ ⟨_,_,_,_,_,_,e,_⟩=>jE.of (e _ _ Rb)) ?_ ?_⟩
   ·rintro i x σ H8 T8 hi Vv ⟨w5,w6,w7,w8,w9,rfl,k8,r8,d8⟩;obtain⟨la,el,rfl⟩:=lY hi;obtain⟨os,eo,as,l1,l2⟩:=W.get el;have hin:i<iZ.length:=(ao.mp eo).1;have go:iZ.getD i []=os:=by rw[aa,eo];rfl
    obtain⟨o8,So⟩:=S os (au eo);have Ti:La.nT iZ m iZ.length ((ay i).foldl (La.mL iZ) xk):=La.BC (P:=La.nT iZ m iZ.length) _ _ (λ _ b hb q=>(La.vF q (iT (aG.mp hb) hin)).1) Tk;have nx2:(ay (i+1)).foldl (La.mL iZ) xk=(ay os.length).foldl (La.kQ os i) ((ay i).foldl (La.mL iZ) xk):=by rw[ia,cV,<-go];rfl
    rw[nx2];generalize (ay i).foldl (La.mL iZ) xk=xi at *
    have k7:jm H8 (upd H8 T8 (.tup [.int (i:Nat),.ref la])):=jj Vv;have K7:=k8.trans k7;have r7:=k7 _ _ r8;have d7:=k7 _ _ d8;refine zT.at jb ?_;generalize upd H8 T8 (.tup [.int (i:Nat),.ref la])=H7 at *
    refine⟨_,rfl,la,_,rfl,jE.of (K7 _ _ l1),xM (K:=K) (a:=la) (xs:=as.map V.ref) (λ j σ H6=>∃v8 v9,σ=[some (.ref ml),some (.ref ol),some (.ref R),some (.ref D),none,w5,some (.int (i:Nat)),some (.ref la),v8,v9]/\jm H H6/\H6 R=some (.lst (((ay j).foldl (La.kQ os i) xi).1.map V.int))/\H6 D=some (.lst (((ay j).foldl (La.kQ os i) xi).2.map V.int)))
     ⟨_,_,rfl,K7,r7,d7⟩ (λ j σ H6 _ ⟨_,_,_,e,_⟩=>jE.of (e _ _ l1)) ?_ ?_⟩
    ·rintro j y σ H6 T6 hj hT6 ⟨u8,u9,rfl,k6,r6,d6⟩;obtain⟨ca,ec,rfl⟩:=lY hj;obtain⟨o,S3,ho⟩:=l2.get ec;have hjl:j<os.length:=(ao.mp S3).1;have TJ:os.getD j Fq.jz=o:=by rw[aa,S3];rfl
     have sm:=So o (au S3);have Tj:La.nT iZ m iZ.length ((ay j).foldl (La.kQ os i) xi):=La.BC (P:=La.nT iZ m iZ.length) _ _ (λ _ b hb q=>by
      have:=(La.Gd (s:=i) (j:=b) q hin (by rw[go];exact iT (aG.mp hb) hjl)).1;rw[go] at this;exact this) Ti
     have nx3:(ay (j+1)).foldl (La.kQ os i) xi=La.kQ os i ((ay j).foldl (La.kQ os i) xi) j:=by rw[ia,cV];rfl
     rw[nx3];generalize (ay j).foldl (La.kQ os i) xi=x at *
     have k5:jm H6 (upd H6 T6 (.tup [.int (j:Nat),.ref ca])):=jj hT6;have K5:=k6.trans k5;have r5:=k5 _ _ r6;have d5:=k5 _ _ d6;refine zT.at jb ?_;generalize upd H6 T6 (.tup [.int (j:Nat),.ref ca])=H5 at *
     refine⟨_,rfl,_,rfl,R,_,_,.int (x.1.getD i 0),rfl,rfl,jE.of r5,pC (by rw[Tj.bits.len];exact hin),_,rfl,?_⟩
     by_cases z:x.1.getD i 0=0
     ·refine tW (by rw[z];rfl) ?_;refine⟨_,rfl,_,rfl,ca,R,o,x.1,rfl,ho.same K5,jE.of r5,sm.ways.1,λ w hw=>by rw[Tj.bits.len];exact (sm.ways.2 w hw).1,λ H4 k4=>⟨_,rfl,?_⟩⟩;have r4:=k4 _ _ r5;have d4:=k4 _ _ d5;have K4:=K5.trans k4
      cases c:La.rG o x.1 with
      |true=>
       refine tW rfl ?_;refine⟨_,rfl,_,rfl,R,_,(i:Int),i,rfl,rfl,r4,Cd (by rw[ah,Tj.bits.len];exact hin),?_⟩;rw[tY];refine⟨_,rfl,_,rfl,_,rfl,D,_,(i:Int),i,rfl,rfl,by rw[je (Ne.symm Y5)];exact d4,Cd (by rw[ah,Tj.len];exact hin),?_⟩;rw[tY];refine⟨_,_,rfl,λ b u e=>?_,?_,?_⟩
       ·rw[je (jh e Y4),je (jh e hR)];exact K4 _ _ e
       ·rw[je Y5,jb];unfold La.kQ;rw[if_pos ⟨z,by rw[TJ];exact c⟩]
       ·rw[jb];unfold La.kQ;rw[if_pos ⟨z,by rw[TJ];exact c⟩]
      |false=>
       refine sX rfl ?_;have e:La.kQ os i x j=x:=by
        unfold La.kQ;rw[if_neg λ q=>by rw[TJ,c] at q;exact absurd q.2 (by decide)]
       rw[e];exact⟨_,_,rfl,K4,r4,d4⟩
     ·refine sX (by rw[show (x.1.getD i 0 != 0)=true from bne_iff_ne.mpr z];rfl) ?_;refine sX rfl ?_;have e:La.kQ os i x j=x:=by
       unfold La.kQ;rw[if_neg λ q=>z q.1]
      rw[e];exact⟨_,_,rfl,K5,r5,d5⟩
    ·rintro σ H6 ⟨u8,u9,rfl,k6,r6,d6⟩;rw[ah,l2.len] at r6 d6;exact⟨_,_,_,_,_,rfl,k6,r6,d6⟩
   ·rintro σ H8 ⟨w5,w6,w7,w8,w9,rfl,k8,r8,d8⟩;rw[lsn] at r8 d8;exact⟨_,_,_,_,_,rfl,k8,r8,d8⟩
  ·rintro σ H9 ⟨v5,v6,v7,v8,v9,rfl,k9,r9,d9⟩;rw[en] at d9;exact⟨_,rfl,h D H9 k9 Y4 d9⟩
theorem Tc{N:Ra61.Net}{g:Nat}(G:Fq.Good N):Gw (La.jO N g) (Fq.jy N g):=by
 have l1:(La.jO N g).length=N.length:=by simp[La.jO,La.oK]
 refine⟨by rw[l1];exact G.len.1,by rw[l1];exact G.len.2,by rw[l1];simp[Fq.jy],λ e he=>?_,?_⟩
 ·obtain⟨s,_,rfl⟩:=az.mp he
  split<;>decide
 ·rw[l1]
  exact GA (Ce G (.inl rfl))
def Qz(K:ai)(t:nF):Sp:=λ vs H Q E=>∃(g room:Int) (l:Addr) (bs:List Nat),vs=[.int g,.int room,.ref l]/\jE K H l (jL bs)/\(∀c∈bs,c<256) /\
 if (0<=g/\g<=65535)/\bs.length<=65536/\0<=room/\room<=65536 then
  HJ (Rd.ku bs) (∀H',E (.ref t.ju) none H') (λ N=>if 2^N.length<=g.toNat then ∀H',E (.ref t.jH) none H' else
   if room<((outF N (Ra61.best N g.toNat)).length:Int) then ∀H',E (.ref t.lM) none H' else
    ∀D H',jm H H'->H' D=some (.lst (((((outF N (Ra61.best N g.toNat)).length:Nat):Int)::(outF N (Ra61.best N g.toNat)).map λ(b:Nat)=>(b:Int)).map V.int))->Q (.ref D) H')
 else ∀H',E (.ref t.jG) none H'
theorem EV(T:Txt K mg t)(kb:K.In base)(hN:base.NoSeer)(hP:P.given.tree=none):Ok P w K mg base 38 t.zA t.x6 ["goals","room","text"] (Qz K t):=by
 refine T.Dw.fn.qD lJ (λ vs H Q E h=>?_) λ cdv A outer s H vs Q E hr h=>?_
 ·obtain⟨g,room,l,bs,rfl,_⟩:=h;rfl
 ·obtain⟨g,room,l,bs,rfl,hl,hb,h⟩:=h
  have hr1:=hr.mono (show 1<=37 by decide);have hr2:=hr.mono (show 2<=37 by decide);have Jl:=hr.mono (show 4<=37 by decide);have XJ:=hr.mono (show 10<=37 by decide);refine⟨_,jc (jD (i:=3) lJ.nd rfl (Or.inl rfl) (jI T.sD (vN T kb) XJ rfl (jA xl_of) (ja (pv 2)<|ja (pv 1)<|ja (pv 0) jd)))<|
   jc (jD (i:=4) lJ.nd rfl (Or.inl rfl) (jI T.A7 (CP T) hr1 rfl jF (ja (pv 0)<|ja (pv 3) jd)))<|
   jc (jD (i:=5) lJ.nd rfl (Or.inl rfl) (jI T.yb (z4 T) Jl rfl jF (ja (pv 4)<|ja (pv 3)<|ja jv jd)))<|
   jc (jD (i:=6) lJ.nd rfl (Or.inl rfl) (jI T.zE (Ln T) hr2 rfl jF (ja (pv 4)<|ja (pv 5) jd)))<|
   jc (jD (i:=7) lJ.nd rfl (Or.inl rfl) (Dj T.mT T.Ba (CS T) hr2 rfl jF (ja (jI T.wH (Om T) hr1 rfl jF (ja
    (pO (own:=[("number",8)]) rfl lJ.nd (lH (pv 6)) (j5 rfl) (λ _ _ _ _ _=>j0 (i:=8) lJ.nd rfl (Or.inl rfl)) (λ _ _ _ _ _=>kY) (λ _ _ _ _ _=>nO QL (pv 8) jv (kC _)))<|ja (pv 5) jd))<|ja (pv 4) jd)))<|
   jg (jB (jI T.tell (Qw T kb) hr1 rfl (jA xl_of) (ja (pv 3)<|ja (lC T.o7 T.zH (Qv T hN hP) hr jF (rQ T.mT T.vc (Gy T) Jl jF (pv 7) (ja (pv 6) jd)))<|ja (pv 1) jd))),?_⟩
  refine⟨_,rfl,_,rfl,_,rfl,l,bs,room,g,rfl,hl,hb,?_⟩
  by_cases hin:(0<=g/\g<=65535)/\bs.length<=65536/\0<=room/\room<=65536
  case neg=>
   rw[if_neg hin] at h ⊢;exact h
  rw[if_pos hin] at h ⊢
  cases eN:Rd.ku bs with
  |none=>rw[eN] at h;exact h
  |some N=>
   rw[eN] at h;have G:=Rd.F2 eN;have Nm:=Rd.KH eN;have h:if 2^N.length<=g.toNat then ∀H',E (.ref t.jH) none H' else
     if room<((outF N (Ra61.best N g.toNat)).length:Int) then ∀H',E (.ref t.lM) none H' else
      ∀D H',jm H H'->H' D=some (.lst (((((outF N (Ra61.best N g.toNat)).length:Nat):Int)::(outF N (Ra61.best N g.toNat)).map λ(b:Nat)=>(b:Int)).map V.int))->Q (.ref D) H':=h
   show if 2^N.length<=g.toNat then _ else _
   by_cases hg:2^N.length<=g.toNat
   ·rw[if_pos hg] at h ⊢;exact h
   rw[if_neg hg] at h ⊢;rintro v H1 k1 ⟨sl,nY,rfl,n1,n2⟩;refine⟨_,rfl,_,rfl,g,sl,_,rfl,hin.1.1,jE.of n1,by rw[ah,n2.len];exact G.len.2,λ ml hml=>?_⟩;rw[ah,n2.len];have k2:=jj (o:=.lst ((mP N.length g.toNat).map V.int)) hml;have m2:(upd H1 ml (.lst ((mP N.length g.toNat).map V.int))) ml=some (.lst ((mP N.length g.toNat).map V.int)):=jb;generalize upd H1 ml (.lst ((mP N.length g.toNat).map V.int))=H2 at *
   refine⟨_,rfl,_,rfl,ml,sl,0,N,g.toNat,nY,rfl,.inl rfl,jE.of m2,jE.of (k2 _ _ n1),n2.mono λ x a h=>h.same k2,G,λ ol ls H3 k3 hol3 o3 E3=>?_⟩;have HV:=Oi N g.toNat 0;have ts:=Ce (g:=g.toNat) G (m:=0) (.inl rfl);refine⟨_,rfl,_,rfl,ml,ol,Fq.jy N g.toNat,ls,Fq.rF N g.toNat 0,rfl,jE.of (k3 _ _ m2),by rw[HV];exact La.xu,o3,E3,by rw[HV];exact G.len.2,by rw[HV];exact ts,λ pl H4 k4 hpl p4=>?_⟩;rw[HV] at p4;have p4:H4 pl=some (.lst ((La.lO N g.toNat).map V.int)):=p4;have QA:(La.lO N g.toNat).length=N.length:=La.DS.len;refine⟨_,rfl,pl,rfl,⟨_,jE.of p4⟩,λ Z hZ=>mR (K:=K) (a:=pl) (xs:=(La.lO N g.toNat).map V.int) (λ i H9=>H9=upd H4 Z (.lst (((La.lO N g.toNat).map λ z=>V.bl (decide (0<=z))).take i))) rfl (λ i H9 _ e9=>by rw[e9];exact jE.of (by rw[je (jh p4 hZ)];exact p4)) ?_ ?_⟩
   ·rintro i x H9 hi rfl;obtain⟨hi1,rfl⟩:=int_at hi;refine⟨rfl,?_⟩;refine⟨_,rfl,_,_,rfl,rfl,_,jb,by rw[aX,ah,QA,sizeLine_eq];have:=G.len.2;omega,?_⟩;rw[jU,take_snoc (l:=(La.lO N g.toNat).map λ z=>V.bl (decide (0<=z))) (x:=V.bl (decide (0<=(La.lO N g.toNat).getD i 0))) (by rw[aj,af hi1,aa,af hi1];rfl)]
   rintro H9 rfl;rw[ah,QA,show ((La.lO N g.toNat).map λ z=>V.bl (decide (0<=z))).take N.length=(La.lO N g.toNat).map λ z=>V.bl (decide (0<=z)) from aA (by rw[ah,QA];exact aq _)];have k5:=jj (o:=.lst ((La.lO N g.toNat).map λ z=>V.bl (decide (0<=z)))) hZ;have z5:(upd H4 Z (.lst ((La.lO N g.toNat).map λ z=>V.bl (decide (0<=z))))) Z=some (.lst ((La.lO N g.toNat).map λ z=>V.bl (decide (0<=z)))):=jb;generalize upd H4 Z (.lst ((La.lO N g.toNat).map λ z=>V.bl (decide (0<=z))))=H5 at *
   have XM:=k4.trans k5;refine⟨_,rfl,Z,ol,_,λ s=>decide (0<=(La.lO N g.toNat).getD s 0),ls,Fq.rF N g.toNat 0,rfl,jE.of z5,by rw[ah,QA,HV],λ i v hv H=>?_,XM _ _ o3,E3.mono λ x a h=>h.same XM,by rw[HV];exact G.len.2,λ D qs H6 k6 hD h6 E6=>?_⟩
   ·rw[aj] at hv
    cases ei:(La.lO N g.toNat)[i]? with
    |none=>rw[ei] at hv;cases hv
    |some y=>
     rw[ei] at hv
     cases hv;show decide (0<=(La.lO N g.toNat).getD i 0)=decide (0<=y);rw[aa,ei];rfl
   rw[HV] at E6;have E6:Ea (Jq t H6) qs (La.jO N g.toNat):=E6;have Y6:=(k3.trans XM).trans k6;refine⟨_,rfl,?_⟩;intro qa dq hqa hdq hne;refine⟨qa,dq,_,_,rfl,jb,?_⟩;rw[jU];refine⟨rfl,?_⟩;have k7:=p8 (u:=.own qa) (v:=.ins t.lK dq (Lg (.ref D) (.ref ml))) hqa hdq;have q7:(upd (upd H6 dq (.own qa)) qa (.ins t.lK dq (Lg (.ref D) (.ref ml)))) qa=some (.ins t.lK dq (Lg (.ref D) (.ref ml))):=jb;generalize upd (upd H6 dq (.own qa)) qa (.ins t.lK dq (Lg (.ref D) (.ref ml)))=H7 at *
   have QE:TM K t H7 qa (La.jO N g.toNat) (Fq.jy N g.toNat):=⟨dq,D,ml,qs,q7,k7 _ _ h6,E6.mono λ x a h=>h.same k7,jE.of (k7 _ _ (Y6 _ _ m2))⟩
   have K17:=(k2.trans Y6).trans k7;have p7:=k7 _ _ (k6 _ _ (k5 _ _ p4));obtain⟨ks,hks,_⟩:=La.Gg (g:=g.toNat) G;have ow:(La.jO N g.toNat).length=N.length:=by simp[La.jO,La.oK]
   refine⟨_,rfl,_,rfl,qa,dq,_,rfl,q7,zl (by decide) (by decide),_,rfl,qa,pl,La.jO N g.toNat,Fq.jy N g.toNat,La.lO N g.toNat,La.Gf N g.toNat,rfl,QE,jE.of p7,Tc G,La.BK,λ π Fπ=>by rw[ow];exact⟨Fπ.fit,La.EM G Fπ,La.DU G Fπ⟩,by rw[ow];exact⟨ks,hks⟩,λ π va H9 Fπ eπ k9 hva V9 Z9=>?_⟩;rw[ow] at eπ V9 Z9;obtain⟨b0,vl,R⟩:=La.NF G Fπ eπ;clear eπ hks;generalize La.ko (La.jO N g.toNat) (Fq.jy N g.toNat) N.length π = VV at *
   obtain⟨jf,bot⟩:=VV;have b0:0<bot:=b0;have vl:jf.length=N.length:=vl;have V9:OA K t H9 va jf bot:=V9;have Z9:Ju jf bot 1000:=Z9;have R:Fq.Nb (Ra61.best N g.toNat) jf bot:=R;obtain⟨d,rfl⟩:=fc (fy b0);obtain⟨dv,tl,v1,v2⟩:=id V9;have K19:=K17.trans k9;refine⟨va,dv,_,rfl,v1,S9 (by decide) (by decide),va,jf,d,1000,rfl,V9,by omega,Z9,by decide,by rw[vl];exact G.len.2,λ wl ws H11 k11 hwl h11 W11=>?_⟩;have Td:=K19.trans k11;have dl:d<2^1000:=by have:=Z9.bot;simpa using this
   refine⟨_,rfl,sl,wl,room,N,ws,jf.map λ z=>Ra61.frac z d,rfl,⟨sl,nY,rfl,Td _ _ n1,n2.mono λ x a h=>h.same Td⟩,h11,W11,by rw[ah,vl],G.len.2,λ s hs=>by have:=Nm s hs;omega,λ b hb'=>?_,?_⟩
   ·obtain⟨z,hz,rfl⟩:=az.mp hb';exact bf (N3 (B:=1000) (Z9.jf z hz) dl) (by decide)
   ·rw[Oj R vl]
    by_cases hh:room<((outF N (Ra61.best N g.toNat)).length:Int)
    ·rw[if_pos hh] at h ⊢;exact h
    ·rw[if_neg hh] at h ⊢;exact λ D H' kk _ e=>h D H' ((k1.trans Td).trans kk) e
def Oo(g room:Int)(bs:List Nat):List Int:=if (0<=g/\g<=65535)/\bs.length<=65536/\0<=room/\room<=65536 then (match Rd.ku bs with
 |none=>[-2]
 |some N=>if 2^N.length<=g.toNat then [-3] else if room<((outF N (Ra61.best N g.toNat)).length:Int) then [-7] else (((outF N (Ra61.best N g.toNat)).length:Nat):Int)::(outF N (Ra61.best N g.toNat)).map λ(b:Nat)=>(b:Int)) else [-1]
theorem QB{H H2:Hp}{l Tb:Addr}{xs:List V}{ps:Array Value}(h:jE K H l xs)(hT:H Tb=some (.D0 ps))(same:∀b,b≠Tb->H2 b=H b):jE K H2 l xs:=by
 rcases h with (h | ⟨o,h⟩) | h
 ·exact .inl (.inl (by rw[<-h];exact same _ (nK h hT (by intro z;cases z))))
 ·exact .inl (.inr ⟨o,by rw[<-h];exact same _ (nK h hT (by intro z;cases z))⟩)
 ·exact .inr h
theorem Oq(T:Txt K mg t)(kb:K.In base)(hN:base.NoSeer)(hP:P.given.tree=none){A:Around}{outer:List Env}{s:Shared}{H:Hp}{l c Tb:Addr}{g room:Int}{tg tr:Tok}{bs:List Nat}{Q:VK}{E:XK}(hr:mQ 44 A)(e0:yM P w K mg base A outer s H)(hl:jE K H l (jL bs))(hb:∀c∈bs,c<256)
  (hcode:∀o fd,base.get? t.yY=some o->o.data=.func fd->fd.code=.ref c) (C:PySem.W.CodeHd base c Tb) (hT:H Tb=some (.D0 #[])) (hB:∀T,base.get? T=none->base.BuiltinsAt mg T)
  (hq:∀p H',H' p=some (.lst ((Oo g room bs).map V.int))->Q (.ref p) H') :
  codeAny (model P w) A (.call (.ref t.yY) ⟨[.int g tg,.int room tr,.ref l],[]⟩) (CR (wU P w) outer P w H s Q E) s:=by
 obtain⟨oc,od,kV,doc,pm,an,cdv,ct,osl,Xs,lk,hcd⟩:=T.best.fn.ex
 have KX:K.In s.heap:=kb.keeps λ b o e=>(e0.bs b o e).1
 have hbd:=T.best.bd s [.int g tg,.int room tr,.ref l] KX rfl
 rw[Xs] at hbd lk
 have hc:=hcode _ _ (kb _ _ lk) rfl
 refine MM (vs:=[.int g,.int room,.ref l]) (us:=[.int g tg,.int room tr,.ref l]) (E:=E) lk hcd Pz rfl hr e0 hbd (.cons ⟨_,rfl⟩ (.cons ⟨_,rfl⟩ (.cons rfl .nil))) λ s1 hr1 I kp=>?_
 refine wpAny_execs_cons (wpAny_Return_some (wpAny_Call_Name_kw (sY I rfl T.answer.mg ?_)))
 have frees:∀y:Str×NameKind,y∈[(("goals":Str),NameKind.free),("room",.free),("text",.free),("tell_best",.globalImplicit)]->y.2=.free->y.1∈[("goals":Str),"room","text"]:=by
  intro y hy e;simp only[aB,dg,or_false] at hy
  rcases hy with rfl | rfl | rfl | rfl<;>first | (simp;done) | cases e
 have cells:∀x:Str,x∈[("goals":Str),"room","text"]->∃c,(envOfC "best" (jk AS) s.heap.objs.size t.yY cdv).cells.lookup x=some c:=λ x hx=>by
  simp only[aB,dg,or_false] at hx
  rcases hx with rfl | rfl | rfl
  ·exact I.ok.has "goals" (.inl rfl)
  ·exact I.ok.has "room" (.inl rfl)
  ·exact I.ok.has "text" (.inl rfl)
 refine eZ (h₀:=base) kb T.answer.fn.kp (Po (MP I hc C hT hB ?_ rfl λ p c' pm' ctv s2 H2 ho Se ks I2 same grown=>?_))
 ·intro y hy e
  exact cells _ (frees y (by simpa [or_comm,or_left_comm,or_assoc] using hy) e)
 refine⟨I2.GC,wpAny_call (codeAny_mono (HQ (E:=E0) (Q:=Q) T kb hr1 I2.OW ho rfl λ SV A1 s3 hrA e3 XN=>?_) λ r s' h=>?_)⟩
 ·have XO:s3.heap.CodeRec (.ref c') ((envOfC "best" (jk AS) s.heap.objs.size t.yY cdv).qual ++ "<lambda>"):=by
   obtain⟨c2,oc,vs,tq,e1,e2,e4,e5⟩:=Se;exact⟨c2,oc,vs,tq,e1,XN _ _ e2,e4,e5⟩
  refine Pj (k:=41) (vs:=[.int g,.int room,.ref l]) hrA (UH.of (vs:=[.int g,.int room,.ref l]) I2 rfl ?_ ?_ ?_ ?_ XN) e3 (XN _ _ ho) rfl XO rfl rfl rfl (λ hrk=>jI T.Dw (EV T kb hN hP) (hrk.mono (by decide)) rfl (jA Sa) (ja (pv 0)<|ja (pv 1)<|ja (pv 2) jd)) ?_
  ·decide
  ·intro y hy e;exact cells _ (frees y (by simpa [or_comm,or_left_comm,or_assoc] using hy) e)
  ·intro x hx;have hx:x∈[("goals":Str),"room","text"]:=hx;simp only[aB,dg,or_false] at hx
   rcases hx with rfl | rfl | rfl<;>rfl
  ·intro x hx;have hx:x∈[("goals":Str),"room","text"]:=hx;simp only[aB,dg,or_false] at hx
   rcases hx with rfl | rfl | rfl<;>rfl
  ·refine⟨_,rfl,_,rfl,_,rfl,g,room,l,bs,rfl,QB hl hT same,hb,?_⟩;unfold Oo at hq
   by_cases h1:(0<=g/\g<=65535)/\bs.length<=65536/\0<=room/\room<=65536
   ·rw[if_pos h1] at hq ⊢
    cases e:Rd.ku bs with
    |none=>
     rw[e] at hq;exact λ H'=>⟨-2,.text,λ q hq'=>hq q _ jb⟩
    |some net=>
     rw[e] at hq;dsimp only at hq;show if 2^net.length<=g.toNat then _ else _
     by_cases h2:2^net.length<=g.toNat
     ·rw[if_pos h2] at hq ⊢;exact λ H'=>⟨-3,.goal,λ q hq'=>hq q _ jb⟩
     rw[if_neg h2] at hq ⊢
     by_cases h3:room<((outF net (Ra61.best net g.toNat)).length:Int)
     ·rw[if_pos h3] at hq ⊢;exact λ H'=>⟨-7,.room,λ q hq'=>hq q _ jb⟩
     rw[if_neg h3] at hq ⊢;exact λ q H' sm hp=>hq q H' hp
   ·rw[if_neg h1] at hq ⊢;exact λ H'=>⟨-1,.range,λ q hq'=>hq q _ jb⟩
 ·cases r with
  |error e=>
   obtain⟨_,_,_,_,_,_,_,_,_,_,_,_,_,_,z⟩:=h;exact z.elim
  |ok f=>
   cases f with
   |ret u=>
    obtain⟨v,H',J,rv,q⟩:=I2.after h;exact⟨v,H',J.os,J.bare,J.base,J.hok,rv,q⟩
   |next=>exact False.elim h
   |brk=>exact False.elim h
   |cont=>exact False.elim h
end
end Ck
end
noncomputable section
namespace Ck
open PySem PySem.Spec PyProof.Rows L2
open PySem.W (OpenSpec WData)
theorem QC(g room:Int)(ns:List Int)(h:ns.length<=65536):PyRa61.best g room ns=Oo g room (ns.map eH):=by
 have hn:(ns.map eH).length<=65536:=by rw[ah];exact h
 show (Ra61.answer (.best (Ra61Neutral.nats ns) (ns.length:Int) g room)).value::Ra61Neutral.ints (Ra61.answer (.best (Ra61Neutral.nats ns) (ns.length:Int) g room)).out=_
 have e:Ra61.answer (.best (Ra61Neutral.nats ns) (ns.length:Int) g room)=if (Ra61.inside (ns.length:Int) 0 Ra61.MOST&&(Ra61.inside g 0 65535&&Ra61.inside room 0 Ra61.ROOM))=false then Ra61.only (-1) else
   Ra61.onGoals (Ra61Neutral.nats ns) g λ N=>Ra61.said room (Ra61.linesOf N λ s=>(Ra61.toldFr (Ra61.at_ (Ra61.best N g.toNat) s),none)):=rfl
 rw[e]
 unfold Oo
 have hin:(Ra61.inside (ns.length:Int) 0 Ra61.MOST&&(Ra61.inside g 0 65535&&Ra61.inside room 0 Ra61.ROOM))=true↔(0<=g/\g<=65535)/\(ns.map eH).length<=65536/\0<=room/\room<=65536:=by
  unfold Ra61.inside Ra61.MOST Ra61.ROOM;simp only[aR,decide_eq_true_eq,ah]
  omega
 by_cases q:(0<=g/\g<=65535)/\(ns.map eH).length<=65536/\0<=room/\room<=65536
 ·rw[if_pos q,if_neg (by rw[hin.mpr q];simp),<-Rd.M3]
  unfold Ra61.onGoals Ra61.onNet;show (match Ra61.net (ns.map eH) with | none=>_ | some N=>_:Ra61.Ans).value::Ra61Neutral.ints (match Ra61.net (ns.map eH) with | none=>_ | some N=>_:Ra61.Ans).out=_
  cases eN:Ra61.net (ns.map eH) with
  |none=>rfl
  |some N=>
   dsimp only;have G:Fq.Good N:=Rd.F2 (by rw[<-Rd.M3];exact eN)
   by_cases h2:2^N.length<=g.toNat
   ·rw[if_pos h2,if_pos h2];rfl
   ·rw[if_neg h2,if_neg h2];show (Ra61.said room (outF N (Ra61.best N g.toNat))).value::Ra61Neutral.ints (Ra61.said room (outF N (Ra61.best N g.toNat))).out=_;unfold Ra61.said
    by_cases h3:room<((outF N (Ra61.best N g.toNat)).length:Int)
    ·rw[if_pos h3,if_pos h3];rfl
    ·rw[if_neg h3,if_neg h3];rfl
 ·rw[if_neg q,if_pos (by
   cases z:(Ra61.inside (ns.length:Int) 0 Ra61.MOST&&(Ra61.inside g 0 65535&&Ra61.inside room 0 Ra61.ROOM)) with
   |false=>rfl
   |true=>exact absurd (hin.mp z) q)]
  rfl
end Ck
end
noncomputable section
namespace Ck
open PySem PySem.Spec PyProof.Rows L2
open PySem.W (OpenSpec WData)
abbrev row:=cz
theorem GB:mQ 44 callerA:=⟨rfl,by decide,by decide⟩
theorem Te{K:ai}{h:Heap}{T:Addr}(KX:K.In h)(hT:h.get? T=some (iE #[]))(hn:PySem.W.noTabs K=true):K.lookup T=none:=by
 cases e:K.lookup T with
 |none=>rfl
 |some o=>
  have e2:=KX _ _ e;rw[hT] at e2
  cases e2;have h2:=bD.mp hn (T,iE #[]) (PySem.W.mem_of_lookupK e);exact absurd (show false=true from h2) aN
theorem Ot{ns:List Int}(h:∀x∈ns,0<=x):jL (ns.map eH)=ns.map V.int:=by
 unfold jL
 rw[eF]
 refine List.map_congr_left λ x hx=>?_
 have:=h x hx
 show V.int ((x.toNat:Nat):Int)=V.int x
 rw[f7 this]
theorem HW(said:row.wellSaid=true){args:List WData}(hpre:row.pre args=true):∃(g room:Int) (ns:List Int),ns.length<=65536/\(∀x:Int,x∈ns->(0:Int)<=x/\x<=(255:Int))/\args=[.int g,.int room,.list (ns.map .int)] /\
  ∀d ds,d=.list ((PyRa61.best g room ns).map .int)->row.claim.post [.int g,.int room,.list (ns.map .int)] d ds=true:=by
 obtain⟨⟨g,room,ns,u0⟩,hw,_,rfl⟩:=(OpenSpec.pre_iff said args).mp hpre
 have hw1:(eU (-2147483648) 2147483647 g&&(eU (-2147483648) 2147483647 room&&(PySem.W.Codec.inList 0 65536 (eU 0 255) ns&&true)))=true:=hw
 simp only[aR] at hw1
 have XQ:(PySem.W.Codec.inLen 0 65536 ns&&ns.all (eU 0 255))=true:=hw1.2.2.1
 rw[aR] at XQ
 exact⟨g,room,ns,(PySem.W.Codec.inNat_iff.mp XQ.1).2,λ x hx=>PySem.W.Codec.inInt_iff.mp (bD.mp XQ.2 x hx),rfl,λ d ds e=>(OpenSpec.post_iff said hw d ds).mpr e⟩
theorem Lo(said:row.wellSaid=true){w:World}{s₀ s₁:Shared}{mg mb:Str->Option Value}{q:Program}{loose:List Str}{mean:ExcName->Option Value}{K:ai}(KX:K.In s₁.heap)(Tp:Top q loose mean mg mb s₁.heap){t:nF}(T:Txt K mg t)(hi:importsNone q=true)
  (hq:((recsOf q).find? λ d=>d.name==("best":Str)).isSome=true) (hnt:PySem.W.noTabs K=true) {fa:Addr} (hmg:mg "best" = some (.ref fa)) (hg:s₁.gens = #[]) {args:List WData} {vals:List Value} (hpre:row.pre args=true) (hwl:PySem.W.WellAll w.params s₁.heap vals args) :
  wpAny (model row.prog w) callerA (PySem.call (.ref fa) vals) (λ v s'=>PySem.W.GoodWG row.claim (classAt s₀.heap) (ExcName.means s₀.heap) args s₁ (.ok (.ret v)) s')
   (λ e s'=>PySem.W.GoodWG row.claim (classAt s₀.heap) (ExcName.means s₀.heap) args s₁ (.error e) s') s₁:=by
 obtain⟨g,room,ns,hlen,hall,rfl,post⟩:=HW said hpre
 obtain⟨tg,tr,l,vs,rfl,hobj,hints⟩:∃tg tr l vs,vals=[Value.int g tg,Value.int room tr,Value.ref l]/\s₁.heap.get? l=some { cls:=.type "list",data:=.seq vs.toArray }/\IntsAre vs ns:=by
  cases hwl with
  |cons w1 w2=>
   cases w2 with
   |cons w3 w4=>
    cases w4 with
    |cons w7 w8=>
     cases w8
     cases w1;cases w3
     cases w7 with
     |list ho hall=>exact⟨_,_,_,_,rfl,ho,Att.zS ns _ hall⟩
 obtain⟨d,hd⟩:=gF.mp hq
 have hdn:d.name=("best":Str):=beq_iff_eq.mp (List.find?_some (p:=λ d:DefRec=>d.name==("best":Str)) hd)
 obtain⟨a,o,fd,c,Tb,h1,h2,h3,h4,h5,h6⟩:=Tp.tab d (List.mem_of_find?_eq_some hd)
 rw[hdn] at h1
 have efa:a=fa:=by rw[hmg] at h1;cases h1;rfl
 subst efa
 have Y7:t.yY=a:=by have:=T.best.mg;rw[hmg] at this;cases this;rfl
 have hT:s₁.heap.get? Tb=some (iE #[]):=h6.2
 obtain⟨base,H,L⟩:=WU (P:=row.prog) (w:=w) KX Tp.g Tp.b Tp.builtins Tp.nolimit hg hobj hints (bf hlen (by decide)) hT (Te KX hT hnt)
 have Rh:∀{b o},s₁.heap.get? b=some o->(∀vs,o.data≠.fields vs)->(∀vs n,o.data≠.seq vs n)->base.get? b=some o:=λ {b o} e n1 n2=>by
  refine L.Tt b o e ?_
  rcases L.only b with z | z | ⟨_,_,_,z⟩
  ·exact z
  ·rw[z,hT] at e;cases e;exact absurd rfl (n1 _)
  ·rw[z,hobj] at e;cases e;exact absurd rfl (n2 _ _)
 have hC:PySem.W.CodeHd base c Tb:=by
  obtain⟨o',vs',file,tf,flags,tg',inF,text,tt,e1,r1,r2,r3,r4,r5,r6,r7,r8,hne⟩:=PySem.W.CodeHd.of h5 h6;refine⟨o',vs',file,tf,flags,tg',inF,text,tt,L.Tt _ _ e1 ?_,r1,r2,r3,r4,r5,r6,r7,r8,hne⟩
  rcases L.only c with z | z | ⟨_,_,_,z⟩
  ·exact z
  ·exact absurd z hne
  ·rw[z,hobj] at e1;cases e1;exact absurd (show Value.type "list" = Value.type "code" from r1) (by decide)
 have V2:∀{a:Addr} {m:Str->Option Value},s₁.heap.Ns a m->base.Ns a m:=λ {a m} x=>by
  obtain⟨o,es,ep,e,dd,r⟩:=x;exact⟨o,es,ep,Rh e (λ vs z=>by rw[dd] at z;cases z) (λ vs n z=>by rw[dd] at z;cases z),dd,r⟩
 obtain⟨bm,ob,b1,b2,b3,b4,b5,b6⟩:=Tp.bmain
 have bmB:=Rh b3 (λ vs z=>by rw[b6] at z;cases z) (λ vs n z=>by rw[b6] at z;cases z)
 have hB:∀T,base.get? T=none->base.BuiltinsAt mg T:=λ T hTn=>by
  refine⟨bm,ob,b1,b2,λ z=>?_,λ z=>?_,bmB,b4,b5,b6⟩
  ·obtain⟨o2,es,ep,e2,d2,_⟩:=Tp.g;rw[<-z,b3] at e2
   cases e2;rw[b6] at d2;cases d2
  ·rw[z,hTn] at bmB;cases bmB
 have hN:base.NoSeer:=by
  obtain⟨⟨mc,c1,c2,c3⟩,⟨mm,c4,c5⟩,⟨mb',c6,c7⟩,_⟩:=Tp.seer hi;exact⟨⟨mc,V2 c1,c2,c3⟩,⟨mm,V2 c4,c5⟩,⟨mb',V2 c6,c7⟩,⟨mg,bm,ob,V2 Tp.g,b1,bmB,b4,b5⟩⟩
 refine PySem.W.enter_call ?_
 have run:=Oq (P:=row.prog) (w:=w) T L.QD hN (by rfl) (tg:=tg) (tr:=tr) (g:=g) (room:=room) (E:=E0) (Q:=λ v H'=>∃p,v=.ref p/\H' p=some (.lst ((Oo g room (ns.map eH)).map V.int))) GB L.env (bs:=ns.map eH) (by rw[Ot λ x hx=>(hall x hx).1];exact L.txt)
  (λ c hc=>by
   obtain⟨x,hx,rfl⟩:=az.mp hc;have:=hall x hx;omega) (λ o' fd' e' d'=>by
   have Y8:=(L.env.bs _ _ e').1;rw[Y7,h2] at Y8
   cases Y8;rw[h3] at d'
   cases d';exact h4) hC L.tab hB λ p H' hp=>⟨p,rfl,hp⟩
 rw[Y7] at run
 refine codeAny_mono run λ r s' hr=>?_
 cases r with
 |error e=>
  obtain⟨_,_,_,_,_,_,_,_,_,_,_,_,_,_,z⟩:=hr;exact z.elim
 |ok f=>
  cases f with
  |ret u=>
   refine Kq L h6 hr (post _ _ ?_);rw[QC g room ns hlen]
  |next=>exact False.elim hr
  |brk=>exact False.elim hr
  |cont=>exact False.elim hr
end Ck
end
noncomputable section
open PySem PySem.W
theorem Ck.said:cz.wellSaid=true:=by decide +kernel
def Ck.dk:DefRec×List (Str×Expr):=(defOf Ck.ym "best").get (by decide +kernel)
theorem Ck.hdef:defOf Ck.ym cz.name=some (Ck.dk.1,Ck.dk.2):=by kernel_rfl
theorem Ck.hdn:Ck.dk.1.name=("best":Str):=by kernel_rfl
theorem PySem.Challenge.cw_chancechoices_s02_best_holds : PySem.Challenge.rw_chancechoices_s02_best.Holds := by
 refine holds_os (q:=Ck.ym) (loose:=[]) (Xt:=Ck.WY) (XP:=XL Ck.ym []) (Yf:=Ck.Kh.obs) (Ya:=Ck.Kh.val) (YP:=InK Ck.Kt) (d:=Ck.dk.1) (kwd:=Ck.dk.2) Ck.UU Ck.Kh.of Ck.Kh.keeps (λ s e=>xl_of s (iF.mp e).1) XL.keeps Ck.hdef (by kernel_rfl) (by kernel_rfl) (λ s e=>recFacts_of (iF.mp e).2) (os_shapes) Ck.said (by decide +kernel) ⟨rfl,rfl,rfl,rfl,rfl,by decide +kernel⟩ ⟨[.int 0,.int 0,.list []],by decide +kernel,by decide +kernel⟩ ?_
 intro w s₀ s₁ mg mb G Y fa o pm cd doc dV kV ho hd hcd hD hmg hg args vals as hpre hlay hrd hwl hlo
 obtain⟨t,T⟩:=Ck.txt Y G.T.g
 rw[Ck.hdn] at hmg
 exact Ck.Lo Ck.said Y G.T T (by decide +kernel) (by decide +kernel) (by kernel_rfl) hmg hg hpre hwl
#print axioms PySem.Challenge.cw_chancechoices_s02_best_holds
end
