import PyProof.Rows.All
import Wide.All
import OpenK.AllK
import Wide.FinOn
import PyProof.EqAt
import PyProof.EqKinds
import PyProof.TupleCall
import KE.BitLaws
import PySem.SetTable
import PyProof.TupleKey
import PyProof.Rows.SetFrom
import KE.KLam
import KE.OsGo
import Open.SpecLaws
import KE.KRevIter
import Open.Pieces
import KE.OsHead
import PySem.Challenge.RW_chancechoices_s05_cost
set_option Elab.async false
set_option linter.all false
set_option maxRecDepth 100000
set_option maxHeartbeats 8000000
open List renaming getD_eq_getElem?_getD → aa,getElem?_eq_getElem → af,length_map → ah,getElem?_map → ai,getElem?_eq_some_iff → ao,mem_of_getElem? → aq,range → ay,take_of_length_le → aA,mem_map → aB,mem_cons → aC,size_toArray → aD,mem_range → aF,length_append → aG,mem_filter → aH,replicate → aJ,length_cons → aK,getElem?_range → aL,mem_cons_of_mem → aO,mem_cons_self → aQ,length_take → aR,map_cons → aS,getElem_mem → aV,mem_append → aY,map_append → bh,all_eq_true → bz,getElem?_eq_none → bA,drop_eq_getElem_cons → bC,takeWhile_cons_of_pos → bF,mem_append_right → bK,dropWhile_cons_of_pos → bL,getElem?_append_left → bO,findIdx?_eq_some_iff_getElem → bP,getElem_of_mem → bQ,map_nil → bV,length_eq_zero_iff → cy,filter_cons → cz,getElem?_concat_length → cA,length_range → cD,append_nil → cF,length_set → cG,exists_mem_of_ne_nil → cI,length_replicate → cJ,length_filter_le → cK,lookup_cons → cM,any_eq_true → cN,getElem?_of_mem → cQ,append_assoc → cR,replicate_succ → cU,take_length → cX,getElem?_append_right → cZ,findIdx?_eq_none_iff → dg,nodup_cons → dh,pairwise_map → di,nodup_append → dm,foldl_append → dw,sum_cons → dB,not_mem_nil → dH,map_map → dO,append_of_mem → dP,foldl_cons → dR,nil_append → dS,all_cons → dW,dropWhile_suffix → dX,flatten_cons → dY,lookup → eB,length → eF,takeWhile_cons_of_neg → eH,getElem?_zipIdx → eL,dropWhile_cons_of_neg → eS,ext_getElem → eV,filterMap_cons → eY,length_zipWith → eZ,map_eq_nil_iff → e7,find?_cons → fu,mem_filterMap → fy,getElem?_replicate → fB,getElem?_set_self → fF,range_succ_eq_map → fJ,getElem?_set → fP,flatMap_cons → fQ,takeWhile_append_dropWhile → fR,getElem?_zipWith → fT,length_drop → fW,suffix_cons → fX,suffix_refl → fY,cons_append → fZ,mem_flatMap → f6,mem_append_left → f9,getElem?_set_ne → gc,of_mem_zip → gh,flatMap_append → gx,foldl_nil → gJ,getElem_range → gK,take_zero → gP,mem_of_find?_eq_some → gQ,any_eq_false → gS,take_add_one → gW,filter_congr → gY,find?_range_eq_some → g5,length_erase_of_mem → g6,set_eq_of_length_le → g9,nodup_range → ic,getElem_map → iu,length_pos_of_mem → iC,pairwise_lt_range → iD,range_succ → iJ,take_append_drop → iM,mem_erase_of_ne → iP,nodup_nil → iQ,mem_of_mem_take → iT,map_congr_left → iX,any_cons → iY,any_map → jh,all_map → ji,zipWith → jl
open PySem.W renaming Frag → aj,emptyDict → bY,findIn → cP,instObj → cS,fnOf → dM,keepIn → eE,callWith_K → fz,cellsFrom_some → fH,methodCall_KW → fS,plainGet → fV,plainGet_of → gu,lookIn → gA,codeIn → gB,methodObj → gR,hasDictIn → gT,takerIn → iG,makesIn → iH,tabObj → iU,hideAll_get → iW,excIn → ja,of_hideAll → jb,codeRec_of → jd,isFn → jf,plainOver → jg,handedIn → jo
open Option renaming bind_some → ak,map_some → bH,bind_none → bM,getD_some → dJ,map_eq_some_iff → dN,isSome_iff_exists → gZ,map_map → iS
open Nat renaming le_refl → au,lt_succ_self → aE,lt_of_lt_of_le → aM,ne_of_lt → aZ,le_trans → bf,le_of_lt → bg,zero_le → bq,gcd → bx,lt_irrefl → bI,lt_of_le_of_lt → bJ,lt_succ_of_lt → cB,pow_succ → cC,gcd_pos_of_pos_right → dD,mod_eq_of_lt → dG,lt_trichotomy → dZ,le_of_lt_succ → ef,lt_succ_of_le → eu,pow_le_pow_right → eG,mul_pos → eO,mul_le_mul_right → eT,le_add_right → eU,pow_lt_pow_iff_right → fk,ne_of_gt → fG,le_of_succ_le → fL,lt_or_ge → fM,mul_mod → gf,not_lt_zero → gi,div_le_self → gr,pow_le_pow_left → gy,mod_lt → gC,eq_or_lt_of_le → gF,gcd_dvd_right → gX,le_of_eq → iy,mul_comm → iz,div_div_eq_div_mul → iA,add_zero → iB,strongRecOn → iI,div_lt_iff_lt_mul → iK,add_mod → iO,mul_assoc → iZ,zero_add → jj,lt_trans → jk,sub_self → jn,one_pos → jq
open Classical renaming byContradiction → az,choose_spec → fU,choose → iw
open Rat renaming intCast_mul → aI,le_of_mul_le_mul_left → br,intCast_natCast → bu,mul_le_mul_of_nonneg_left → bw,mul_nonneg → bD,le_refl → bG,le_of_lt → bR,natCast_le_natCast → cE,mul_le_mul_of_nonneg_right → cO,intCast_inj → cT,intCast_lt_intCast → cV,intCast_le_intCast → cW,mul_lt_mul_of_pos_left → c9,pow_succ → dQ,lt_of_mul_lt_mul_left → eX,intCast_neg → fm,natCast_mul → fq,mul_pos → fD,intCast_sub → gj,intCast_add → gk,pow_zero → gz,natCast_nonneg → gO,div_def → iR,le_trans → jm
open Bool renaming false_eq_true → aN,false_ne_true → aP,and_eq_true → aU,eq_iff_iff → aX,and_eq_true_iff → bU,true_and → b9,false_or → fi,not_true → f7,or_eq_false_iff → gg,or_eq_true_iff → gw,not_false → gG,and_self → g7,not_eq_true → ia,true_or → iF,and_false → iN
open PySem renaming mem_of_lookup → aT
open Option.some renaming inj → aW
open Array renaming getElem?_eq_getElem → bB,getElem?_eq_some_iff → bE,length_toList → dF,getElem?_append_left → gE,toList_filterMap → iE,getElem?_toList → iL,forIn_toList → je
open PySem.F renaming plainAttrs_list → bN,excBase_Exception → bX,slot_list_append → cg,type_list_append → cu,slot_list_index → ig
open Int renaming mul_le_mul_of_nonneg_right → bW,toNat_natCast → bZ,fdiv_eq_ediv_of_nonneg → cY,toNat → eW,eq_ofNat_of_zero_le → fE,le_of_lt → fO,natCast_mul → gn,toNat_of_nonneg → gv,natAbs_mul → gI,natAbs_natCast → gM,gcd → iV
open PySem.Challenge renaming rw_chancechoices_s05_cost → cH,pw_chancechoices_s05_cost → dU
open List.Pairwise renaming imp → dj,imp_of_mem → fh
open PySem.W.Codec renaming inInt → fc
open Nat.succ renaming inj → fN
open Prod renaming ext → gH
open List.cons renaming inj → g8
open PySem.P renaming truthy_int → jc
noncomputable section
namespace L2
open PySem PySem.Spec PyProof.Rows
abbrev Key:=Sum Int Str
def EZ:Key->Value->Bool
 |.inl k,v=>Value.isInt k v
 |.inr x,v=>Value.isStrOf x v
def Zl(w:World):Key->Int
 |.inl k=>hashInt k
 |.inr x=>hashStr w x
theorem mG:∀{k:Key}{v:Value},EZ k v=true->(∃i t,k=Sum.inl i/\v=Value.int i t)\/(∃x t,k=Sum.inr x/\v=Value.str x t)
 |.inl i,v,h=>by
  obtain⟨t,e⟩:=Value.isInt_shape (k:=i) (v:=v) h;exact .inl ⟨i,t,rfl,e⟩
 |.inr x,v,h=>by
  obtain⟨t,e⟩:=Value.isStrOf_shape (x:=x) (v:=v) h;exact .inr ⟨x,t,rfl,e⟩
theorem Mc(i:Int)(t:Tok):EZ (.inl i) (.int i t)=true:=by simp[EZ,Value.isInt]
theorem Me(x:Str)(t:Tok):EZ (.inr x) (.str x t)=true:=by simp[EZ,Value.isStrOf]
theorem UY(a b:Int):decide ((Sum.inl a:Key)=Sum.inl b)=(a==b):=by
 by_cases e:a=b
 ·subst e;simp
 ·have h:¬(Sum.inl a:Key)=Sum.inl b:=λ q=>e (Sum.inl.inj q)
  rw[decide_eq_false h];exact (beq_eq_false_iff_ne.mpr e).symm
theorem UZ(a b:Str):decide ((Sum.inr a:Key)=Sum.inr b)=decide (a=b):=by
 by_cases e:a=b
 ·subst e;simp
 ·have h:¬(Sum.inr a:Key)=Sum.inr b:=λ q=>e (Sum.inr.inj q)
  rw[decide_eq_false h,decide_eq_false e]
theorem U0(a:Int)(b:Str):decide ((Sum.inl a:Key)=Sum.inr b)=false:=decide_eq_false (λ q=>nomatch q)
theorem U1(a:Str)(b:Int):decide ((Sum.inr a:Key)=Sum.inl b)=false:=decide_eq_false (λ q=>nomatch q)
def lZ(prog:Program)(w:World):PySem.KeyKind prog w Key where
 is:=EZ
 hash:=Zl w
 inj:=λ v a b ha hb=>by
  rcases mG ha with ⟨i,t,rfl,rfl⟩ | ⟨x,t,rfl,rfl⟩
  ·rcases mG hb with ⟨j,u,rfl,e⟩ | ⟨y,u,rfl,e⟩
   ·injection e with e1 _;rw[e1]
   ·exact nomatch e
  ·rcases mG hb with ⟨j,u,rfl,e⟩ | ⟨y,u,rfl,e⟩
   ·exact nomatch e
   ·injection e with e1 _;rw[e1]
 byValue:=λ k v h=>by
  rcases mG h with ⟨i,t,rfl,rfl⟩ | ⟨x,t,rfl,rfl⟩<;>rfl
 pyHash:=λ hv h=>by
  rcases mG hv with ⟨i,t,rfl,rfl⟩ | ⟨x,t,rfl,rfl⟩
  ·exact wpAny_pyHash_int h
  ·exact wpAny_pyHash_str h
 eqBool:=λ hu hv h=>by
  rcases mG hu with ⟨i,t,rfl,rfl⟩ | ⟨x,t,rfl,rfl⟩
  ·rcases mG hv with ⟨j,u,rfl,rfl⟩ | ⟨y,u,rfl,rfl⟩
   ·rw[UY] at h;exact wpAny_eqBool_int h
   ·rw[U0] at h;exact SeqAt.EqAt.int_str i t y u _ _ _ _ h
  ·rcases mG hv with ⟨j,u,rfl,rfl⟩ | ⟨y,u,rfl,rfl⟩
   ·rw[U1] at h;exact SeqAt.EqAt.str_int x t j u _ _ _ _ h
   ·rw[UZ] at h;exact wpAny_eqBool_str h
 «strs»:=λ k x t v h=>by
  rcases mG h with ⟨i,u,rfl,e⟩ | ⟨y,u,rfl,e⟩
  ·exact nomatch e
  ·injection e with e1 _
   subst e1
   cases v<;>rfl
theorem Hv(prog:Program)(w:World)(i:Int)(t:Tok):(lZ prog w).is (.inl i) (.int i t)=true:=Mc i t
theorem Hw(prog:Program)(w:World)(x:Str)(t:Tok):(lZ prog w).is (.inr x) (.str x t)=true:=Me x t
end L2
namespace L2
open PySem PySem.Spec PyProof.Rows
inductive V where
 |qZ | bl (b:Bool) | int (i:Int) | str (x:Str) | KH (b:Array UInt8) | YM (b:UInt64) | ref (a:Addr) | ty (n:String)
 deriving DecidableEq
def RelV:V->Value->Prop
 |.qZ,u=>u=Value.none
 |.bl b,u=>u=Value.bool b
 |.int i,u=>∃t,u=Value.int i t
 |.str x,u=>∃t,u=Value.str x t
 |.KH b,u=>∃t,u=Value.bytes b t
 |.YM b,u=>∃t,u=Value.float b t
 |.ref a,u=>u=Value.ref a
 |.ty n,u=>u=Value.type n
abbrev Vals:List V->List Value->Prop:=Paired RelV
theorem Vals.length{xs:List V}{us:List Value}(r:Vals xs us):xs.length=us.length:=Paired.length r
theorem Vals.get:∀{xs:List V}{us:List Value}{i:Nat}{x:V},Vals xs us->xs[i]? = some x->∃u,us[i]? = some u/\RelV x u
 |_,_,_,_,.nil,e=>by simp at e
 |_,_,0,_,.cons r _,e=>by simp at e;subst e;exact⟨_,rfl,r⟩
 |_,_,i+1,x,.cons _ t,e=>by
  obtain⟨u,h1,h2⟩:=Vals.get (i:=i) (x:=x) t (by simpa using e);exact⟨u,by simpa using h1,h2⟩
theorem Vals.set{x:V}{u:Value}(r:RelV x u):∀{xs:List V}{us:List Value}(i:Nat),Vals xs us->Vals (xs.set i x) (us.set i u)
 |_,_,_,.nil=>.nil
 |_,_,0,.cons _ t=>.cons r t
 |_,_,i+1,.cons q t=>.cons q (Vals.set r i t)
theorem Vals.append:∀{xs ys:List V}{us ws:List Value},Vals xs us->Vals ys ws->Vals (xs++ys) (us++ws)
 |_,_,_,_,.nil,s=>s
 |_,_,_,_,.cons r t,s=>.cons r (Vals.append t s)
theorem Vals.take:∀{xs:List V}{us:List Value}(n:Nat),Vals xs us->Vals (xs.take n) (us.take n)
 |_,_,0,_=>.nil
 |_,_,_+1,.nil=>.nil
 |_,_,n+1,.cons r t=>.cons r (Vals.take n t)
theorem Vals.drop:∀{xs:List V}{us:List Value}(n:Nat),Vals xs us->Vals (xs.drop n) (us.drop n)
 |_,_,0,r=>r
 |_,_,_+1,.nil=>.nil
 |_,_,n+1,.cons _ t=>Vals.drop n t
def Eu:Option V->Option Value->Prop
 |some v,some u=>RelV v u
 |none,none=>True
 |_,_=>False
def KV{κ:Type}:List (κ×V)->List (κ×Value)->Prop:=Paired λ(p:κ×V) (q:κ×Value)=>p.1=q.1/\RelV p.2 q.2
def kV:Key->V
 |.inl i=>.int i
 |.inr x=>.str x
inductive HO where
 |lst (xs:List V)
 |tup (xs:List V)
 |dK (kvs:List (Key×V)) | dT (kvs:List (List Key×V))
 |set (S:Int->Bool) (n:Nat)
 |ins (C dx:Addr) (fs:List (Str×V))
 |own (x:Addr)
 |xd (fs:List (Str×V))
 |met (f x:Addr)
 |Zm (lo hi:Int)
 |NV (o:Obj) (u:HO)
 |Gr (ps:Array Value)
 |ext (φ:Heap->Prop)
abbrev Hp:=Addr->Option HO
def upd(H:Hp)(a:Addr)(o:HO):Hp:=λ b=>if b=a then some o else H b
theorem ju{H:Hp}{a:Addr}{o:HO}:upd H a o a=some o:=by unfold upd;rw[if_pos rfl]
theorem jA{H:Hp}{a b:Addr}{o:HO}(h:b≠a):upd H a o b=H b:=by unfold upd;rw[if_neg h]
theorem kh{H:Hp}{a:Addr}{o u:HO}:upd (upd H a o) a u=upd H a u:=by
 funext b;unfold upd;split<;>rfl
theorem oZ{H:Hp}{a b:Addr}{o u:HO}(h:H a=some o)(h':H b=some u)(d:o≠u):a≠b:=by
 intro e;subst e;rw[h] at h';exact d (aW h')
theorem jB{H:Hp}{a b:Addr}{o:HO}(h:H a=some o)(h':H b=none):a≠b:=by
 intro e;subst e;rw[h] at h';cases h'
section
variable(P:Program)(w:World)
def pN(H:Hp)(h:Heap)(a:Addr):HO->Prop
 |.lst xs=>xs.length<=sizeLine/\∃(its:List Value) (n:Nat),Vals xs its/\h.get? a=some { cls:=.type "list",data:=.seq its.toArray n }
 |.tup xs=>xs.length<=sizeLine/\∃its:List Value,Vals xs its/\IsTup h a its.toArray
 |.dK kvs=>kvs.length<=sizeLine/\(a==sysModules)=false/\∃vs,KV kvs vs/\h.DictOf (lZ P w) a vs
 |.dT kvs=>kvs.length<=sizeLine/\(a==sysModules)=false/\∃xs:List (List Key×Addr×Value),
   Paired (λ(p:List Key×V) (q:List Key×Addr×Value)=>p.1=q.1/\H q.2.1=some (.tup (p.1.map kV))/\RelV p.2 q.2.2) kvs xs /\
   ∃o es ep,h.get? a=some o/\o.ExactDict/\o.data=.dict es ep/\es.toList=xs.map (entryOfKey (tupleKind (lZ P w)))/\(xs.map (·.1)).Nodup
 |.set S n=>h.SetOf (intKind P w) a S n
 |.ins C dx fs=>H dx=some (.own a)/\fs.length<=1000/\dx≠a/\h.get? a=some (cS C dx) /\
   ∃mA,h.Ns1 dx mA/\(∀f,Eu (fs.lookup f) (mA f))/\PySem.Within mA (fs.map (·.1))
 |.own _=>∃o,h.get? a=some o
 |.xd fs=>∃mA,h.Ns1 a mA/\∀f,Eu (fs.lookup f) (mA f)
 |.Zm lo hi=>∃t u v,h.get? a=some { cls:=.type "range",data:=.fields #[.int lo t,.int hi u,.int 1 v] }
 |.NV o u=>h.get? a=some o/\pN H h a u
 |.Gr ps=>h.get? a=some { cls:=.none,data:=.fields ps }
 |.met f x=>h.get? a=some (gR (.ref f) (.ref x))
 |.ext φ=>φ h/\(∃o,h.get? a=some o)/\∀h1 h2:Heap,φ h1->(∀o,h1.get? a=some o->h2.get? a=some o)->φ h2
def Ax(H:Hp)(h:Heap):Prop:=∀a o,H a=some o->pN P w H h a o
end
section
variable{P:Program}{w:World}{H H':Hp}{h h':Heap}{a:Addr}{o:HO}
theorem pN.lt(x:pN P w H h a o):a<h.objs.size:=by
 cases o with
 |lst xs=>obtain⟨_,_,_,_,e⟩:=x;exact Heap.lt_size e
 |tup xs=>obtain⟨_,_,_,p⟩:=x;exact p.lt
 |dK kvs=>obtain⟨_,_,_,_,o,_,_,e,_⟩:=x;exact Heap.lt_size e
 |dT kvs=>obtain⟨_,_,_,_,o,_,_,e,_⟩:=x;exact Heap.lt_size e
 |set S n=>obtain⟨o,_,_,_,e,_⟩:=x;exact Heap.lt_size e
 |ins C dx fs=>obtain⟨_,_,_,e,_⟩:=x;exact Heap.lt_size e
 |own y=>obtain⟨_,e⟩:=x;exact Heap.lt_size e
 |xd fs=>obtain⟨_,⟨_,_,_,e,_⟩,_⟩:=x;exact Heap.lt_size e
 |Zm lo hi=>obtain⟨_,_,_,e⟩:=x;exact Heap.lt_size e
 |NV ob u=>obtain⟨e,_⟩:=x;exact Heap.lt_size e
 |Gr ps=>exact Heap.lt_size (show h.get? a=some _ from x)
 |met f y=>exact Heap.lt_size (show h.get? a=some _ from x)
 |ext φ=>obtain⟨_,⟨_,e⟩,_⟩:=x;exact Heap.lt_size e
theorem Paired.WX{α β:Type}{F G:α->β->Prop}:∀{l₁:List α}{l₂:List β},Paired F l₁ l₂->(∀a b,F a b->G a b)->Paired G l₁ l₂
 |_,_,.nil,_=>.nil
 |_,_,.cons r t,f=>.cons (f _ _ r) (Paired.WX t f)
theorem pN.stay(x:pN P w H h a o)(k:∀b u,(b=a\/H b=some (.own a))->h.get? b=some u->h'.get? b=some u)
  (ho:∀b,H b=some (.own a)->H' b=some (.own a)) (ht:∀b xs,H b=some (.tup xs)->H' b=some (.tup xs)):pN P w H' h' a o:=by
 induction o with
 |lst xs=>obtain⟨z,its,n,r,e⟩:=x;exact⟨z,its,n,r,k _ _ (.inl rfl) e⟩
 |tup xs=>obtain⟨z,its,r,ob,e,c⟩:=x;exact⟨z,its,r,ob,k _ _ (.inl rfl) e,c⟩
 |dK kvs=>obtain⟨z,y,vs,r,ob,es,ep,e,c⟩:=x;exact⟨z,y,vs,r,ob,es,ep,k _ _ (.inl rfl) e,c⟩
 |dT kvs=>
  obtain⟨z,y,xs,r,ob,es,ep,e,c⟩:=x;exact⟨z,y,xs,Paired.WX r λ p q z=>⟨z.1,ht _ _ z.2.1,z.2.2⟩,ob,es,ep,k _ _ (.inl rfl) e,c⟩
 |set S n=>obtain⟨ob,es,ep,t,e,c⟩:=x;exact⟨ob,es,ep,t,k _ _ (.inl rfl) e,c⟩
 |ins C dx fs=>
  obtain⟨d,z,ne,e,mA,⟨od,es,ep,e2,c⟩,r⟩:=x;exact⟨ho _ d,z,ne,k _ _ (.inl rfl) e,mA,⟨od,es,ep,k _ _ (.inr d) e2,c⟩,r⟩
 |own y=>obtain⟨ob,e⟩:=x;exact⟨ob,k _ _ (.inl rfl) e⟩
 |xd fs=>obtain⟨mA,⟨od,es,ep,e,c⟩,r⟩:=x;exact⟨mA,⟨od,es,ep,k _ _ (.inl rfl) e,c⟩,r⟩
 |Zm lo hi=>obtain⟨t,u,v,e⟩:=x;exact⟨t,u,v,k _ _ (.inl rfl) e⟩
 |NV ob u ih=>obtain⟨e,q⟩:=x;exact⟨k _ _ (.inl rfl) e,ih q⟩
 |Gr ps=>
  have e:h.get? a=some { cls:=.none,data:=.fields ps }:=x;show h'.get? a=some { cls:=.none,data:=.fields ps };exact k a _ (.inl rfl) e
 |met f y=>
  have e:h.get? a=some (gR (.ref f) (.ref y)):=x;show h'.get? a=some (gR (.ref f) (.ref y));exact k a _ (.inl rfl) e
 |ext φ=>obtain⟨p,⟨o,e⟩,st⟩:=x;exact⟨st _ _ p λ o q=>k _ _ (.inl rfl) q,⟨o,k _ _ (.inl rfl) e⟩,st⟩
theorem Ax.lt(x:Ax P w H h)(e:H a=some o):a<h.objs.size:=(x a o e).lt
theorem Ax.fresh(x:Ax P w H h)(e:h.objs.size<=a):H a=none:=by
 cases q:H a with
 |none=>rfl
 |some u=>exact absurd (aM (x.lt q) e) (bI _)
theorem Ax.kept(x:Ax P w H h)(k:∀b u,h.get? b=some u->h'.get? b=some u):Ax P w H h':=λ a o e=>
 (x a o e).stay (λ b u _ q=>k b u q) (λ _ q=>q) λ _ _ q=>q
theorem Ax.laid(x:Ax P w H h)(k:∀b u,h.get? b=some u->h'.get? b=some u)(hp:h.objs.size<=a)(new:pN P w (upd H a o) h' a o):Ax P w (upd H a o) h':=λ b u e=>by
 have hn:=x.fresh hp
 by_cases hb:b=a
 ·subst hb;rw[ju] at e;cases e;exact new
 ·rw[jA hb] at e
  exact (x b u e).stay (λ c v _ q=>k c v q) (λ c q=>by rw[jA (jB q hn)];exact q) λ c xs q=>by rw[jA (jB q hn)];exact q
end
def Rd(H:Hp)(a:Addr)(u:HO):Prop:=H a=some u\/∃o,H a=some (.NV o u)
theorem Rd.ok{P:Program}{w:World}{H:Hp}{h:Heap}{a:Addr}{u:HO}(r:Rd H a u)(x:Ax P w H h):pN P w H h a u:=by
 rcases r with r | ⟨o,r⟩
 ·exact x a u r
 ·obtain⟨_,q⟩:=x a _ r
  exact q
def YN:Option HO->Prop
 |some (.lst _)=>True
 |some (.dK _)=>True
 |some (.dT _)=>True
 |some (.set _ _)=>True
 |some (.ins _ _ _)=>True
 |some (.ext _)=>True
 |_=>False
section
variable{P:Program}{w:World}{H:Hp}{h h':Heap}{x e:Addr}{o':HO}
theorem Ax.write(ok:Ax P w H h)(mu:YN (H x))(he:e=x\/H e=some (.own x))(k:∀b u,b≠e->h.get? b=some u->h'.get? b=some u)(Wz:∃u,h'.get? e=some u)
  (new:pN P w (upd H x o') h' x o'):Ax P w (upd H x o') h':=λ b u q=>by
 have WY:∀c y,H c=some (.own y)->c≠x:=λ c y r z=>by subst z;rw[r] at mu;exact mu
 have Zn:∀c xs,H c=some (.tup xs)->c≠x:=λ c xs r z=>by subst z;rw[r] at mu;exact mu
 by_cases hb:b=x
 ·subst hb;rw[ju] at q;cases q;exact new
 ·rw[jA hb] at q
  by_cases U3:b=e
  ·have q':H b=some (.own x):=by
    rcases he with z | z
    ·exact absurd (U3.trans z) hb
    ·rw[U3];exact z
   rw[q] at q';cases q';obtain⟨v,hv⟩:=Wz;exact⟨v,by rw[U3];exact hv⟩
  ·refine (ok b u q).stay (λ c v hc r=>k c v ?_ r) (λ c r=>by rw[jA (WY c b r)];exact r) λ c xs r=>by rw[jA (Zn c xs r)];exact r
   rcases hc with rfl | hc
   ·exact U3
   ·rintro rfl
    rcases he with z | z
    ·exact WY c b hc z
    ·rw[hc] at z;cases z;exact hb rfl
end
structure Un(fs ex:List Addr)(H H':Hp)(h h':Heap):Prop where
 keep:∀b o,h.get? b=some o->H b=none->b ∉ fs->b ∉ ex->h'.get? b=some o
 slot:∀b o,h.get? b=some o->H b=none->b∈fs->b ∉ ex->∃sl,h'.get? b=some { o with slots:=sl }
 free:∀b o,h.get? b=some o->H b=none->b ∉ ex->H' b=none
 there:∀b o,h.get? b=some o->b ∉ ex->∃o',h'.get? b=some o'
 tups:∀b xs,H b=some (.tup xs)->H' b=some (.tup xs)
 Ew:∀b o u,H b=some (.NV o u)->H' b=some (.NV o u)
 Ex:∀b ps,H b=some (.Gr ps)->∃more,H' b=some (.Gr (ps++more))
section
variable{fs fs' ex WA:List Addr}{H H1 H2:Hp}{h h1 h2 h':Heap}{a x e:Addr}{o:HO}
theorem Un.any(u:Un fs ex H H1 h h1){b:Addr}{ob:Obj}(q:h.get? b=some ob)(n:H b=none)(hx:b ∉ ex):∃sl,h1.get? b=some { ob with slots:=sl }:=by
 by_cases hb:b∈fs
 ·exact u.slot b ob q n hb hx
 ·exact⟨ob.slots,u.keep b ob q n hb hx⟩
theorem Un.kept(k:∀b u,h.get? b=some u->h'.get? b=some u):Un fs ex H H h h':=
 ⟨λ b ob q _ _ _=>k b ob q,λ b ob q _ _ _=>⟨ob.slots,k b ob q⟩,λ _ _ _ n _=>n,λ b ob q _=>⟨ob,k b ob q⟩,λ _ _ q=>q,λ _ _ _ q=>q,λ _ ps q=>⟨#[],by rw[q];simp⟩⟩
theorem Un.refl:Un fs ex H H h h:=Un.kept λ _ _ q=>q
theorem Un.laid(k:∀b u,h.get? b=some u->h'.get? b=some u)(hp:h.objs.size<=a)(hn:H a=none):Un fs ex H (upd H a o) h h' where
 keep:=λ b u q _ _ _=>k b u q
 slot:=λ b u q _ _ _=>⟨u.slots,k b u q⟩
 free:=λ b u q n _=>by rw[jA (aZ (aM (Heap.lt_size q) hp))];exact n
 there:=λ b u q _=>⟨u,k b u q⟩
 tups:=λ b xs q=>by rw[jA (jB q hn)];exact q
 Ew:=λ b u xs q=>by rw[jA (jB q hn)];exact q
 Ex:=λ b ps q=>⟨#[],by rw[jA (jB q hn),q];simp⟩
theorem Un.write(mu:YN (H x))(he:e=x\/H e=some (.own x))(k:∀b u,b≠e->h.get? b=some u->h'.get? b=some u)(Wz:∃u,h'.get? e=some u):Un fs ex H (upd H x o) h h':=by
 have hx:∀b,H b=none->b≠x:=λ b n z=>by subst z;rw[n] at mu;exact mu
 have hb:∀b,H b=none->b≠e:=λ b n z=>by
  subst z
  rcases he with r | r
  ·exact hx b n r
  ·rw[n] at r;cases r
 have hm:∀b u,H b=some u->¬YN (some u)->b≠x:=λ b u q nm z=>by subst z;rw[q] at mu;exact nm mu
 refine⟨λ b u q n _ _=>k b u (hb b n) q,λ b u q n _ _=>⟨u.slots,k b u (hb b n) q⟩,λ b u q n _=>by rw[jA (hx b n)];exact n,λ b u q _=>?_,
  λ b xs q=>by rw[jA (hm b _ q λ z=>z)];exact q,λ b u xs q=>by rw[jA (hm b _ q λ z=>z)];exact q,λ b ps q=>⟨#[],by rw[jA (hm b _ q λ z=>z),q];simp⟩⟩
 by_cases U3:b=e
 ·subst U3;exact Wz
 ·exact⟨u,k b u U3 q⟩
end
def YO(h:Heap)(H:Hp):List Addr:=(ay h.objs.size).filter λ a=>(H a).isSome
def Hx(h:Heap)(H:Hp):Heap:=PySem.W.hideAll h (YO h H)
theorem Mg(h:Heap)(H:Hp):(Hx h H).objs.size=h.objs.size:=PySem.W.hideAll_size _ _
theorem N5{h:Heap}{H:Hp}{b:Addr}{o:Obj}(e:h.get? b=some o)(n:H b=none):(Hx h H).get? b=some o:=
 iW _ e λ hm=>by
  have q:(H b).isSome=true:=(aH.mp hm).2;rw[n] at q;simp at q
theorem Rv{h:Heap}{H:Hp}{b:Addr}{o:Obj}(e:(Hx h H).get? b=some o):h.get? b=some o/\H b=none:=by
 have e':h.get? b=some o:=jb (YO h H) e
 refine⟨e',?_⟩
 cases q:H b with
 |none=>rfl
 |some x=>
  have hm:b∈YO h H:=aH.mpr ⟨aF.mpr (Heap.lt_size e'),by simp[q]⟩;have z:(Hx h H).get? b=none:=PySem.W.hideAll_none (YO h H) hm;rw[z] at e;cases e
end L2
namespace L2
open PySem PySem.Spec PyProof.Rows
structure Mod(K:aj)(mg:Str->Option Value)(base:Heap):Prop where
 Ua:K.In base
 glob:base.Ns mainGlobals mg
 blt:∃mb,base.Ns builtinsNs mb/\∀x:Str,x≠"__name__"->mb x=bootBuiltins x
 nolimit:base.NoLimit
structure Cx where
 prog:Program
 w:World
 K:aj
 mg:Str->Option Value
 base:Heap
 A:Around
 N:List Str
 Ey:Shared
 Ub:Hp
 env:Env
 outer:List Env
 stack:List Env
 ex:List Addr
 fn:Str->Bool
 calm:Bool
 pn:List (Addr×Obj)
 xe:Value->Shared->Prop
def frs(l:List Env):List Addr:=l.filterMap (·.frame)
abbrev Cx.fs(X:Cx):List Addr:=frs X.outer
def Rw(sc:Scope)(x:Str):Prop:=sc.names.lookup x=some .local\/sc.names.lookup x=some .cell\/sc.names.lookup x=some .free
def Loc(sc:Scope)(x:Str):Prop:=sc.names.lookup x=some .local\/sc.names.lookup x=some .cell
def Look(env:Env)(h:Heap)(m:Str->Option Value)(x:Str)(u:Value):Prop:=
 (env.kindOf x=some .local/\m x=some u)\/((env.kindOf x=some .cell\/env.kindOf x=some .free)/\∃c,env.cells.lookup x=some c/\h.IsCell c (some u))
structure Cx.Ok(X:Cx):Prop where
 mod:Mod X.K X.mg X.base
 kind:X.env.scope.kind=.function
 glob:X.env.globals=mainGlobals
 blt:X.env.builtins=builtinsNs
 above:X.Ey.heap.objs.size<=X.env.locals
 inj:∀x y c,X.env.cells.lookup x=some c->X.env.cells.lookup y=some c->x=y
 has:∀x,(X.env.kindOf x=some .cell\/X.env.kindOf x=some .free)->∃c,X.env.cells.lookup x=some c
 YQ:∀x c,X.fn x=true->X.env.cells.lookup x=some c->X.Ey.heap.objs.size<=c
 hd:X.calm=true->X.A.handled=none
 frames:X.A.frames=some X.stack
 Ry:X.stack=X.outer\/(X.stack=X.env::X.outer/\X.env.frame=some X.env.locals)
 Zo:∀b∈X.ex,b≠X.env.locals/\∀x c,X.env.cells.lookup x=some c->c≠b
 bs:∀b o,X.base.get? b=some o->X.Ey.heap.get? b=some o/\X.Ub b=none
 Rn:X.base.objs.size<=X.Ey.heap.objs.size
 Rz:∀b o,X.base.get? b=some o->b ∉ X.ex
 RA:∀b∈X.ex,b ∉ X.fs
 BI:X.Ey.heap.FunFrames X.base X.outer
 U4:∀b∈X.fs,X.Ub b=none
structure Inv(X:Cx)(pins:List (Addr×Obj))(σ:List (Option V))(H:Hp)(s:Shared):Prop where
 ok:X.Ok
 os:s.os=X.Ey.os
 bare:AllBare s.gens
 base:Un X.fs X.ex X.Ub H X.Ey.heap s.heap
 loc:∃m,s.heap.Ns X.env.locals m/\∀(i:Nat) (x:Str) (v:V),X.N[i]? = some x->σ[i]? = some (some v)->Rw X.env.scope x->∃u,RelV v u/\Look X.env s.heap m x u
 cell:∀x c,X.env.cells.lookup x=some c->∃v,s.heap.IsCell c v
 free:H X.env.locals=none
 vD:∀x c,X.env.cells.lookup x=some c->H c=none
 pin:∀p∈X.pn++pins,s.heap.get? p.1=some p.2/\H p.1=none/\p.1≠X.env.locals/\p.1 ∉ X.fs/\∀v,p.2.data≠.cell v
 hok:Ax X.prog X.w H s.heap
 len:σ.length=X.N.length
section
variable{X:Cx}{pins:List (Addr×Obj)}{σ:List (Option V)}{H H':Hp}{s:Shared}{h':Heap}
theorem Cx.Ok.Zp(ok:X.Ok){b:Addr}{o:Obj}(e:X.base.get? b=some o):b ∉ X.fs:=λ hb=>by
 have:=(ok.BI.mem hb).1
 rw[e] at this;cases this
theorem Inv.bs(I:Inv X pins σ H s):∀b o,X.base.get? b=some o->s.heap.get? b=some o/\H b=none:=λ b o e=>
 ⟨I.base.keep b o (I.ok.bs b o e).1 (I.ok.bs b o e).2 (I.ok.Zp e) (I.ok.Rz b o e),I.base.free b o (I.ok.bs b o e).1 (I.ok.bs b o e).2 (I.ok.Rz b o e)⟩
theorem Inv.bk(I:Inv X pins σ H s):∀b o,X.base.get? b=some o->s.heap.get? b=some o:=λ b o e=>(I.bs b o e).1
theorem Inv.mod(I:Inv X pins σ H s):Mod X.K X.mg X.base:=I.ok.mod
theorem Inv.Jj(I:Inv X pins σ H s):X.K.In s.heap:=I.ok.mod.Ua.keeps I.bk
theorem Inv.nolimit(I:Inv X pins σ H s):s.heap.NoLimit:=I.ok.mod.nolimit.keeps I.bk
theorem Inv.fr(I:Inv X pins σ H s):∃m,Fr X.base X.env.locals s.heap m:=
 let ⟨m,hn,_⟩:=I.loc
 ⟨m,hn,I.bk,bf I.ok.Rn I.ok.above⟩
theorem Inv.lt(I:Inv X pins σ H s):X.env.locals<s.heap.objs.size:=let ⟨_,hn,_⟩:=I.loc;hn.lt
theorem Inv.sz(I:Inv X pins σ H s):X.Ey.heap.objs.size<=s.heap.objs.size:=bf I.ok.above (bg I.lt)
theorem Inv.Zq(I:Inv X pins σ H s){a:Addr}(h:s.heap.objs.size<=a):a ∉ X.fs:=λ hb=>by
 obtain⟨_,o,ho,_⟩:=I.ok.BI.mem hb
 exact absurd (aM (Heap.lt_size ho) (bf I.sz h)) (bI _)
theorem Inv.U5(I:Inv X pins σ H s):∀x c,X.env.cells.lookup x=some c->c≠X.env.locals:=λ x c e z=>by
 obtain⟨v,o,ho,hd⟩:=I.cell x c e
 obtain⟨m,⟨o',es,ep,ho',hd',_⟩,_⟩:=I.loc
 rw[z,ho'] at ho;cases ho;rw[hd'] at hd;cases hd
theorem Inv.BI(I:Inv X pins σ H s):s.heap.FunFrames X.base X.outer:=by
 have all:∀(l:List Env),(∀b∈frs l,b∈X.fs)->X.Ey.heap.FunFrames X.base l->s.heap.FunFrames X.base l:=by
  intro l
  induction l with
  |nil=>intro _ _;trivial
  |cons env r ih=>
   intro hs hl;obtain⟨hk,⟨L,o,hf,hn,ho,hd⟩,hr⟩:=hl;have hL:L∈X.fs:=hs L (by unfold frs;rw[eY,hf];exact aQ);obtain⟨sl,e⟩:=I.base.slot L o ho (I.ok.U4 L hL) hL λ z=>I.ok.RA L z hL
   exact⟨hk,⟨L,_,hf,hn,e,hd⟩,ih (λ b hb=>hs b (by unfold frs;rw[eY,hf];exact aO _ hb)) hr⟩
 exact all X.outer (λ _ hb=>hb) I.ok.BI
theorem Inv.stack(I:Inv X pins σ H s):s.heap.FunFrames X.base X.stack:=by
 rcases I.ok.Ry with e | ⟨e,hf⟩
 ·rw[e];exact I.BI
 ·rw[e]
  obtain⟨m,hn,_⟩:=I.loc;refine .cons (by rw[I.ok.kind];decide) hf hn ?_ I.BI;exact Heap.get?_none_of_le (bf I.ok.Rn I.ok.above)
theorem Inv.Ce(I:Inv X pins σ H s):∀b∈frs X.stack,b∈X.env.locals::X.fs:=λ b hb=>by
 rcases I.ok.Ry with e | ⟨e,hf⟩
 ·rw[e] at hb;exact aO _ hb
 ·rw[e] at hb
  unfold frs at hb;rw[eY,hf] at hb;exact hb
theorem Inv.BW(I:Inv X pins σ H s):∀b∈frs X.stack,H b=none:=λ b hb=>by
 rcases aC.mp (I.Ce b hb) with e | hb
 ·rw[e];exact I.free
 ·obtain⟨_,o,ho,_⟩:=I.ok.BI.mem hb
  exact I.base.free b o ho (I.ok.U4 b hb) λ z=>I.ok.RA b z hb
theorem Inv.step{g':Array GenState}{t':Nat}{d':Drawn}{ch:List Addr}(I:Inv X pins σ H s)
  (hch:∀b∈ch,(b∈X.ex\/X.Ey.heap.objs.size<=b)/\b≠X.env.locals/\(∀x c,X.env.cells.lookup x=some c->c≠b)/\∀p∈X.pn++pins,p.1≠b)
  (keep:∀b o,b≠X.env.locals->b ∉ X.fs->b ∉ ch->s.heap.get? b=some o->H b=none->h'.get? b=some o)
  (slot:∀b o,b≠X.env.locals->b∈X.fs->b ∉ ch->s.heap.get? b=some o->H b=none->∃sl,h'.get? b=some { o with slots:=sl }) (free:∀b o,b ∉ ch->s.heap.get? b=some o->H b=none->H' b=none)
  (there:∀b o,b ∉ ch->s.heap.get? b=some o->∃o',h'.get? b=some o')
  (tups:∀b xs,H b=some (.tup xs)->H' b=some (.tup xs)) (Ew:∀b o u,H b=some (.NV o u)->H' b=some (.NV o u)) (Ex:∀b ps,H b=some (.Gr ps)->∃more,H' b=some (.Gr (ps++more)))
  (ns:∀m,s.heap.Ns X.env.locals m->h'.Ns X.env.locals m) (hok:Ax X.prog X.w H' h') (hg:AllBare g') :
  Inv X pins σ H' { s with heap:=h',gens:=g',drawn:=d',toks:=t' }:=by
 have neL:∀b o,X.Ey.heap.get? b=some o->b≠X.env.locals:=λ b o e=>aZ (aM (Heap.lt_size e) I.ok.above)
 have YR:∀b o,X.Ey.heap.get? b=some o->b ∉ X.ex->b ∉ ch:=λ b o e hx hb=>by
  rcases (hch b hb).1 with z | z
  ·exact hx z
  ·exact absurd (aM (Heap.lt_size e) z) (bI _)
 have cellK:∀x c,X.env.cells.lookup x=some c->∀v,s.heap.IsCell c v->h'.IsCell c v:=λ x c e v ⟨o,ho,hd⟩=>by
  have WZ:c ∉ ch:=λ z=>(hch c z).2.2.1 x c e rfl
  by_cases hc:c∈X.fs
  ·obtain⟨sl,q⟩:=slot c o (I.U5 x c e) hc WZ ho (I.vD x c e);exact⟨_,q,hd⟩
  ·exact⟨o,keep c o (I.U5 x c e) hc WZ ho (I.vD x c e),hd⟩
 refine⟨I.ok,I.os,hg,⟨λ b o e n hb hx=>?_,λ b o e n hb hx=>?_,λ b o e n hx=>?_,λ b o e hx=>?_,λ b xs e=>tups b xs (I.base.tups b xs e),λ b o xs e=>Ew b o xs (I.base.Ew b o xs e),λ b ps e=>?_⟩,?_,λ x c e=>?_,?_,λ x c e=>?_,λ p hp=>?_,hok,I.len⟩
 ·exact keep b o (neL b o e) hb (YR b o e hx) (I.base.keep b o e n hb hx) (I.base.free b o e n hx)
 ·obtain⟨sl,e1⟩:=I.base.slot b o e n hb hx
  obtain⟨YS,e2⟩:=slot b _ (neL b o e) hb (YR b o e hx) e1 (I.base.free b o e n hx);exact⟨YS,e2⟩
 ·obtain⟨o',e1⟩:=I.base.there b o e hx
  exact free b o' (YR b o e hx) e1 (I.base.free b o e n hx)
 ·obtain⟨o',e1⟩:=I.base.there b o e hx
  exact there b o' (YR b o e hx) e1
 ·obtain⟨m1,e1⟩:=I.base.Ex b ps e
  obtain⟨m2,e2⟩:=Ex b _ e1;exact⟨m1++m2,by rw[e2,Array.append_assoc]⟩
 ·obtain⟨m,hn,hl⟩:=I.loc
  refine⟨m,ns m hn,λ i x v e1 e2 e3=>?_⟩;obtain⟨u,r,l⟩:=hl i x v e1 e2 e3;refine⟨u,r,?_⟩
  rcases l with l | ⟨k,c,e,z⟩
  ·exact .inl l
  ·exact .inr ⟨k,c,e,cellK x c e _ z⟩
 ·obtain⟨v,z⟩:=I.cell x c e
  exact⟨v,cellK x c e v z⟩
 ·obtain⟨m,⟨o,_,_,ho,_⟩,_⟩:=I.loc
  exact free _ o (λ z=>(hch _ z).2.1 rfl) ho I.free
 ·obtain⟨v,o,ho,hd⟩:=I.cell x c e
  exact free c o (λ z=>(hch c z).2.2.1 x c e rfl) ho (I.vD x c e)
 ·obtain⟨e,n,ne,nf,d⟩:=I.pin p hp
  have WZ:p.1 ∉ ch:=λ z=>(hch p.1 z).2.2.2 p hp rfl
  exact⟨keep p.1 p.2 ne nf WZ e n,free p.1 p.2 WZ e n,ne,nf,d⟩
theorem Inv.un{t':Nat}(I:Inv X pins σ H s)(u:Un X.fs [] H H' s.heap h')(hok:Ax X.prog X.w H' h'):Inv X pins σ H' { s with heap:=h',toks:=t' }:=by
 obtain⟨m,⟨o,es,ep,ho,r⟩,_⟩:=id I.loc
 obtain⟨sl,hL⟩:=u.any ho I.free (by simp)
 exact I.step (g':=s.gens) (d':=s.drawn) (ch:=[]) (λ _ z=>nomatch z) (λ b o _ hb _ e n=>u.keep b o e n hb (by simp)) (λ b o _ hb _ e n=>u.slot b o e n hb (by simp)) (λ b o _ e n=>u.free b o e n (by simp)) (λ b o _ e=>u.there b o e (by simp)) u.tups u.Ew u.Ex (λ m' hm=>by
  obtain⟨o',es',U6,ho',r'⟩:=hm;rw[ho] at ho';cases ho';exact⟨_,es',U6,hL,r'⟩) hok I.bare
theorem Inv.call{g':Array GenState}{t':Nat}{d':Drawn}{ch:List Addr}(I:Inv X pins σ H s)(u:Un (frs X.stack) ch H H' s.heap h')(hok:Ax X.prog X.w H' h')(hg:AllBare g')
  (hch:∀b∈ch,(b∈X.ex\/X.Ey.heap.objs.size<=b)/\b≠X.env.locals/\(∀x c,X.env.cells.lookup x=some c->c≠b)/\∀p∈X.pn++pins,p.1≠b) :
  Inv X pins σ H' { s with heap:=h',gens:=g',drawn:=d',toks:=t' }:=by
 obtain⟨m,⟨o,es,ep,ho,r⟩,_⟩:=id I.loc
 obtain⟨sl,hL⟩:=u.any ho I.free λ z=>(hch _ z).2.1 rfl
 exact I.step (ch:=ch) hch (λ b o hL hb hc e n=>u.keep b o e n (λ z=>(aC.mp (I.Ce b z)).elim hL hb) hc) (λ b o _ _ hc e n=>u.any e n hc) (λ b o hc e n=>u.free b o e n hc) (λ b o hc e=>u.there b o e hc) u.tups u.Ew u.Ex (λ m' hm=>by
  obtain⟨o',es',U6,ho',r'⟩:=hm;rw[ho] at ho';cases ho';exact⟨_,es',U6,hL,r'⟩) hok hg
theorem Inv.turned{t':Nat}{it:Addr}(I:Inv X pins σ H s)(k:∀b o,b≠it->s.heap.get? b=some o->h'.get? b=some o)(hn:H it=none)(hL:it≠X.env.locals)
  (h1:it∈X.ex\/X.Ey.heap.objs.size<=it) (h2:∀x c,X.env.cells.lookup x=some c->c≠it) (h3:∀p∈X.pn++pins,p.1≠it):Inv X pins σ H { s with heap:=h',toks:=t' }:=by
 have Uc:∀b u,H b=some u->b≠it:=λ b u e z=>by rw[z,hn] at e;cases e
 refine I.step (g':=s.gens) (d':=s.drawn) (ch:=[it]) (λ b hb=>?_) (λ b o _ _ hc e _=>k b o (λ z=>hc (by simp[z])) e) (λ b o _ _ hc e _=>⟨o.slots,k b o (λ z=>hc (by simp[z])) e⟩) (λ _ _ _ _ n=>n)
  (λ b o hc e=>⟨o,k b o (λ z=>hc (by simp[z])) e⟩) (λ _ _ e=>e) (λ _ _ _ e=>e) (λ b ps e=>⟨#[],by rw[e];simp⟩) (λ m hm=>?_) (λ b u e=>?_) I.bare
 ·have e:b=it:=by simpa using hb
  subst e;exact⟨h1,hL,h2,h3⟩
 ·obtain⟨o,es,ep,ho,r⟩:=hm
  exact⟨o,es,ep,k _ o (Ne.symm hL) ho,r⟩
 ·refine (I.hok b u e).stay (λ c v hc q=>k c v ?_ q) (λ _ q=>q) λ _ _ q=>q
  rcases hc with z | z
  ·rw[z];exact Uc b u e
  ·exact Uc c _ z
theorem Inv.tok(I:Inv X pins σ H s)(t:Nat):Inv X pins σ H { s with toks:=t }:=I.un (h':=s.heap) (t':=t) Un.refl I.hok
theorem Inv.kept{t':Nat}(I:Inv X pins σ H s)(k:∀b u,s.heap.get? b=some u->h'.get? b=some u):Inv X pins σ H { s with heap:=h',toks:=t' }:=I.un (Un.kept k) (I.hok.kept k)
theorem Inv.laid{a:Addr}{o:HO}{t':Nat}(I:Inv X pins σ H s)(k:∀b u,s.heap.get? b=some u->h'.get? b=some u)(hp:s.heap.objs.size<=a)(new:pN X.prog X.w (upd H a o) h' a o) :
  Inv X pins σ (upd H a o) { s with heap:=h',toks:=t' }:=I.un (Un.laid k hp (I.hok.fresh hp)) (I.hok.laid k hp new)
theorem Inv.write{x e:Addr}{o:HO}{t':Nat}(I:Inv X pins σ H s)(mu:YN (H x))(he:e=x\/H e=some (.own x))(k:∀b u,b≠e->s.heap.get? b=some u->h'.get? b=some u)(Wz:∃u,h'.get? e=some u)
  (new:pN X.prog X.w (upd H x o) h' x o):Inv X pins σ (upd H x o) { s with heap:=h',toks:=t' }:=I.un (Un.write mu he k Wz) (I.hok.write mu he k Wz new)
theorem Inv.weak{σ':List (Option V)}(I:Inv X pins σ H s)(hl:σ'.length = σ.length)(w:∀(i:Nat) v,σ'[i]? = some (some v)->σ[i]? = some (some v)):Inv X pins σ' H s:=
 ⟨I.ok,I.os,I.bare,I.base,let ⟨m,hn,hl'⟩:=I.loc;⟨m,hn,λ i x v e1 e2 e3=>hl' i x v e1 (w i v e2) e3⟩,I.cell,I.free,I.vD,I.pin,I.hok,hl.trans I.len⟩
theorem Inv.KI{Ud:List (Addr×Obj)}(I:Inv X pins σ H s)(h:∀p∈Ud,s.heap.get? p.1=some p.2/\H p.1=none/\p.1≠X.env.locals/\p.1 ∉ X.fs/\∀v,p.2.data≠.cell v):Inv X Ud σ H s:=
 ⟨I.ok,I.os,I.bare,I.base,I.loc,I.cell,I.free,I.vD,λ p hp=>(aY.mp hp).elim (λ z=>I.pin p (f9 _ z)) (h p),I.hok,I.len⟩
theorem Cf{N:List Str}(hN:N.Nodup){i j:Nat}{x:Str}(a:N[i]? = some x)(b:N[j]? = some x):i=j:=by
 obtain⟨h1,e1⟩:=ao.mp a
 obtain⟨h2,e2⟩:=ao.mp b
 exact (List.getElem_inj hN).mp (e1.trans e2.symm)
theorem E1{M:Model}{A:Around}{E:Value->Shared->Prop}{i:Nat}{x:Str}{v:V}{u:Value}{Q:Unit->Shared->Prop}(I:Inv X pins σ H s)(hN:X.N.Nodup)(hi:X.N[i]? = some x)(hx:Loc X.env.scope x)(r:RelV v u)
  (h:∀s',Inv X pins (σ.set i (some v)) H s'->(∃a,Heap.SameBut a s.heap s'.heap/\(a=X.env.locals\/X.env.cells.lookup x=some a))->Q () s') (hf:X.fn x=true\/X.env.scope.names.lookup x=some .local:=by first | exact .inl rfl | exact .inr rfl | assumption):wpAny M A (storeName X.env x u) Q E s:=by
 obtain⟨m,hn,hl⟩:=id I.loc
 have hcls:(X.env.scope.kind == .class||(X.env.scope.kind == .module&&X.env.locals != X.env.globals))=false:=by rw[I.ok.kind];rfl
 have hiσ:i<σ.length:=by rw[I.len];exact (ao.mp hi).1
 have U5:=I.U5
 have tracked:∀{a:Addr} {h':Heap},(∃o,s.heap.get? a=some o/\H a=none)->Heap.SameBut a s.heap h'->Ax X.prog X.w H h':=λ {a h'} ha hs b ob e=>by
  obtain⟨_,_,hfree⟩:=ha;refine (I.hok b ob e).stay (λ c w' hc q=>(hs.2 c ?_).trans q) (λ _ q=>q) λ _ _ q=>q
  rintro rfl
  rcases hc with rfl | hc
  ·rw[hfree] at e;cases e
  ·rw[hfree] at hc;cases hc
 rcases hx with hk | hk
 ·refine wpAny_storeName_local hk hn (λ h' hn' hs=>?_) hcls
  obtain⟨oL,_,_,hoL,_⟩:=id hn;refine h _ ⟨I.ok,I.os,I.bare,⟨λ b o e n hb hx=>?_,λ b o e n hb hx=>?_,I.base.free,λ b o e hx=>?_,I.base.tups,I.base.Ew,I.base.Ex⟩,⟨_,hn',λ j y v' e1 e2 e3=>?_⟩,λ y c e=>?_,I.free,I.vD,λ p hp=>?_,tracked ⟨oL,hoL,I.free⟩ hs,by simpa using I.len⟩ ⟨_,hs,.inl rfl⟩
  ·exact (hs.2 b (aZ (aM (Heap.lt_size e) I.ok.above))).trans (I.base.keep b o e n hb hx)
  ·obtain⟨sl,e1⟩:=I.base.slot b o e n hb hx;exact⟨sl,(hs.2 b (aZ (aM (Heap.lt_size e) I.ok.above))).trans e1⟩
  ·obtain⟨o',e1⟩:=I.base.there b o e hx;exact⟨o',(hs.2 b (aZ (aM (Heap.lt_size e) I.ok.above))).trans e1⟩
  ·by_cases hj:j=i
   ·subst hj;rw[hi] at e1;cases e1;rw[fF hiσ] at e2
    cases e2;exact⟨u,r,.inl ⟨hk,by simp⟩⟩
   ·rw[gc (Ne.symm hj)] at e2;obtain⟨u',r',q⟩:=hl j y v' e1 e2 e3;refine⟨u',r',?_⟩
    rcases q with ⟨k,e⟩ | ⟨k,c,e,z⟩
    ·refine .inl ⟨k,?_⟩;have:y≠x:=λ e=>hj (Cf hN e1 (e ▸ hi))
     simp[this,e]
    ·exact .inr ⟨k,c,e,z.sameBut hs (U5 y c e)⟩
  ·obtain⟨w',z⟩:=I.cell y c e;exact⟨w',z.sameBut hs (U5 y c e)⟩
  ·obtain⟨e,n,ne,nf,d⟩:=I.pin p hp;exact⟨(hs.2 p.1 ne).trans e,n,ne,nf,d⟩
 ·have hfn:X.fn x=true:=by
   rcases hf with z | z
   ·exact z
   ·rw[z] at hk;cases hk
  obtain⟨c,hc⟩:=I.ok.has x (.inl hk);obtain⟨w',z⟩:=I.cell x c hc;refine wpAny_storeName_cell I.ok.kind hk hc z (λ h' hc' hs=>?_);obtain⟨oc,hoc,Zr⟩:=id z;refine h { s with heap:=h' } ⟨I.ok,I.os,I.bare,⟨λ b o e n hb hx=>?_,λ b o e n hb hx=>?_,I.base.free,λ b o e hx=>?_,I.base.tups,I.base.Ew,I.base.Ex⟩,⟨m,hn.sameBut hs (Ne.symm (U5 x c hc)),λ j y v' e1 e2 e3=>?_⟩,λ y c' e=>?_,I.free,I.vD,λ p hp=>?_,tracked ⟨oc,hoc,I.vD x c hc⟩ hs,by simpa using I.len⟩ ⟨c,hs,.inr hc⟩
  ·exact (hs.2 b (aZ (aM (Heap.lt_size e) (I.ok.YQ x c hfn hc)))).trans (I.base.keep b o e n hb hx)
  ·obtain⟨sl,e1⟩:=I.base.slot b o e n hb hx;exact⟨sl,(hs.2 b (aZ (aM (Heap.lt_size e) (I.ok.YQ x c hfn hc)))).trans e1⟩
  ·obtain⟨o',e1⟩:=I.base.there b o e hx;exact⟨o',(hs.2 b (aZ (aM (Heap.lt_size e) (I.ok.YQ x c hfn hc)))).trans e1⟩
  ·by_cases hj:j=i
   ·subst hj;rw[hi] at e1;cases e1;rw[fF hiσ] at e2
    cases e2;exact⟨u,r,.inr ⟨.inl hk,c,hc,hc'⟩⟩
   ·rw[gc (Ne.symm hj)] at e2;obtain⟨u',r',q⟩:=hl j y v' e1 e2 e3;refine⟨u',r',?_⟩
    rcases q with q | ⟨k,c',e,z'⟩
    ·exact .inl q
    ·refine .inr ⟨k,c',e,z'.sameBut hs ?_⟩;rintro rfl;exact hj (Cf hN e1 (I.ok.inj _ _ _ e hc ▸ hi))
  ·by_cases hcc:c'=c
   ·subst hcc;exact⟨_,hc'⟩
   ·obtain⟨w2,z2⟩:=I.cell y c' e;exact⟨w2,z2.sameBut hs hcc⟩
  ·obtain⟨e,n,ne,nf,d⟩:=I.pin p hp;refine⟨(hs.2 p.1 ?_).trans e,n,ne,nf,d⟩;intro q;rw[q,hoc] at e;have q':oc=p.2:=aW e;exact d w' (by rw[<-q'];exact Zr)
theorem Cg{M:Model}{A:Around}{E:Value->Shared->Prop}{i:Nat}{x:Str}{v:V}{u:Value}{Q:Unit->Shared->Prop}(I:Inv X pins σ H s)(hN:X.N.Nodup)(hi:X.N[i]? = some x)(hx:Loc X.env.scope x)(r:RelV v u)
  (h:∀s',Inv X pins (σ.set i (some v)) H s'->Q () s') (hf:X.fn x=true\/X.env.scope.names.lookup x=some .local:=by first | exact .inl rfl | exact .inr rfl | assumption):wpAny M A (storeName X.env x u) Q E s:=
 E1 I hN hi hx r (λ s' I' _=>h s' I') hf
theorem Inv.W0{s':Shared}{ch:List Addr}(I:Inv X pins σ H s)(ho:s'.os=s.os)(u:Un (frs X.stack) ch H H' s.heap s'.heap)(hok:Ax X.prog X.w H' s'.heap)(hg:AllBare s'.gens)
  (hch:∀b∈ch,(b∈X.ex\/X.Ey.heap.objs.size<=b)/\b≠X.env.locals/\(∀x c,X.env.cells.lookup x=some c->c≠b)/\∀p∈X.pn++pins,p.1≠b):Inv X pins σ H' s':=by
 obtain⟨h',g',d',t',o'⟩:=s'
 have e:o'=s.os:=ho
 subst e
 exact I.call (g':=g') (t':=t') (d':=d') u hok hg hch
end
abbrev XK:=Value->Option Addr->Hp->Prop
abbrev St:=List (Option V)
abbrev VK:=V->Hp->Prop
abbrev TE:=St->Hp->VK->Prop
abbrev TT:=St->Hp->(Bool->Hp->Prop)->Prop
abbrev TA:=St->Hp->(List V->Hp->Prop)->Prop
structure Ends where
 nx:St->Hp->Prop
 rt:VK
 bk:St->Hp->Prop:=λ _ _=>False
 ct:St->Hp->Prop:=λ _ _=>False
abbrev TS:=Ends->St->Hp->Prop
def EP(X:Cx)(pins:List (Addr×Obj))(σ:St)(Q:VK)(u:Value)(s':Shared):Prop:=∃v H',Inv X pins σ H' s'/\RelV v u/\Q v H'
def TP(X:Cx)(pins:List (Addr×Obj))(σ:St)(Q:Bool->Hp->Prop)(b:Bool)(s':Shared):Prop:=∃H',Inv X pins σ H' s'/\Q b H'
def AP(X:Cx)(pins:List (Addr×Obj))(σ:St)(Q:List V->Hp->Prop)(us:List Value)(s':Shared):Prop:=∃vs H',Inv X pins σ H' s'/\Vals vs us/\Q vs H'
def SP(X:Cx)(pins:List (Addr×Obj))(D:Ends)(f:Flow)(s':Shared):Prop:=
 match f with
 |.next=>∃σ' H',Inv X pins σ' H' s'/\D.nx σ' H'
 |.brk=>∃σ' H',Inv X pins σ' H' s'/\D.bk σ' H'
 |.cont=>∃σ' H',Inv X pins σ' H' s'/\D.ct σ' H'
 |.ret u=>∃v σ' H',Inv X pins σ' H' s'/\RelV v u/\D.rt v H'
def PE(X:Cx)(e:Expr)(t:TE):Prop:=
 ∀(pins:List (Addr×Obj)) (s:Shared) (σ:St) (H:Hp) (Q:VK),Inv X pins σ H s->t σ H Q->wpAny (model X.prog X.w) X.A (eval e X.env) (EP X pins σ Q) X.xe s
def PT(X:Cx)(e:Expr)(t:TT):Prop:=
 ∀(pins:List (Addr×Obj)) (s:Shared) (σ:St) (H:Hp) (Q:Bool->Hp->Prop),Inv X pins σ H s->t σ H Q->wpAny (model X.prog X.w) X.A (isTrue e X.env (eval e X.env)) (TP X pins σ Q) X.xe s
def PW(X:Cx)(e:Expr)(t:TT):Prop:=
 ∀(whole:Sem Value) (pins:List (Addr×Obj)) (s:Shared) (σ:St) (H:Hp) (Q:Bool->Hp->Prop),Inv X pins σ H s->t σ H Q->wpAny (model X.prog X.w) X.A (isTrue e X.env whole) (TP X pins σ Q) X.xe s
theorem PW.pt{X:Cx}{e:Expr}{t:TT}(h:PW X e t):PT X e t:=h _
def PA(X:Cx)(es:List Expr)(t:TA):Prop:=
 ∀(pos:Pos) (pins:List (Addr×Obj)) (s:Shared) (σ:St) (H:Hp) (Q:List V->Hp->Prop),Inv X pins σ H s->t σ H Q->wpAny (model X.prog X.w) X.A (spliced (backTo pos (starEach es X.env))) (AP X pins σ Q) X.xe s
def PS(X:Cx)(st:Stmt)(t:TS):Prop:=
 ∀(pins:List (Addr×Obj)) (s:Shared) (σ:St) (H:Hp) (D:Ends),Inv X pins σ H s->t D σ H->wpAny (model X.prog X.w) X.A (exec st X.env) (SP X pins D) X.xe s
def N7(X:Cx)(st:List Stmt)(t:TS):Prop:=
 ∀(pins:List (Addr×Obj)) (s:Shared) (σ:St) (H:Hp) (D:Ends),Inv X pins σ H s->t D σ H->wpAny (model X.prog X.w) X.A (execs st X.env) (SP X pins D) X.xe s
theorem mP{α:Type}{t:Sem α}{Q Q':α->Shared->Prop}{M:Model}{A:Around}{E:Value->Shared->Prop}{s:Shared}(h:wpAny M A t Q E s)(hQ:∀a s,Q a s->Q' a s):wpAny M A t Q' E s:=wpAny_mono h hQ λ _ _ x=>x
end L2
namespace L2
open PySem PySem.Spec PyProof.Rows
section
variable{X:Cx}
theorem bin{a b:Expr}{ta tb:TE}(ha:PE X a ta)(hb:PE X b tb){pins:List (Addr×Obj)}{s:Shared}{σ:St}{H:Hp}{R:V->V->Hp->Prop}(I:Inv X pins σ H s)(h:ta σ H λ x H1=>tb σ H1 λ y H2=>R x y H2)
  {α:Type} {Q:α->Shared->Prop} {f:Value->Value->Sem α}
  (hf:∀v u s2 x y H2,Inv X pins σ H2 s2->RelV x v->RelV y u->R x y H2->wpAny (model X.prog X.w) X.A (f v u) Q X.xe s2) :
  wpAny (model X.prog X.w) X.A (eval a X.env) (λ v s₁=>wpAny (model X.prog X.w) X.A (eval b X.env) (λ u s₂=>wpAny (model X.prog X.w) X.A (f v u) Q X.xe s₂) X.xe s₁) X.xe s:=by
 refine mP (ha pins s σ H _ I h) λ v s1 ⟨x,H1,I1,r1,q1⟩=>?_
 refine mP (hb pins s1 σ H1 _ I1 q1) λ u s2 ⟨y,H2,I2,r2,q2⟩=>?_
 exact hf v u s2 x y H2 I2 r1 r2 q2
def zg(i:Nat):TE:=λ σ H Q=>∃v,σ[i]? = some (some v)/\Q v H
def tC(v:V):TE:=λ _ H Q=>Q v H
theorem U7{i:Nat}{x:Str}{pos:Pos}(hN:X.N[i]? = some x)(hv:Rw X.env.scope x)(hd:(x==("__debug__":Str))=false:=by decide)(hcd:(x==("__classdict__":Str))=false:=by decide):PE X (.Name x pos) (zg i):=by
 intro pins s σ H Q I h
 obtain⟨v,e,h⟩:=h
 obtain⟨m,hn,hl⟩:=I.loc
 obtain⟨u,r,l⟩:=hl i x v hN e hv
 have fin:EP X pins σ Q u s:=⟨v,H,I,r,h⟩
 rcases l with ⟨hk,hm⟩ | ⟨hk,c,hc,hcell⟩
 ·exact wpAny_Name (wpAny_loadName_local I.ok.kind hk hn hm fin) hd
 ·rcases hk with hk | hk
  ·exact wpAny_Name (wpAny_loadName_cell I.ok.kind hk hc hcell fin) hd
  ·exact wpAny_Name (wpAny_loadName_free I.ok.kind hk hc hcell fin hcd) hd
theorem jL{i j pos}:PE X (.Constant (.int i) j pos) (tC (.int i)):=λ _ _ _ H _ I h=>wpAny_Constant_int ⟨.int i,H,I.tok _,⟨_,rfl⟩,h⟩
theorem Oa{b j pos}:PE X (.Constant (.bool b) j pos) (tC (.bl b)):=λ _ _ _ H _ I h=>Constant_bool ⟨.bl b,H,I,rfl,h⟩
def Gl(X:Cx)(x:Str):Prop:=X.env.kindOf x=some .globalImplicit
theorem u3{E:Value->Shared->Prop}{pins:List (Addr×Obj)}{s:Shared}{σ:St}{H:Hp}{x:Str}{u:Value}{pos:Pos}{Q:Value->Shared->Prop}(I:Inv X pins σ H s)(hg:Gl X x)(hm:X.mg x=some u)(h:Q u s)
  (hd:(x==("__debug__":Str))=false:=by decide):wpAny (model X.prog X.w) X.A (eval (.Name x pos) X.env) Q E s:=
 Calls.Name_function_global I.ok.kind hg (Calls.loadGlobal_global (by rw[I.ok.glob];exact I.mod.glob.keeps I.bk) hm h) hd
theorem yN{E:Value->Shared->Prop}{pins:List (Addr×Obj)}{s:Shared}{σ:St}{H:Hp}{x:Str}{u:Value}{pos:Pos}{Q:Value->Shared->Prop}(I:Inv X pins σ H s)(hg:Gl X x)(hm:X.mg x=none)(hv:bootBuiltins x=some u)(h:Q u s)
  (hn:x≠"__name__":=by decide) (hd:(x==("__debug__":Str))=false:=by decide):wpAny (model X.prog X.w) X.A (eval (.Name x pos) X.env) Q E s:=by
 obtain⟨mb,h1,h2⟩:=I.mod.blt
 exact Calls.Name_function_global I.ok.kind hg (Calls.loadGlobal_builtin (by rw[I.ok.glob];exact I.mod.glob.keeps I.bk) hm (by rw[I.ok.blt];exact h1.keeps I.bk) ((h2 x hn).trans hv) h) hd
theorem RB{x:Str}{v:V}{u:Value}{pos:Pos}(hg:Gl X x)(hm:X.mg x=some u)(r:RelV v u)(hd:(x==("__debug__":Str))=false:=by decide):PE X (.Name x pos) (tC v):=
 λ _ _ _ H _ I h=>u3 I hg hm ⟨v,H,I,r,h⟩ hd
variable{a b:Expr}{ta tb:TE}{pos:Pos}
def tB(t:TE):TT:=λ σ H Q=>t σ H λ x H1=>∃c,x=.bl c/\Q c H1
theorem pS{e:Expr}{t:TE}(h:PE X e t)(he:∀whole,isTrue e X.env whole=(do let v <-whole;standAt e.pos;holding [v] (truthy v)):=by intro _;rfl):PT X e (tB t):=by
 intro pins s σ H Q I hw
 refine isTrue_plain (mP (h pins s σ H _ I hw) λ v s1 ⟨x,H1,I1,r1,q1⟩=>?_) (he _)
 obtain⟨d,rfl,q⟩:=q1
 cases r1
 exact wpAny_truthy_bool ⟨H1,I1,q⟩
variable{tA YT:TT}{rest:List Expr}
def Zs(t u:TT):TT:=λ σ H Q=>t σ H λ c H1=>if c=true then u σ H1 Q else Q false H1
def tOr(t u:TT):TT:=λ σ H Q=>t σ H λ c H1=>if c=true then Q true H1 else u σ H1 Q
def Zt(t:TT):TT:=λ σ H Q=>t σ H λ c H1=>Q (!c) H1
theorem KJ(ha:PT X a tA):PW X (.BoolOp .And [a] pos) tA:=by
 intro wh pins s σ H Q I h
 refine isTrue_and (mP (ha pins s σ H Q I h) λ c s1 e=>?_)
 cases c with
 |true=>exact isTrue_and_nil e
 |false=>exact e
theorem Ob(ha:PT X a tA):PW X (.BoolOp .Or [a] pos) tA:=by
 intro wh pins s σ H Q I h
 refine isTrue_or (mP (ha pins s σ H Q I h) λ c s1 e=>?_)
 cases c with
 |false=>exact isTrue_or_nil e
 |true=>exact e
theorem Oc(ha:PT X a tA)(hb:PW X (.BoolOp .And (b::rest) pos) YT):PW X (.BoolOp .And (a::b::rest) pos) (Zs tA YT):=by
 intro wh pins s σ H Q I h
 refine isTrue_and (mP (ha pins s σ H _ I h) λ c s1 ⟨H1,I1,q1⟩=>?_)
 cases c with
 |true=>exact hb wh pins s1 σ H1 Q I1 q1
 |false=>exact⟨H1,I1,q1⟩
theorem Ue(ha:PT X a tA)(hb:PW X (.BoolOp .Or (b::rest) pos) YT):PW X (.BoolOp .Or (a::b::rest) pos) (tOr tA YT):=by
 intro wh pins s σ H Q I h
 refine isTrue_or (mP (ha pins s σ H _ I h) λ c s1 ⟨H1,I1,q1⟩=>?_)
 cases c with
 |true=>exact⟨H1,I1,q1⟩
 |false=>exact hb wh pins s1 σ H1 Q I1 q1
theorem Ci(ha:PT X a tA):PT X (.UnaryOp .Not a pos) (Zt tA):=by
 intro pins s σ H Q I h
 exact isTrue_not (ha pins s σ H (λ c H1=>Q (!c) H1) I h)
def Zu(ta tb:TE):TE:=λ σ H Q=>ta σ H λ x H1=>∃c,x=.bl c/\if c=true then Q (.bl true) H1 else tb σ H1 Q
theorem Ju{op}{t:TE}(h:PE X a t):PE X (.BoolOp op [a] pos) t:=λ pins s σ H Q I hw=>BoolOp_one (h pins s σ H Q I hw)
theorem KL(ha:PE X a ta)(hb:PE X (.BoolOp .Or (b::rest) pos) tb):PE X (.BoolOp .Or (a::b::rest) pos) (Zu ta tb):=by
 intro pins s σ H Q I h
 refine BoolOp_or (mP (ha pins s σ H _ I h) λ v s1 ⟨x,H1,I1,r1,q1⟩=>?_)
 obtain⟨c,rfl,q1⟩:=q1
 cases r1
 refine wpAny_truthy_bool ?_
 cases c with
 |false=>exact hb pins s1 σ H1 Q I1 q1
 |true=>exact⟨.bl true,H1,I1,rfl,q1⟩
def tIf(t:TT)(ta tb:TE):TE:=λ σ H Q=>t σ H λ c H1=>if c=true then ta σ H1 Q else tb σ H1 Q
theorem zh{c:Expr}(hc:PT X c tA)(ha:PE X a ta)(hb:PE X b tb):PE X (.IfExp c a b pos) (tIf tA ta tb):=by
 intro pins s σ H Q I h
 refine wpAny_IfExp (mP (hc pins s σ H _ I h) λ d s1 ⟨H1,I1,q1⟩=>?_)
 cases d with
 |true=>exact ha pins s1 σ H1 Q I1 q1
 |false=>exact hb pins s1 σ H1 Q I1 q1
end
end L2
namespace L2
open PySem PySem.Spec PyProof.Rows
def jO(K:aj)(H:Hp)(a:Addr)(xs:List V):Prop:=
 Rd H a (.lst xs) \/
  ∃(o:Obj) (its:Array Value) (n:Nat),K.lookup a=some o/\o.cls=.type "list"/\o.dict=none/\o.data=.seq its n/\its.size<=sizeLine/\Vals xs its.toList
def sQ(K:aj)(H:Hp)(a:Addr)(xs:List V):Prop:=
 Rd H a (.tup xs) \/
  ∃(o:Obj) (its:Array Value) (n:Nat),K.lookup a=some o/\o.cls=.type "tuple"/\o.data=.seq its n/\its.size<=sizeLine/\Vals xs its.toList
def Zv:Value->Option V
 |.none=>some .qZ
 |.bool b=>some (.bl b)
 |.int i _=>some (.int i)
 |.str x _=>some (.str x)
 |.bytes b _=>some (.KH b)
 |.float b _=>some (.YM b)
 |.ref a=>some (.ref a)
 |.type n=>some (.ty n)
 |_=>none
theorem RelV.abs{x:V}{u:Value}(r:RelV x u):Zv u=some x:=by
 cases x with
 |qZ=>cases r;rfl
 |bl _=>cases r;rfl
 |int _=>obtain⟨t,rfl⟩:=r;rfl
 |str _=>obtain⟨t,rfl⟩:=r;rfl
 |KH _=>obtain⟨t,rfl⟩:=r;rfl
 |YM _=>obtain⟨t,rfl⟩:=r;rfl
 |ref _=>cases r;rfl
 |ty _=>cases r;rfl
theorem RelV.inj{x y:V}{u:Value}(r:RelV x u)(q:RelV y u):x=y:=aW (r.abs.symm.trans q.abs)
theorem Vals.inj:∀{xs ys:List V}{us:List Value},Vals xs us->Vals ys us->xs=ys
 |_,_,_,.nil,.nil=>rfl
 |_,_,_,.cons r t,.cons r' t'=>by rw[r.inj r',Vals.inj t t']
section
variable{X:Cx}{pins:List (Addr×Obj)}{σ:St}{H:Hp}{s:Shared}{a:Addr}{xs ys:List V}
theorem jO.of{K:aj}(h:H a=some (.lst xs)):jO K H a xs:=.inl (.inl h)
theorem sQ.of{K:aj}(h:H a=some (.tup xs)):sQ K H a xs:=.inl (.inl h)
theorem Inv.list(I:Inv X pins σ H s)(h:jO X.K H a xs):∃its:List Value,Vals xs its/\PlainL s.heap a its.toArray/\xs.length<=sizeLine:=by
 rcases h with h | ⟨o,its,n,hk,hc,hd,hs,hz,r⟩
 ·obtain⟨z,its,n,r,e⟩:=h.ok I.hok
  exact⟨its,r,⟨_,n,e,rfl,rfl,rfl⟩,z⟩
 ·refine⟨its.toList,r,⟨o,n,I.Jj a o hk,hc,hd,by simpa using hs⟩,?_⟩
  have e:=r.length;simp only[dF] at e
  omega
theorem Inv.tuple(I:Inv X pins σ H s)(h:sQ X.K H a xs):∃its:List Value,Vals xs its/\IsTup s.heap a its.toArray/\xs.length<=sizeLine:=by
 rcases h with h | ⟨o,its,n,hk,hc,hs,hz,r⟩
 ·obtain⟨z,its,r,p⟩:=h.ok I.hok
  exact⟨its,r,p,z⟩
 ·refine⟨its.toList,r,⟨o,I.Jj a o hk,hc,n,by simpa using hs⟩,?_⟩
  have e:=r.length;simp only[dF] at e
  omega
theorem Inv.zj(I:Inv X pins σ H s)(h:jO X.K H a xs)(h':jO X.K H a ys):xs=ys:=by
 obtain⟨its,r,⟨o,n,e,_,_,d⟩,_⟩:=I.list h
 obtain⟨its',r',⟨o',n',e',_,_,d'⟩,_⟩:=I.list h'
 rw[e] at e';cases e'
 rw[d] at d'
 injection d' with d1 _
 have:its=its':=by simpa using congrArg Array.toList d1
 subst this
 exact r.inj r'
end
section
variable{X:Cx}{pins:List (Addr×Obj)}{σ:St}{H:Hp}{s:Shared}{E:Value->Shared->Prop}
end
section
variable{X:Cx}{st:Stmt}{rest:List Stmt}{t u:TS}{e:Expr}{te:TE}{pos:Pos}
def W2:TS:=λ D σ H=>D.nx σ H
def Jv(t u:TS):TS:=λ D σ H=>t { D with nx:=u D } σ H
theorem ny:N7 X [] W2:=λ _ _ σ H _ I h=>wpAny_execs_nil ⟨σ,H,I,h⟩
theorem jv(h1:PS X st t)(h2:N7 X rest u):N7 X (st::rest) (Jv t u):=by
 intro pins s σ H D I h
 refine wpAny_execs_cons (mP (h1 pins s σ H { D with nx:=u D } I h) λ f s1 q=>?_)
 cases f with
 |next=>
  obtain⟨σ',H',I',q⟩:=q;exact h2 pins s1 σ' H' D I' q
 |ret v=>exact q
 |brk=>exact q
 |cont=>exact q
theorem jy(h1:PS X st t):N7 X [st] t:=by
 intro pins s σ H D I h
 refine wpAny_execs_cons (mP (h1 pins s σ H D I h) λ f s1 q=>?_)
 cases f with
 |next=>exact wpAny_execs_nil q
 |ret v=>exact q
 |brk=>exact q
 |cont=>exact q
theorem Inv.quiet{pins:List (Addr×Obj)}{σ:St}{H:Hp}{s:Shared}(I:Inv X pins σ H s):interactive X.env=false:=by simp[interactive,I.ok.kind]
def Od(te:TE):TS:=λ D σ H=>te σ H λ _ H1=>D.nx σ H1
theorem j5(he:PE X e te)(hs:swapsWith e none pos.line X.env=pure false:=by rfl):PS X (.Expr e pos) (Od te):=by
 intro pins s σ H D I h
 exact wpAny_Expr_any (mP (he pins s σ H _ I h) λ v s1 ⟨x,H1,I1,r1,q1⟩=>⟨σ,H1,I1,q1⟩) I.quiet hs
def RC(te:TE):TS:=λ D σ H=>te σ H D.rt
theorem jP(he:PE X e te):PS X (.Return (some e) pos) (RC te):=by
 intro pins s σ H D I h
 exact wpAny_Return_some (mP (he pins s σ H _ I h) λ v s1 ⟨x,H1,I1,r1,q1⟩=>⟨x,σ,H1,I1,r1,q1⟩)
def Zw(c:TT)(t u:TS):TS:=λ D σ H=>c σ H λ b H1=>if b=true then t D σ H1 else u D σ H1
theorem qR{c:Expr}{a b:List Stmt}{tc:TT}(hc:PT X c tc)(ha:N7 X a t)(hb:N7 X b u):PS X (.If c a b pos) (Zw tc t u):=by
 intro pins s σ H D I h
 refine wpAny_If (mP (hc pins s σ H _ I h) λ d s1 ⟨H1,I1,q1⟩=>?_)
 cases d with
 |true=>exact ha pins s1 σ H1 D I1 q1
 |false=>exact hb pins s1 σ H1 D I1 q1
end
abbrev TG:=V->St->Hp->(St->Hp->Prop)->Prop
abbrev U8:=List V->St->Hp->(St->Hp->Prop)->Prop
def PG(X:Cx)(target:Expr)(t:TG):Prop:=
 ∀(pins:List (Addr×Obj)) (s:Shared) (σ:St) (H:Hp) (v:V) (u:Value) (Q:St->Hp->Prop),Inv X pins σ H s->RelV v u->t v σ H Q ->
  wpAny (model X.prog X.w) X.A (assign target X.env u) (λ _ s'=>∃σ' H',Inv X pins σ' H' s'/\Q σ' H') X.xe s
def YU(X:Cx)(ts:List Expr)(t:U8):Prop:=
 ∀(pins:List (Addr×Obj)) (s:Shared) (σ:St) (H:Hp) (vs:List V) (us:List Value) (Q:St->Hp->Prop),Inv X pins σ H s->Vals vs us->t vs σ H Q ->
  wpAny (model X.prog X.w) X.A (assignInOrder ((assignEach ts X.env).map (·.2)) us) (λ _ s'=>∃σ' H',Inv X pins σ' H' s'/\Q σ' H') X.xe s
abbrev Oe:=V->V->V->Hp->(Hp->Prop)->Prop
def U9(X:Cx)(t:Oe):Prop:=
 ∀(pins:List (Addr×Obj)) (s:Shared) (σ:St) (H:Hp) (o i v:V) (ov iv u:Value) (Q:Hp->Prop),Inv X pins σ H s->RelV o ov->RelV i iv->RelV v u->t o i v H Q ->
  wpAny (model X.prog X.w) X.A (setItem ov iv u) (λ _ s'=>∃H',Inv X pins σ H' s'/\Q H') X.xe s
abbrev WB:=V->V->Hp->VK->Prop
def Zx(X:Cx)(op:Operator)(t:WB):Prop:=
 ∀(pins:List (Addr×Obj)) (s:Shared) (σ:St) (H:Hp) (x y:V) (v u:Value) (Q:VK),Inv X pins σ H s->RelV x v->RelV y u->t x y H Q ->
  wpAny (model X.prog X.w) X.A (inplaceOp op v u) (EP X pins σ Q) X.xe s
section
variable{X:Cx}{pos:Pos}
def E2(i:Nat):TG:=λ v σ H Q=>Q (σ.set i (some v)) H
theorem j8{i:Nat}{x:Str}(hN:X.N.Nodup)(hi:X.N[i]? = some x)(hx:Loc X.env.scope x)(hf:X.fn x=true\/X.env.scope.names.lookup x=some .local:=by first | exact .inl rfl | exact .inr rfl | assumption):PG X (.Name x pos) (E2 i):=by
 intro pins s σ H v u Q I r h
 exact wpAny_assign_Name (Cg I hN hi hx r (λ s' I'=>⟨_,H,I',h⟩) hf)
def W3:U8:=λ vs σ H Q=>vs=[]/\Q σ H
def Of(t:TG)(u:U8):U8:=λ vs σ H Q=>∃v r,vs=v::r/\t v σ H λ σ' H'=>u r σ' H' Q
theorem RD:YU X [] W3:=by
 intro pins s σ H vs us Q I r h
 obtain⟨e,h⟩:=h
 subst e
 cases r
 exact assignInOrder_nil ⟨σ,H,I,h⟩
theorem Hy{e:Expr}{es:List Expr}{t:TG}{u:U8}(h1:PG X e t)(h2:YU X es u)
  (hs:(assignEach (e::es) X.env).map (·.2)=assign e X.env::(assignEach es X.env).map (·.2):=by rfl):YU X (e::es) (Of t u):=by
 intro pins s σ H vs us Q I r h
 obtain⟨v,vr,e1,h⟩:=h
 subst e1
 cases r with
 |cons r rr=>
  rw[hs];refine assignInOrder_cons (mP (h1 pins s σ H _ _ _ I r h) λ _ s1 ⟨σ1,H1,I1,q1⟩=>?_);exact h2 pins s1 σ1 H1 _ _ Q I1 rr q1
def W4(K:aj)(n:Nat)(t:U8):TG:=λ v σ H Q=>∃a xs,v=.ref a/\sQ K H a xs/\xs.length=n/\t xs σ H Q
theorem Va{es:List Expr}{k:Nat}{t:U8}{n:Nat}(hc:X.calm=true)(h:YU X es t)
  (hn:(assignEach es X.env).length=n:=by rfl) (hst:(assignEach es X.env).findIdx? (·.1)=none:=by rfl):PG X (.Tuple es k pos) (W4 X.K n t):=by
 intro pins s σ H v u Q I r hw
 obtain⟨a,xs,e1,hq,hl,hw⟩:=hw
 subst e1
 cases r
 obtain⟨its,rv,ht,hz⟩:=I.tuple hq
 refine assign_Tuple_tuple (I.ok.hd hc) ht (by simp[hn,<-hl,rv.length]) hst λ h' hx=>?_
 have I1:Inv X pins σ H { s with heap:=h' }:=I.kept (t':=s.toks) λ b o e=>hx b o (aZ (Heap.lt_size e)) e
 exact h pins _ σ H xs _ Q I1 (by simpa using rv) hw
def Zy(to ti:TE)(t:Oe):TG:=λ v σ H Q=>to σ H λ o H1=>ti σ H1 λ i H2=>t o i v H2 λ H3=>Q σ H3
theorem yO{o i:Expr}{to ti:TE}{t:Oe}(ho:PE X o to)(hi:PE X i ti)(hs:U9 X t)
  (ha:∀v,assign (.Subscript o i pos) X.env v=(do
   let ov <-holding [v] (eval o X.env)
   let iv <-holding [v,ov] (eval i X.env)
   standAt pos
   holding [v,ov,iv] (setItem ov iv v)
   release [v,ov,iv] []):=by intro _;rfl):PG X (.Subscript o i pos) (Zy to ti t):=by
 intro pins s σ H v u Q I r h
 rw[ha]
 refine wpAny_bind (wpAny_holding (mP (ho pins s σ H _ I h) λ ov s1 ⟨x,H1,I1,r1,q1⟩=>?_))
 refine wpAny_bind (wpAny_holding (mP (hi pins s1 σ H1 _ I1 q1) λ iv s2 ⟨y,H2,I2,r2,q2⟩=>?_))
 refine wpAny_bind (wpAny_standAt (wpAny_bind (wpAny_holding (mP (hs pins s2 σ H2 x y v ov iv u _ I2 r1 r2 r q2) λ _ s3 ⟨H3,I3,q3⟩=>?_))))
 exact wpAny_release ⟨σ,H3,I3,q3⟩
def Vb(te:TE)(g:TG):TS:=λ D σ H=>te σ H λ x H1=>g x σ H1 D.nx
theorem yP{tg e:Expr}{te:TE}{g:TG}(he:PE X e te)(hg:PG X tg g)(hs:swapsWithSole [tg] e pos.line X.env=pure false:=by rfl)(hw:swappedStores [tg] e X.env=pure none:=by rfl)
  (h1:(assignEach [tg] X.env).map (·.2)=[assign tg X.env]:=by rfl):PS X (.Assign [tg] e pos) (Vb te g):=by
 intro pins s σ H D I h
 refine wpAny_Assign_stores (mP (he pins s σ H _ I h) λ v s1 ⟨x,H1,I1,r1,q1⟩=>?_) hs hw
 rw[h1]
 exact mP (hg pins s1 σ H1 x v _ I1 r1 q1) λ _ s2 q=>q
theorem jV{i:Nat}{x:Str}{e:Expr}{te:TE}{pos':Pos}(hN:X.N.Nodup)(hi:X.N[i]? = some x)(hx:Loc X.env.scope x)(he:PE X e te)(hs:swapsWith e (some (.Name x pos')) pos.line X.env=pure false:=by rfl)(hf:X.fn x=true\/X.env.scope.names.lookup x=some .local:=by first | exact .inl rfl | exact .inr rfl | assumption) :
  PS X (.Assign [.Name x pos'] e pos) (Vb te (E2 i)):=by
 intro pins s σ H D I h
 refine wpAny_Assign_Name (mP (he pins s σ H _ I h) λ v s1 ⟨y,H1,I1,r1,q1⟩=>?_) hs
 exact Cg I1 hN hi hx r1 (λ s2 I2=>⟨_,H1,I2,q1⟩) hf
def Zz(i:Nat)(te:TE)(ti:WB):TS:=λ D σ H=>∃x,σ[i]? = some (some x)/\te σ H λ y H1=>ti x y H1 λ z H2=>D.nx (σ.set i (some z)) H2
theorem Vc{i:Nat}{x:Str}{e:Expr}{te:TE}{op:Operator}{ti:WB}{pos':Pos}(hN:X.N.Nodup)(hi:X.N[i]? = some x)(hx:Loc X.env.scope x)(he:PE X e te)(ho:Zx X op ti)(hf:X.fn x=true\/X.env.scope.names.lookup x=some .local:=by first | exact .inl rfl | exact .inr rfl | assumption) :
  PS X (.AugAssign (.Name x pos') op e pos) (Zz i te ti):=by
 intro pins s σ H D I h
 obtain⟨v,e1,h⟩:=h
 obtain⟨m,hn,hl⟩:=I.loc
 have ZA:Rw X.env.scope x:=by rcases hx with k | k;exact .inl k;exact .inr (.inl k)
 obtain⟨u,r,l⟩:=hl i x v hi e1 ZA
 refine wpAny_AugAssign_Name ?_
 have go:wpAny (model X.prog X.w) X.A (eval e X.env) (λ w s₂=>wpAny (model X.prog X.w) X.A (inplaceOp op u w) (λ r s₃=>wpAny (model X.prog X.w) X.A (storeName X.env x r) (λ _=>SP X pins D .next) X.xe s₃) X.xe s₂) X.xe s:=by
  refine mP (he pins s σ H _ I h) λ w s1 ⟨y,H1,I1,r1,q1⟩=>?_
  refine mP (ho pins s1 σ H1 v y u w _ I1 r r1 q1) λ z s2 ⟨zv,H2,I2,r2,q2⟩=>?_
  exact Cg I2 hN hi hx r2 (λ s3 I3=>⟨_,H2,I3,q2⟩) hf
 rcases l with ⟨hk,hm⟩ | ⟨hk,c,hc,hcell⟩
 ·exact wpAny_loadName_local I.ok.kind hk hn hm go
 ·rcases hk with hk | hk
  ·exact wpAny_loadName_cell I.ok.kind hk hc hcell go
  ·rcases hx with k | k
   ·have:X.env.scope.names.lookup x=some .free:=hk;rw[k] at this;cases this
   ·have:X.env.scope.names.lookup x=some .free:=hk;rw[k] at this;cases this
def W5(to ti te:TE)(RE:V->V->Hp->VK->Prop)(YV:WB)(RG:Oe):TS:=λ D σ H=>to σ H λ o H1=>ti σ H1 λ i H2=>RE o i H2 λ x H3=>te σ H3 λ y H4=>YV x y H4 λ z H5=>RG o i z H5 λ H6=>D.nx σ H6
def Xa(X:Cx)(t:V->V->Hp->VK->Prop):Prop:=
 ∀(pins:List (Addr×Obj)) (s:Shared) (σ:St) (H:Hp) (o i:V) (ov iv:Value) (Q:VK),Inv X pins σ H s->RelV o ov->RelV i iv->t o i H Q ->
  wpAny (model X.prog X.w) X.A (getItem ov iv) (EP X pins σ Q) X.xe s
theorem RH{o i e:Expr}{to ti te:TE}{RE:V->V->Hp->VK->Prop}{YV:WB}{RG:Oe}{op:Operator}{tpos:Pos}(ho:PE X o to)(hi:PE X i ti)(hg:Xa X RE)(he:PE X e te)(hp:Zx X op YV)(hs:U9 X RG)
  (ha:∀ov iv new,augStore i ov iv new=(do holding [new,ov,iv] (setItem ov iv new);release [new,ov,iv] [];pure .next):=by intros;rfl):PS X (.AugAssign (.Subscript o i tpos) op e pos) (W5 to ti te RE YV RG):=by
 intro pins s σ H D I h
 refine wpAny_AugAssign_SubscriptAny (mP (ho pins s σ H _ I h) λ ov s1 ⟨x1,H1,I1,r1,q1⟩=>?_) ha
 refine mP (hi pins s1 σ H1 _ I1 q1) λ iv s2 ⟨x2,H2,I2,r2,q2⟩=>?_
 refine mP (hg pins s2 σ H2 x1 x2 ov iv _ I2 r1 r2 q2) λ old s3 ⟨x3,H3,I3,r3,q3⟩=>?_
 refine mP (he pins s3 σ H3 _ I3 q3) λ v s4 ⟨x4,H4,I4,r4,q4⟩=>?_
 refine mP (hp pins s4 σ H4 x3 x4 old v _ I4 r3 r4 q4) λ new s5 ⟨x5,H5,I5,r5,q5⟩=>?_
 exact mP (hs pins s5 σ H5 x1 x2 x5 ov iv new _ I5 r1 r2 r5 q5) λ _ s6 ⟨H6,I6,q6⟩=>⟨σ,H6,I6,q6⟩
def ipI(f:Int->Int->Int):WB:=λ x y H Q=>∃i j,x=.int i/\y=.int j/\Q (.int (f i j)) H
theorem Vd:Zx X .Sub (ipI λ i j=>i-j):=by
 intro pins s σ H x y v u Q I r1 r2 h
 obtain⟨i,j,e1,e2,q⟩:=h
 subst e1;subst e2
 obtain⟨t,rfl⟩:=r1
 obtain⟨t',rfl⟩:=r2
 exact isub_int ⟨.int _,H,I.tok _,⟨_,rfl⟩,q⟩
end
section
variable{X:Cx}{pos:Pos}
def Ve(c:TT)(tb:TS):TS:=λ D σ H=>∃W:Nat->St->Hp->Prop,(∃m,W m σ H)/\∀m σ H,W m σ H ->
 c σ H λ b H1=>if b=true then ∃N:St->Hp->Prop,(∀σ' H',N σ' H'->∃m',m'<m/\W m' σ' H')/\tb { D with nx:=N,ct:=N,bk:=D.nx } σ H1 else D.nx σ H1
theorem nY{c:Expr}{body:List Stmt}{tc:TT}{tb:TS}(hp:PassesOwn (model X.prog X.w) X.A X.env X.xe)(hc:PT X c tc)(hb:N7 X body tb):PS X (.While c body [] pos) (Ve tc tb):=by
 intro pins s σ H D I h
 obtain⟨W,⟨m0,w0⟩,turn⟩:=h
 refine wpAny_While (codeAny_whileLoop (λ n s'=>∃σ' H',Inv X pins σ' H' s'/\W n σ' H') ?_ m0 ⟨σ,H,I,w0⟩)
 rintro n s1 ⟨σ1,H1,I1,w1⟩
 refine wpAny_passesOwn hp (mP (hc pins s1 σ1 H1 _ I1 (turn n σ1 H1 w1)) λ b s2 ⟨H2,I2,q2⟩=>?_)
 cases b with
 |true=>
  obtain⟨N,hN,q2⟩:=q2;rw[if_pos rfl];refine wpAny_passesOwn hp (mP (hb pins s2 σ1 H2 _ I2 q2) λ f s3 q3=>?_)
  cases f with
  |next=>
   obtain⟨σ3,H3,I3,n3⟩:=q3;obtain⟨m',hm,w3⟩:=hN σ3 H3 n3;exact⟨m',hm,σ3,H3,I3,w3⟩
  |cont=>
   obtain⟨σ3,H3,I3,n3⟩:=q3;obtain⟨m',hm,w3⟩:=hN σ3 H3 n3;exact⟨m',hm,σ3,H3,I3,w3⟩
  |brk=>exact q3
  |ret v=>exact q3
 |false=>
  rw[if_neg aP];exact wpAny_execs_nil ⟨σ1,H2,I2,q2⟩
end
structure It where
 go:Nat->Hp->Prop
 Og:Nat->Hp->V->Hp->Prop
 stop:Nat->Hp->Prop
def BJ(X:Cx)(pins:List (Addr×Obj))(H:Hp)(b:Addr):Prop:=
 H b=none/\b≠X.env.locals/\b ∉ X.fs/\(b∈X.ex\/X.Ey.heap.objs.size<=b)/\(∀x c,X.env.cells.lookup x=some c->c≠b)/\∀p∈X.pn++pins,p.1≠b
theorem Inv.Oh{X:Cx}{pins:List (Addr×Obj)}{σ:St}{H H':Hp}{s:Shared}{b:Addr}(I:Inv X pins σ H s)(hb:s.heap.objs.size<=b)(hn:H' b=none):BJ X pins H' b:=by
 refine⟨hn,fG (aM I.lt hb),I.Zq hb,.inr (bf I.sz hb),λ x c e z=>?_,λ p hp z=>?_⟩
 ·obtain⟨v,q⟩:=I.cell x c e
  exact absurd (aM q.lt (by rw[z];exact hb)) (bI _)
 ·exact absurd (aM (Heap.lt_size (I.pin p hp).1) (by rw[z];exact hb)) (bI _)
structure Turn(P:Program)(w:World)(K:aj)(tg:Expr)(J:It)(fp:List Addr)(it:Addr)(tn:Nat->Heap->Prop):Prop where
 mem:it∈fp
 obj:∀i h,tn i h->∀b∈fp,∃o,h.get? b=some o/\∀v,o.data≠.cell v
 keep:∀i h h',tn i h->(∀b∈fp,∀o,h.get? b=some o->h'.get? b=some o)->tn i h'
 item:∀(X:Cx),X.prog=P->X.w=w->X.K=K->X.calm=true->∀(i:Nat) (pins:List (Addr×Obj)) (s:Shared) (σ:St) (H:Hp) (E:Value->Shared->Prop),Inv X pins σ H s->(∀b∈fp,BJ X pins H b)->tn i s.heap->J.go i H ->
  wpAny (model P w) X.A (pyNext (.ref it)) (λ r s1=>∃u,r=some u /\
   wpAny (model P w) X.A (letOwnedTupleGo tg (.ref it) u) (λ _ s2=>∃x H',Inv X pins σ H' s2/\RelV x u/\J.Og i H x H'/\tn (i+1) s2.heap/\∀b∈fp,H' b=none) E s1) E s
 done:∀(X:Cx),X.prog=P->X.w=w->X.K=K->X.calm=true->∀(i:Nat) (pins:List (Addr×Obj)) (s:Shared) (σ:St) (H:Hp) (E:Value->Shared->Prop),Inv X pins σ H s->(∀b∈fp,BJ X pins H b)->tn i s.heap->J.stop i H ->
  wpAny (model P w) X.A (pyNext (.ref it)) (λ r s1=>r=none/\Inv X pins σ H s1) E s
 self:∀(A:Around) (i:Nat) (s:Shared) (Q:Value->Shared->Prop) (E:Value->Shared->Prop),tn i s.heap->Q (.ref it) s->wpAny (model P w) A (pyIter (.ref it)) Q E s
abbrev TI:=St->Hp->(It->Hp->Prop)->Prop
def PIE(X:Cx)(pins:List (Addr×Obj))(σ:St)(tg:Expr)(R:It->Hp->Prop)(itv:Value)(s2:Shared):Prop:=
 ∃(it:Addr) (fp:List Addr) (tn:Nat->Heap->Prop) (J:It) (H':Hp),itv=.ref it/\Inv X pins σ H' s2/\Turn X.prog X.w X.K tg J fp it tn/\tn 0 s2.heap/\(∀b∈fp,BJ X pins H' b)/\R J H'
def PI(X:Cx)(tg iter:Expr)(wi:TI):Prop:=
 ∀(pins:List (Addr×Obj)) (s:Shared) (σ:St) (H:Hp) (R:It->Hp->Prop),Inv X pins σ H s->wi σ H R ->
  wpAny (model X.prog X.w) X.A (eval iter X.env) (λ v s1=>wpAny (model X.prog X.w) X.A (pyIter v) (PIE X pins σ tg R) X.xe s1) X.xe s
theorem Ug{M:Model}{A:Around}{E:Value->Shared->Prop}{s:Shared}{tg:Expr}{it:Addr}{u:Value}{o:Obj}{n:String}{vs:Array Value}{Q:Unit->Shared->Prop}(ho:s.heap.get? it=some o)(hc:o.cls=.type n)(hd:o.data=.fields vs)
  (hn:["enumerate","zip","dict_itemiterator","dict_reverseitemiterator","odict_iterator","itertools.zip_longest","itertools.pairwise"].contains n=false) (hQ:Q () s):wpAny M A (letOwnedTupleGo tg (.ref it) u) Q E s:=by
 unfold letOwnedTupleGo
 cases tg<;>first
  |exact wpAny_pure hQ
  | (cases u<;>first
    |exact wpAny_pure hQ
    | (refine wpAny_bind (wpAny_load ho ?_)
       rw[hc,hd];show wpAny M A (if (["enumerate","zip","dict_itemiterator","dict_reverseitemiterator","odict_iterator","itertools.zip_longest","itertools.pairwise"].contains n&&vs[0]? == some (rawInt _))=true then _ else _) Q E s;rw[if_neg (by intro h;rw[hn,Bool.false_and] at h;cases h)];exact wpAny_pure hQ))
def Uh(K:aj)(a:Addr):It:=
 ⟨λ i H=>∃xs x,jO K H a xs/\xs[i]? = some x,λ i H x H'=>H'=H/\∀xs,jO K H a xs->xs[i]? = some x,λ i H=>∃xs,jO K H a xs/\xs.length<=i⟩
def RI(lo:Int)(n:Nat):It:=⟨λ i _=>i<n,λ i H x H'=>H'=H/\x=.int (lo+i),λ i _=>n<=i⟩
theorem Mh{P:Program}{w:World}{K:aj}{tg:Expr}(a it:Addr):Turn P w K tg (Uh K a) [it] it (λ i h=>h.IsListIter it a i) where
 mem:=by simp
 obj:=λ i h st b hb=>by
  have e:b=it:=by simpa using hb
  subst e;obtain⟨o,e,c,d⟩:=st;exact⟨o,e,λ v z=>by rw[d] at z;cases z⟩
 keep:=λ i h h' st k=>st.at λ o e=>k it (by simp) o e
 item:=by
  intro X hP hw hK hc i pins s σ H E I hf st hg;subst hP hw hK;obtain⟨xs,x,hq,hx⟩:=hg;obtain⟨its,rv,p,hz⟩:=I.list hq;obtain⟨u,hu,ru⟩:=rv.get hx;obtain⟨f0,f1,f2,f3,f4,f5⟩:=hf it (by simp);refine wpAny_pyNext_list_item st p.isList (x:=u) (by simpa using hu) λ h' st' sb=>?_
  have I1:Inv X pins σ H { s with heap:=h' }:=I.turned (t':=s.toks) (λ b o hb e=>(sb.2 b hb).trans e) f0 f1 f3 f4 f5;obtain⟨o,e,c,d⟩:=id st';exact⟨u,rfl,Ug (s:={ s with heap:=h' }) e c d (by decide) ⟨x,H,I1,ru,⟨rfl,λ ys hy=>by rw[I.zj hy hq];exact hx⟩,st',λ b hb=>(hf b hb).1⟩⟩
 done:=by
  intro X hP hw hK hc i pins s σ H E I hf st hg;subst hP hw hK;obtain⟨xs,hq,hx⟩:=hg;obtain⟨its,rv,p,hz⟩:=I.list hq;obtain⟨f0,f1,f2,f3,f4,f5⟩:=hf it (by simp);have hl:=rv.length;exact wpAny_pyNext_list_end (I.ok.hd hc) st p.isList (by simp;omega) λ h' eb=>⟨rfl,I.turned (t':=s.toks) (λ b o hb e=>eb b o hb e) f0 f1 f3 f4 f5⟩
 self:=λ _ _ _ _ _ st h=>wpAny_pyIter_listiter st h
theorem Jw{P:Program}{w:World}{K:aj}{tg:Expr}(it:Addr)(lo:Int)(n:Nat):Turn P w K tg (RI lo n) [it] it (λ i h=>IsRangeIter h it (lo+(i:Nat)*1) ((n:Int)-(i:Nat)) 1) where
 mem:=by simp
 obj:=λ i h st b hb=>by
  have e:b=it:=by simpa using hb
  subst e;exact⟨_,st,λ v z=>by
   have z':Data.fields _=Data.cell v:=z
   cases z'⟩
 keep:=λ i h h' st k=>k it (by simp) _ st
 item:=by
  intro X hP hw hK hc i pins s σ H E I hf st hg;subst hP hw hK;obtain⟨f0,f1,f2,f3,f4,f5⟩:=hf it (by simp);have W:=Walks.range (prog:=X.prog) (w:=X.w) (I.ok.hd hc) it lo 1 n;refine W.item i s _ _ hg st λ v h' tk hv st' kk=>?_
  obtain⟨t,rfl⟩:=hv;have I1:Inv X pins σ H { s with heap:=h',toks:=tk }:=I.turned (λ b o hb e=>kk b o (by simpa using hb) e) f0 f1 f3 f4 f5;refine⟨_,rfl,Ug (s:={ s with heap:=h',toks:=tk }) (n:="range_iterator") st' rfl rfl (by decide) ⟨.int (lo+i),H,I1,⟨t,?_⟩,⟨rfl,rfl⟩,st',λ b hb=>(hf b hb).1⟩⟩;rw[Int.mul_one]
 done:=by
  intro X hP hw hK hc i pins s σ H E I hf st hg;subst hP hw hK;obtain⟨f0,f1,f2,f3,f4,f5⟩:=hf it (by simp);exact wpAny_pyNext_range_end (I.ok.hd hc) st (by have:n<=i:=hg;omega) λ h' eb=>⟨rfl,I.turned (t':=s.toks) (λ b o hb e=>eb b o hb e) f0 f1 f3 f4 f5⟩
 self:=λ _ _ _ _ _ st h=>wpAny_pyIter_rangeiter st h
end L2
namespace L2
open PySem PySem.Spec PyProof.Rows
section
variable{X:Cx}{tg:Expr}
def Ui(K:aj)(tl:TE):TI:=λ σ H R=>tl σ H λ x H1=>∃a,x=.ref a/\(∃xs,jO K H1 a xs)/\R (Uh K a) H1
theorem kL{l:Expr}{tl:TE}(hl:PE X l tl):PI X tg l (Ui X.K tl):=by
 intro pins s σ H R I h
 refine mP (hl pins s σ H _ I h) λ v s1 ⟨x,H1,I1,r1,q1⟩=>?_
 obtain⟨a,e,⟨xs,hq⟩,q⟩:=q1
 subst e
 cases r1
 obtain⟨its,rv,p,hz⟩:=I1.list hq
 refine wpAny_pyIter_list p.isList ?_
 refine⟨s1.heap.objs.size,[s1.heap.objs.size],_,_,H1,rfl,I1.kept (t':=s1.toks) λ b o e=>Heap.get?_push_of_some _ e,Mh a _,⟨_,Heap.get?_push_size _ rfl,rfl,rfl⟩,λ b hb=>?_,q⟩
 have e:b=s1.heap.objs.size:=by simpa using hb
 subst e
 exact I1.Oh (au _) (I1.hok.fresh (au _))
theorem Oi{pins:List (Addr×Obj)}{σ:St}{H:Hp}{s:Shared}{R:It->Hp->Prop}{E:Value->Shared->Prop}{lo hi:Int}{t u v:Tok}{tk:Nat}(I:Inv X pins σ H s)(h1:-(2^62)<=lo)(h2:lo<2^62)(h3:-(2^62)<=hi)(h4:hi<2^62)
  (q:R (RI lo (hi-lo).toNat) H):wpAny (model X.prog X.w) X.A (pyIter (.ref s.heap.objs.size)) (PIE X pins σ tg R) E { s with heap:=s.heap.push { cls:=.type "range",data:=.fields #[.int lo t,.int hi u,.int 1 v] },toks:=tk }:=by
 refine wpAny_pyIter_range (IsRange.new ..) (small_one h1 h2 h3 h4) ?_
 have I1:Inv X pins σ H { s with heap:=s.heap.push { cls:=.type "range",data:=.fields #[.int lo t,.int hi u,.int 1 v] },toks:=tk }:=I.kept λ b o e=>Heap.get?_push_of_some _ e
 refine⟨(s.heap.push { cls:=.type "range",data:=.fields #[.int lo t,.int hi u,.int 1 v] }).objs.size,[(s.heap.push { cls:=.type "range",data:=.fields #[.int lo t,.int hi u,.int 1 v] }).objs.size],_,_,H,rfl,
  I1.kept (t':=tk) λ b o e=>Heap.get?_push_of_some _ e,Jw _ lo (hi-lo).toNat,?_,λ b hb=>?_,q⟩
 ·have e1:lo+((0:Nat):Int)*1=lo:=by simp
  have e2:(((hi-lo).toNat:Nat):Int)-((0:Nat):Int)=Builtin.Range.rangeSize lo hi 1:=by rw[rangeSize_one];split<;>omega
  show IsRangeIter _ _ (lo+((0:Nat):Int)*1) ((((hi-lo).toNat:Nat):Int)-((0:Nat):Int)) 1;rw[e1,e2];exact Heap.get?_push_size _ rfl
 ·have e:b=(s.heap.push { cls:=.type "range",data:=.fields #[.int lo t,.int hi u,.int 1 v] }).objs.size:=by simpa using hb
  subst e;exact I1.Oh (au _) (I1.hok.fresh (au _))
def Xb(ta:TA):TI:=λ σ H R=>ta σ H λ vs H1=>∃j:Int,vs=[.int j]/\-(2^62)<=j/\j<2^62/\R (RI 0 j.toNat) H1
theorem ud{a:Expr}{ta:TA}{p pos:Pos}(hg:Gl X "range")(hm:X.mg "range" = none)(ha:PA X [a] ta)(hs:starEach [a] X.env=[(false,eval a X.env)]:=by rfl):PI X tg (.Call (.Name "range" p) [a] [] pos) (Xb ta):=by
 intro pins s σ H R I h
 refine Call_ (yN I hg hm boot_range (PyProof.Rows.callWith_type1 (mP (ha pos pins s σ H _ I h) λ us s1 ⟨vs,H1,I1,r1,q1⟩=>?_) hs rfl))
 obtain⟨j,e,q1,q2,q⟩:=q1
 subst e
 cases r1 with
 |cons r rr=>
  cases rr;obtain⟨t,rfl⟩:=r;exact call_range_1 (Oi I1 (by omega) (by omega) q1 q2 (by simpa using q))
def ZC(wi:TI)(g:TG)(tb:TS):TS:=λ D σ H=>wi σ H λ J H1=>∃W:Nat->Nat->St->Hp->Prop,(∃m,W 0 m σ H1)/\∀i m σ H,W i m σ H ->
 (J.stop i H/\D.nx σ H)\/(J.go i H/\∃N:St->Hp->Prop,(∀σ' H',N σ' H'->∃m',m'<m/\W (i+1) m' σ' H')/\∀x H',J.Og i H x H'->g x σ H' λ σ2 H2=>tb { D with nx:=N,ct:=N,bk:=D.nx } σ2 H2)
def Cj(fp:List Addr)(h:Heap):List (Addr×Obj):=fp.filterMap λ b=>(h.get? b).map λ o=>(b,o)
theorem yQ{fp:List Addr}{h:Heap}{b:Addr}{o:Obj}(hb:b∈fp)(e:h.get? b=some o):(b,o)∈Cj fp h:=fy.mpr ⟨b,hb,by rw[e];rfl⟩
theorem Mi{fp:List Addr}{h:Heap}{p:Addr×Obj}(hp:p∈Cj fp h):p.1∈fp/\h.get? p.1=some p.2:=by
 obtain⟨b,hb,e⟩:=fy.mp hp
 cases q:h.get? b with
 |none=>rw[q] at e;cases e
 |some o=>
  rw[q] at e;have e':(b,o)=p:=aW e;subst e';exact⟨hb,q⟩
theorem Inv.pinned{pins:List (Addr×Obj)}{σ:St}{H:Hp}{s:Shared}{fp:List Addr}(I:Inv X pins σ H s)(hf:∀b∈fp,BJ X pins H b)(ho:∀b∈fp,∃o,s.heap.get? b=some o/\∀v,o.data≠.cell v):Inv X (pins++Cj fp s.heap) σ H s:=
 I.KI λ p hp=>(aY.mp hp).elim (λ z=>I.pin p (bK _ z)) λ z=>by
  obtain⟨hb,e⟩:=Mi z;obtain⟨f0,f1,f2,_⟩:=hf p.1 hb;obtain⟨o,e',d⟩:=ho p.1 hb;rw[e] at e';cases e';exact⟨e,f0,f1,f2,d⟩
theorem Inv.zk{pins pl:List (Addr×Obj)}{σ:St}{H:Hp}{s:Shared}(I:Inv X (pins++pl) σ H s):Inv X pins σ H s:=I.KI λ p hp=>I.pin p (bK _ (f9 _ hp))
theorem oN{iter:Expr}{body:List Stmt}{wi:TI}{g:TG}{tb:TS}{pos:Pos}(hp:PassesOwn (model X.prog X.w) X.A X.env X.xe)(hc:X.calm=true)(hi:PI X tg iter wi)(hg:PG X tg g)(hb:N7 X body tb)
  (hs:∀x,foldedSetIterable iter X.env x=pure x:=by intro _;rfl):PS X (.For tg iter body [] pos) (ZC wi g tb):=by
 intro pins s σ H D I h
 refine wpAny_For (mP (hi pins s σ H _ I h) λ v s1 h1=>mP h1 λ itv s2 h2=>?_) hs
 obtain⟨it,fp,tn,J,H2,e,I2,T,st2,f2,W,⟨m0,w0⟩,turn⟩:=h2
 subst e
 have Jx:∀{H':Hp},(∀b∈fp,H' b=none)->∀b∈fp,BJ X pins H' b:=λ hn b hb=>⟨hn b hb,(f2 b hb).2⟩
 refine codeAny_forLoop_any (λ n s'=>∃i σ' H',Inv X pins σ' H' s'/\tn i s'.heap/\(∀b∈fp,H' b=none)/\W i n σ' H') ?_ m0 ⟨0,σ,H2,I2,st2,λ b hb=>(f2 b hb).1,w0⟩
 rintro n s3 ⟨i,σ3,H3,I3,st3,fr3,w3⟩
 rcases turn i n σ3 H3 w3 with ⟨stop,qn⟩ | ⟨go,N,hN,step⟩
 ·refine wpAny_passesOwn hp (mP (T.done X rfl rfl rfl hc i pins s3 σ3 H3 X.xe I3 (Jx fr3) st3 stop) λ r s4 ⟨hr,I4⟩=>?_)
  subst hr;exact wpAny_execs_nil ⟨σ3,H3,I4,qn⟩
 ·refine wpAny_passesOwn hp (mP (T.item X rfl rfl rfl hc i pins s3 σ3 H3 X.xe I3 (Jx fr3) st3 go) λ r s4 ⟨u,hr,h4⟩=>?_)
  subst hr;refine wpAny_passesOwn hp (mP h4 λ _ s5 ⟨x,H5,I5,r5,y5,WC,fr5⟩=>?_);have I5':=I5.pinned (Jx fr5) (T.obj _ _ WC);refine wpAny_passesOwn hp (mP (hg _ s5 σ3 H5 x u _ I5' r5 (step x H5 y5)) λ _ s6 ⟨σ6,H6,I6,q6⟩=>?_);refine wpAny_passesOwn hp (mP (hb _ s6 σ6 H6 _ I6 q6) λ f s7 q7=>?_);have again:∀{σ7:St} {H7:Hp},Inv X (pins++Cj fp s5.heap) σ7 H7 s7->N σ7 H7->∃m,m<n/\∃i σ' H',Inv X pins σ' H' s7/\tn i s7.heap/\(∀b∈fp,H' b=none)/\W i m σ' H':=λ {σ7 H7} I7 n7=>by
   obtain⟨m',hm,w7⟩:=hN σ7 H7 n7;refine⟨m',hm,i+1,σ7,H7,I7.zk,T.keep _ _ _ WC λ b hb o e=>(I7.pin (b,o) (bK _ (bK _ (yQ hb e)))).1,λ b hb=>?_,w7⟩;obtain⟨o,e,d⟩:=T.obj _ _ WC b hb;exact (I7.pin (b,o) (bK _ (bK _ (yQ hb e)))).2.1
  cases f with
  |next=>obtain⟨σ7,H7,I7,n7⟩:=q7;exact again I7 n7
  |cont=>obtain⟨σ7,H7,I7,n7⟩:=q7;exact again I7 n7
  |brk=>obtain⟨σ7,H7,I7,q7⟩:=q7;exact⟨σ7,H7,I7.zk,q7⟩
  |ret v=>obtain⟨x7,σ7,H7,I7,r7,q7⟩:=q7;exact⟨x7,σ7,H7,I7.zk,r7,q7⟩
end
theorem ue{K:aj}{a:Addr}{xs:List V}{g:TG}{tb:TS}{D:Ends}{σ:St}{H:Hp}(Pv:Nat->St->Hp->Prop)(h0:Pv 0 σ H)(hl:∀i σ H,i<=xs.length->Pv i σ H->jO K H a xs)
  (hs:∀i x σ H,xs[i]? = some x->Pv i σ H->g x σ H λ σ2 H2=>tb { D with nx:=Pv (i+1),ct:=Pv (i+1),bk:=D.nx } σ2 H2) (hd:∀σ H,Pv xs.length σ H->D.nx σ H) :
  ∃W:Nat->Nat->St->Hp->Prop,(∃m,W 0 m σ H)/\∀i m σ H,W i m σ H ->
   ((Uh K a).stop i H/\D.nx σ H)\/((Uh K a).go i H/\∃N:St->Hp->Prop,(∀σ' H',N σ' H'->∃m',m'<m/\W (i+1) m' σ' H')/\∀x H',(Uh K a).Og i H x H'->g x σ H' λ σ2 H2=>tb { D with nx:=N,ct:=N,bk:=D.nx } σ2 H2):=by
 refine⟨λ i m σ H=>m=xs.length-i/\i<=xs.length/\Pv i σ H,⟨xs.length,by simp,bq _,h0⟩,?_⟩
 rintro i m σ H ⟨rfl,hi,p⟩
 have q:=hl i σ H hi p
 by_cases hlt:i<xs.length
 ·refine .inr ⟨⟨xs,xs[i],q,by simp[hlt]⟩,Pv (i+1),λ σ' H' p'=>⟨xs.length-(i+1),by omega,rfl,hlt,p'⟩,λ x H' y=>?_⟩
  obtain⟨e,y⟩:=y;subst e;exact hs i x σ _ (y xs q) p
 ·have e:i=xs.length:=by omega
  subst e;exact .inl ⟨⟨xs,q,au _⟩,hd σ H p⟩
theorem Ay{lo:Int}{n:Nat}{g:TG}{tb:TS}{D:Ends}{σ:St}{H:Hp}(Pv:Nat->St->Hp->Prop)(h0:Pv 0 σ H)
  (hs:∀i σ H,i<n->Pv i σ H->g (.int (lo+i)) σ H λ σ2 H2=>tb { D with nx:=Pv (i+1),ct:=Pv (i+1),bk:=D.nx } σ2 H2) (hd:∀σ H,Pv n σ H->D.nx σ H) :
  ∃W:Nat->Nat->St->Hp->Prop,(∃m,W 0 m σ H)/\∀i m σ H,W i m σ H ->
   ((RI lo n).stop i H/\D.nx σ H)\/((RI lo n).go i H/\∃N:St->Hp->Prop,(∀σ' H',N σ' H'->∃m',m'<m/\W (i+1) m' σ' H')/\∀x H',(RI lo n).Og i H x H'->g x σ H' λ σ2 H2=>tb { D with nx:=N,ct:=N,bk:=D.nx } σ2 H2):=by
 refine⟨λ i m σ H=>m=n-i/\i<=n/\Pv i σ H,⟨n,by simp,bq _,h0⟩,?_⟩
 rintro i m σ H ⟨rfl,hi,p⟩
 by_cases hlt:i<n
 ·refine .inr ⟨hlt,Pv (i+1),λ σ' H' p'=>⟨n-(i+1),by omega,rfl,hlt,p'⟩,λ x H' y=>?_⟩
  obtain⟨e,y⟩:=y;subst e y;exact hs i σ _ hlt p
 ·have e:i=n:=by omega
  subst e;exact .inl ⟨au _,hd σ H p⟩
end L2
namespace L2
open PySem PySem.Spec PyProof.Rows
abbrev R2:=V->V->Hp->VK->Prop
def xN(X:Cx)(f:Value->Value->Sem Value)(r:R2):Prop:=
 ∀(pins:List (Addr×Obj)) (s:Shared) (σ:St) (H:Hp) (x y:V) (v u:Value) (Q:VK),Inv X pins σ H s->RelV x v->RelV y u->r x y H Q ->
  wpAny (model X.prog X.w) X.A (f v u) (EP X pins σ Q) X.xe s
def ZD(X:Cx)(f:Value->Sem Value)(r:V->Hp->VK->Prop):Prop:=
 ∀(pins:List (Addr×Obj)) (s:Shared) (σ:St) (H:Hp) (x:V) (v:Value) (Q:VK),Inv X pins σ H s->RelV x v->r x H Q ->
  wpAny (model X.prog X.w) X.A (f v) (EP X pins σ Q) X.xe s
def uf(X:Cx)(f:Value)(r:List V->Hp->VK->Prop):Prop:=
 ∀(pins:List (Addr×Obj)) (s:Shared) (σ:St) (H:Hp) (xs:List V) (us:List Value) (Q:VK),Inv X pins σ H s->Vals xs us->r xs H Q ->
  wpAny (model X.prog X.w) X.A (call f us) (EP X pins σ Q) X.xe s
def ZE(X:Cx)(r:V->Hp->(Bool->Hp->Prop)->Prop):Prop:=
 ∀(pins:List (Addr×Obj)) (s:Shared) (σ:St) (H:Hp) (x:V) (v:Value) (Q:Bool->Hp->Prop),Inv X pins σ H s->RelV x v->r x H Q ->
  wpAny (model X.prog X.w) X.A (truthy v) (TP X pins σ Q) X.xe s
def Uj(r:R2)(ta tb:TE):TE:=λ σ H Q=>ta σ H λ x H1=>tb σ H1 λ y H2=>r x y H2 Q
def tUn(r:V->Hp->VK->Prop)(ta:TE):TE:=λ σ H Q=>ta σ H λ x H1=>r x H1 Q
def rI(C:Int->Int->Prop)(g:Int->Int->V):R2:=λ x y H Q=>∃i j,x=.int i/\y=.int j/\C i j/\Q (g i j) H
def Jk(g:Int->Int->V):R2:=λ x y H Q=>∃i j,x=.int i/\y=.int j/\Q (g i j) H
def rU(g:Int->V):V->Hp->VK->Prop:=λ x H Q=>∃i,x=.int i/\Q (g i) H
section
variable{X:Cx}{a b c:Expr}{ta tb tc:TE}{pos:Pos}
theorem Vf(ha:PE X a ta)(hb:PE X b tb){pins:List (Addr×Obj)}{s:Shared}{σ:St}{H:Hp}{R:V->V->Hp->Prop}(I:Inv X pins σ H s)
  (h:ta σ H λ x H1=>tb σ H1 λ y H2=>R x y H2) {Q:Value->Shared->Prop} {f:Value->Value->Sem Value}
  (hf:∀v u s2 x y H2,Inv X pins σ H2 s2->RelV x v->RelV y u->R x y H2->wpAny (model X.prog X.w) X.A (f v u) Q X.xe s2) :
  wpAny (model X.prog X.w) X.A (eval a X.env) (λ v s₁=>wpAny (model X.prog X.w) X.A (eval b X.env) (λ u s₂=>wpAny (model X.prog X.w) X.A (f v u) Q X.xe s₂) X.xe s₁) X.xe s:=by
 refine mP (ha pins s σ H _ I h) λ v s1 ⟨x,H1,I1,r1,q1⟩=>?_
 refine mP (hb pins s1 σ H1 _ I1 q1) λ u s2 ⟨y,H2,I2,r2,q2⟩=>?_
 exact hf v u s2 x y H2 I2 r1 r2 q2
theorem kP{op:Operator}{r:R2}(ho:xN X (binaryOp op) r)(ha:PE X a ta)(hb:PE X b tb):PE X (.BinOp a op b pos) (Uj r ta tb):=by
 intro pins s σ H Q I h
 exact wpAny_BinOp (Vf ha hb I h λ v u s2 x y H2 I2 rx ry q=>ho pins s2 σ H2 x y v u Q I2 rx ry q)
theorem Cm{op:UnaryOp}{r:V->Hp->VK->Prop}(ho:ZD X (unaryOp op) r)(ha:PE X a ta):PE X (.UnaryOp op a pos) (tUn r ta):=by
 intro pins s σ H Q I h
 exact UnaryOp_ (mP (ha pins s σ H _ I h) λ v s1 ⟨x,H1,I1,r1,q1⟩=>ho pins s1 σ H1 x v Q I1 r1 q1)
theorem Vg{f:Value->Value->Sem Value}{C:Int->Int->Prop}{g:Int->Int->Int}
  (rule:∀(i j:Int) (t u:Tok) (s:Shared) (Q:Value->Shared->Prop) (E:Value->Shared->Prop),C i j->Q (.int (g i j) s.toks) { s with toks:=s.toks+1 }->wpAny (model X.prog X.w) X.A (f (.int i t) (.int j u)) Q E s) :
  xN X f (rI C λ i j=>.int (g i j)):=by
 intro pins s σ H x y v u Q I rx ry h
 obtain⟨i,j,rfl,rfl,hc,q⟩:=h
 obtain⟨t,rfl⟩:=rx
 obtain⟨t',rfl⟩:=ry
 exact rule i j t t' s _ _ hc ⟨.int (g i j),H,I.tok _,⟨_,rfl⟩,q⟩
theorem Vh{f:Value->Value->Sem Value}{g:Int->Int->Int}
  (rule:∀(i j:Int) (t u:Tok) (s:Shared) (Q:Value->Shared->Prop) (E:Value->Shared->Prop),Q (.int (g i j) s.toks) { s with toks:=s.toks+1 }->wpAny (model X.prog X.w) X.A (f (.int i t) (.int j u)) Q E s) :
  xN X f (Jk λ i j=>.int (g i j)):=by
 intro pins s σ H x y v u Q I rx ry h
 obtain⟨i,j,rfl,rfl,q⟩:=h
 obtain⟨t,rfl⟩:=rx
 obtain⟨t',rfl⟩:=ry
 exact rule i j t t' s _ _ ⟨.int (g i j),H,I.tok _,⟨_,rfl⟩,q⟩
theorem RJ{f:Value->Value->Sem Value}{g:Int->Int->Bool}
  (rule:∀(i j:Int) (t u:Tok) (s:Shared) (Q:Value->Shared->Prop) (E:Value->Shared->Prop),Q (.bool (g i j)) s->wpAny (model X.prog X.w) X.A (f (.int i t) (.int j u)) Q E s) :
  xN X f (Jk λ i j=>.bl (g i j)):=by
 intro pins s σ H x y v u Q I rx ry h
 obtain⟨i,j,rfl,rfl,q⟩:=h
 obtain⟨t,rfl⟩:=rx
 obtain⟨t',rfl⟩:=ry
 exact rule i j t t' s _ _ ⟨.bl (g i j),H,I,rfl,q⟩
def Xc(i j:Int):Prop:=0<j/\j<1073741824
def Vi(i j:Int):Prop:=(-(2^64)<i/\i<2^64)\/(-(2^64)<j/\j<2^64)
theorem Vi.ok{i j:Int}(h:Vi i j):IntMulOk i j:=by
 rcases h with ⟨h1,h2⟩ | ⟨h1,h2⟩
 ·exact .of_left (intBits_le_64 h1 h2)
 ·exact .of_right (intBits_le_64 h1 h2)
theorem Jy(k:Nat):(0:Int)<=2^k:=by
 rw[two_pow_cast]
 exact Int.natCast_nonneg _
theorem Cn:xN X (binaryOp .Add) (Jk λ i j=>.int (i+j)):=Vh λ _ _ _ _ _ _ _ q=>add_int q
theorem Gs:xN X (binaryOp .Sub) (Jk λ i j=>.int (i-j)):=Vh λ _ _ _ _ _ _ _ q=>sub_int q
theorem u4:xN X (binaryOp .Mult) (rI Vi λ i j=>.int (i*j)):=Vg λ _ _ _ _ _ _ _ hc q=>mul_int q hc.ok
theorem YW:xN X (binaryOp .FloorDiv) (rI Xc λ i j=>.int (i/j)):=Vg λ i j _ _ _ _ _ hc q=>by
 have h1:(0:Int)<j:=hc.1
 have h2:j<1073741824:=hc.2
 exact floordiv_int (by omega) (by rw[cY i (by omega)];exact q) (.inl (PyProof.noPylong_small (by omega)))
theorem Jz:xN X (binaryOp .Mod) (rI (λ _ j=>0<j) λ i j=>.int (i%j)):=Vg λ i j _ _ _ _ _ hc q=>by
 have h1:(0:Int)<j:=hc
 exact mod_int' (by omega) (by rw[Int.fmod_eq_emod_of_nonneg i (by omega)];exact q)
theorem Oj:xN X (binaryOp .RShift) (rI (λ _ j=>0<=j) λ i j=>.int (i/2^j.toNat)):=Vg λ i j _ _ _ _ _ hc q=>
 rshift_int hc (by rw[cY i (Jy _)];exact q)
theorem Vj:xN X (binaryOp .BitAnd) (Jk λ i j=>.int (Builtin.bitAnd i j)):=Vh λ _ _ _ _ _ _ _ q=>and_int q
theorem Ol:xN X (inplaceOp .FloorDiv) (rI Xc λ i j=>.int (i/j)):=Vg λ i j _ _ _ _ _ hc q=>by
 have h1:(0:Int)<j:=hc.1
 have h2:j<1073741824:=hc.2
 exact ifloordiv_int (by omega) (by rw[cY i (by omega)];exact q) (.inl (PyProof.noPylong_small (by omega)))
theorem unI{f:Value->Sem Value}{g:Int->Int}
  (rule:∀(i:Int) (t:Tok) (s:Shared) (Q:Value->Shared->Prop) (E:Value->Shared->Prop),Q (.int (g i) s.toks) { s with toks:=s.toks+1 }->wpAny (model X.prog X.w) X.A (f (.int i t)) Q E s) :
  ZD X f (rU λ i=>.int (g i)):=by
 intro pins s σ H x v Q I rx h
 obtain⟨i,rfl,q⟩:=h
 obtain⟨t,rfl⟩:=rx
 exact rule i t s _ _ ⟨.int (g i),H,I.tok _,⟨_,rfl⟩,q⟩
theorem yR:ZD X (unaryOp .USub) (rU λ i=>.int (-i)):=unI λ _ _ _ _ _ q=>neg_int q
end
def Xd:V->V->Bool
 |.qZ,.qZ=>true | .qZ,.int _=>true | .int _,.qZ=>true | .qZ,.bl _=>true | .bl _,.qZ=>true | .qZ,.str _=>true | .str _,.qZ=>true
 |.int _,.int _=>true | .bl _,.bl _=>true | .str _,.str _=>true | .KH _,.KH _=>true
 |.int _,.str _=>true | .str _,.int _=>true | .bl _,.str _=>true | .str _,.bl _=>true
 |_,_=>false
def rEq:R2:=λ x y H Q=>Xd x y=true/\Q (.bl (decide (x=y))) H
def rNe:R2:=λ x y H Q=>Xd x y=true/\Q (.bl (!decide (x=y))) H
theorem lD{i j:Int}:decide (V.int i=V.int j)=(i==j):=by
 rw[aX]
 simp
theorem Om{i j:Bool}:decide (V.bl i=V.bl j)=(i==j):=by
 rw[aX]
 simp
theorem KN{i j:Str}:decide (V.str i=V.str j)=(i==j):=by
 rw[aX]
 simp
theorem KO{i j:Array UInt8}:decide (V.KH i=V.KH j)=(i.toList==j.toList):=by
 rw[aX]
 cases i
 cases j
 simp
section
variable{X:Cx}{a b c:Expr}{ta tb tc:TE}{pos:Pos}
theorem kN{pins:List (Addr×Obj)}{σ:St}{H:Hp}{s:Shared}{Q:VK}{k k':Bool}(I:Inv X pins σ H s)(q:Q (.bl k) H)(e:k=k'):EP X pins σ Q (.bool k') s:=by
 subst e
 exact⟨.bl k,H,I,rfl,q⟩
theorem yb:xN X (compareOp .Eq) rEq:=by
 intro pins s σ H x y v u Q I rx ry h
 obtain⟨hs,q⟩:=h
 cases x with
 |qZ=>
  cases rx
  cases y with
  |qZ=>cases ry;exact PySem.EqNone.eq_none_none (kN I q (by simp))
  |bl j=>cases ry;exact PySem.EqNone.eq_none_bool (kN I q (by simp))
  |int j=>obtain⟨t',rfl⟩:=ry;exact PySem.EqNone.eq_none_int (kN I q (by simp))
  |str j=>obtain⟨t',rfl⟩:=ry;exact PySem.EqNone.eq_none_str (kN I q (by simp))
  |_=>exact absurd (show false=true from hs) aP
 |bl i=>
  cases rx
  cases y with
  |qZ=>cases ry;exact PySem.EqNone.eq_bool_none (kN I q (by simp))
  |bl j=>cases ry;exact eq_bool (kN I q Om)
  |str j=>obtain⟨t',rfl⟩:=ry;exact PySem.EqMixed.eq_bool_str (kN I q (by simp))
  |_=>exact absurd (show false=true from hs) aP
 |int i=>
  obtain⟨t,rfl⟩:=rx
  cases y with
  |qZ=>cases ry;exact PySem.EqNone.eq_int_none (kN I q (by simp))
  |int j=>obtain⟨t',rfl⟩:=ry;exact eq_int (kN I q lD)
  |str j=>obtain⟨t',rfl⟩:=ry;exact PySem.EqMixed.eq_int_str (kN I q (by simp))
  |_=>exact absurd (show false=true from hs) aP
 |str i=>
  obtain⟨t,rfl⟩:=rx
  cases y with
  |qZ=>cases ry;exact PySem.EqNone.eq_str_none (kN I q (by simp))
  |bl j=>cases ry;exact PySem.EqMixed.eq_str_bool (kN I q (by simp))
  |int j=>obtain⟨t',rfl⟩:=ry;exact PySem.EqMixed.eq_str_int (kN I q (by simp))
  |str j=>obtain⟨t',rfl⟩:=ry;exact eq_str (kN I q KN)
  |_=>exact absurd (show false=true from hs) aP
 |KH i=>
  obtain⟨t,rfl⟩:=rx
  cases y with
  |KH j=>obtain⟨t',rfl⟩:=ry;exact PySem.W.eq_bytes (kN I q KO)
  |_=>exact absurd (show false=true from hs) aP
 |_=>cases y<;>exact absurd (show false=true from hs) aP
theorem Fb:xN X (compareOp .NotEq) rNe:=by
 intro pins s σ H x y v u Q I rx ry h
 obtain⟨hs,q⟩:=h
 cases x with
 |qZ=>
  cases rx
  cases y with
  |qZ=>cases ry;exact PySem.EqNone.ne_none_none (kN I q (by simp))
  |bl j=>cases ry;exact PySem.EqNone.ne_none_bool (kN I q (by simp))
  |int j=>obtain⟨t',rfl⟩:=ry;exact PySem.EqNone.ne_none_int (kN I q (by simp))
  |str j=>obtain⟨t',rfl⟩:=ry;exact PySem.EqNone.ne_none_str (kN I q (by simp))
  |_=>exact absurd (show false=true from hs) aP
 |bl i=>
  cases rx
  cases y with
  |qZ=>cases ry;exact PySem.EqNone.ne_bool_none (kN I q (by simp))
  |bl j=>cases ry;exact ne_bool (kN I q (congrArg not Om))
  |str j=>obtain⟨t',rfl⟩:=ry;exact PySem.EqMixed.ne_bool_str (kN I q (by simp))
  |_=>exact absurd (show false=true from hs) aP
 |int i=>
  obtain⟨t,rfl⟩:=rx
  cases y with
  |qZ=>cases ry;exact PySem.EqNone.ne_int_none (kN I q (by simp))
  |int j=>obtain⟨t',rfl⟩:=ry;exact ne_int (kN I q (congrArg not lD))
  |str j=>obtain⟨t',rfl⟩:=ry;exact PySem.EqMixed.ne_int_str (kN I q (by simp))
  |_=>exact absurd (show false=true from hs) aP
 |str i=>
  obtain⟨t,rfl⟩:=rx
  cases y with
  |qZ=>cases ry;exact PySem.EqNone.ne_str_none (kN I q (by simp))
  |bl j=>cases ry;exact PySem.EqMixed.ne_str_bool (kN I q (by simp))
  |int j=>obtain⟨t',rfl⟩:=ry;exact PySem.EqMixed.ne_str_int (kN I q (by simp))
  |str j=>obtain⟨t',rfl⟩:=ry;exact ne_str (kN I q (congrArg not KN))
  |_=>exact absurd (show false=true from hs) aP
 |KH i=>
  obtain⟨t,rfl⟩:=rx
  cases y with
  |KH j=>obtain⟨t',rfl⟩:=ry;exact PySem.W.ne_bytes (kN I q (congrArg not KO))
  |_=>exact absurd (show false=true from hs) aP
 |_=>cases y<;>exact absurd (show false=true from hs) aP
theorem KP:xN X (compareOp .Lt) (Jk λ i j=>.bl (decide (i<j))):=RJ λ _ _ _ _ _ _ _ q=>lt_int q
theorem pB:xN X (compareOp .LtE) (Jk λ i j=>.bl (decide (i<=j))):=RJ λ _ _ _ _ _ _ _ q=>le_int q
theorem Uk:xN X (compareOp .Gt) (Jk λ i j=>.bl (decide (j<i))):=RJ λ _ _ _ _ _ _ _ q=>gt_int q
theorem Ul:xN X (compareOp .GtE) (Jk λ i j=>.bl (decide (j<=i))):=RJ λ _ _ _ _ _ _ _ q=>ge_int q
theorem kH(b:Expr){op:CmpOp}(h:op≠.In:=by decide)(h2:op≠.NotIn:=by decide):behindInMarks op b=false:=by
 have e1:(op==CmpOp.In)=false:=by cases op<;>first | rfl | exact absurd rfl h
 have e2:(op==CmpOp.NotIn)=false:=by cases op<;>first | rfl | exact absurd rfl h2
 cases b<;>simp[behindInMarks,e1,e2]
theorem nS{op:CmpOp}{r:R2}(ho:xN X (compareOp op) r)(ha:PE X a ta)(hb:PE X b tb)(hm:behindInMarks op b=false):PE X (.Compare a [op] [b] pos) (Uj r ta tb):=by
 intro pins s σ H Q I h
 exact wpAny_Compare1 (Vf ha hb I h λ v u s2 x y H2 I2 rx ry q=>ho pins s2 σ H2 x y v u Q I2 rx ry q) hm
def Oo(t:TE):TT:=λ σ H Q=>t σ H λ x H'=>∃k,x=.bl k/\Q k H'
theorem l6{op:CmpOp}{r:R2}(ho:xN X (compareOp op) r)(ha:PE X a ta)(hb:PE X b tb)(hm:behindInMarks op b=false):PT X (.Compare a [op] [b] pos) (Oo (Uj r ta tb)):=by
 intro pins s σ H Q I h
 refine wpAny_isTrue_Compare1 (mP (ha pins s σ H _ I h) λ v s1 ⟨x,H1,I1,r1,q1⟩=>mP (hb pins s1 σ H1 _ I1 q1) λ u s2 ⟨y,H2,I2,r2,q2⟩=>
  mP (ho pins s2 σ H2 x y v u _ I2 r1 r2 q2) λ c s3 ⟨z,H3,I3,r3,k,e,q3⟩=>?_) hm
 subst e
 cases r3
 exact wpAny_truthy_bool ⟨H3,I3,q3⟩
def Gu(r r':R2)(ta tb tc:TE):TE:=λ σ H Q=>ta σ H λ x H1=>tb σ H1 λ y H2=>r x y H2 λ z H3=>∃k,z=.bl k /\
 (if k=true then tc σ H3 λ w' H4=>r' y w' H4 Q else Q (.bl false) H3)
theorem ug{op op':CmpOp}{r r':R2}(ho:xN X (compareOp op) r)(ho':xN X (compareOp op') r')(ha:PE X a ta)(hb:PE X b tb)(hc:PE X c tc)
  (hm:lastMarks [op,op'] [b,c]=false:=by with_unfolding_all rfl):PE X (.Compare a [op,op'] [b,c] pos) (Gu r r' ta tb tc):=by
 intro pins s σ H Q I h
 refine Compare_chain (mP (ha pins s σ H _ I h) λ v s1 ⟨x,H1,I1,r1,q1⟩=>chain_link (mP (hb pins s1 σ H1 _ I1 q1) λ u s2 ⟨y,H2,I2,r2,q2⟩=>
  mP (ho pins s2 σ H2 x y v u _ I2 r1 r2 q2) λ d s3 ⟨z,H3,I3,r3,k,e,q3⟩=>?_)) hm
 subst e
 cases r3
 refine wpAny_truthy_bool ?_
 cases k with
 |false=>exact ite_ff ⟨.bl false,H3,I3,rfl,q3⟩
 |true=>exact ite_tt (chain_last (mP (hc pins s3 σ H3 _ I3 q3) λ w' s4 ⟨z',H4,I4,r4,q4⟩=>ho' pins s4 σ H4 y z' u w' Q I4 r2 r4 q4))
theorem Oq{op op':CmpOp}{r r':R2}(ho:xN X (compareOp op) r)(ho':xN X (compareOp op') r')(ha:PE X a ta)(hb:PE X b tb)(hc:PE X c tc)
  (hm:lastMarks [op,op'] [b,c]=false:=by with_unfolding_all rfl):PT X (.Compare a [op,op'] [b,c] pos) (Oo (Gu r r' ta tb tc)):=by
 intro pins s σ H Q I h
 refine isTrue_chain (mP (ha pins s σ H _ I h) λ v s1 ⟨x,H1,I1,r1,q1⟩=>test_link (mP (hb pins s1 σ H1 _ I1 q1) λ u s2 ⟨y,H2,I2,r2,q2⟩=>
  mP (ho pins s2 σ H2 x y v u _ I2 r1 r2 q2) λ d s3 ⟨z,H3,I3,r3,k,e,q3⟩=>?_)) hm
 subst e
 cases r3
 refine wpAny_truthy_bool ?_
 cases k with
 |false=>
  obtain⟨k',e',q'⟩:=q3
  cases e';exact ite_ff ⟨H3,I3,q'⟩
 |true=>
  refine ite_tt (test_last (mP (hc pins s3 σ H3 _ I3 q3) λ w' s4 ⟨z',H4,I4,r4,q4⟩=>mP (ho' pins s4 σ H4 y z' u w' _ I4 r2 r4 q4) λ d' s5 ⟨z2,H5,I5,r5,k2,e2,q5⟩=>?_));subst e2
  cases r5;exact wpAny_truthy_bool ⟨H5,I5,q5⟩
def Vk(K:aj)(x:V)(H:Hp)(k:Bool):Prop:=
 match x with
 |.qZ=>k=false
 |.bl b=>k=b
 |.int i=>k=(i != 0)
 |.str y=>y.length<=sizeLine/\k=((y.length:Int) != 0)
 |.KH y=>y.size<=sizeLine/\k=((y.size:Int) != 0)
 |.ref p=>(∃xs,jO K H p xs/\k = !xs.isEmpty)\/(∃xs,sQ K H p xs/\k = !xs.isEmpty)\/∃kvs,H p=some (.dK kvs)/\k = !kvs.isEmpty
 |_=>False
theorem JA{κ:Type}{kvs:List (κ×V)}{vs:List (κ×Value)}(r:KV kvs vs):(!vs.isEmpty) = !kvs.isEmpty:=by
 cases r<;>rfl
theorem Co{xs:List V}{its:List Value}(r:Vals xs its):(!its.toArray.isEmpty) = !xs.isEmpty:=by
 cases r<;>simp
theorem Cp:(sizeLine:Nat)<2^63:=by rw[sizeLine_eq];decide
theorem Vl:ZE X (λ x H Q=>∃k,Vk X.K x H k/\Q k H):=by
 intro pins s σ H x v Q I rx h
 obtain⟨k,e,q⟩:=h
 have hl:=Cp
 have hs:sizeLine=16777216:=sizeLine_eq
 cases x with
 |qZ=>
  cases rx;have e':k=false:=e;subst e';exact truthy_none ⟨H,I,q⟩
 |bl b=>
  cases rx;have e':k=b:=e;subst e';exact wpAny_truthy_bool ⟨H,I,q⟩
 |int i=>
  obtain⟨t,rfl⟩:=rx;have e':k=(i != 0):=e;subst e';exact jc ⟨H,I,q⟩
 |str y=>
  obtain⟨t,rfl⟩:=rx;obtain⟨hy,e'⟩:y.length<=sizeLine/\k=((y.length:Int) != 0):=e;subst e';exact PySem.P.truthy_str (by omega) ⟨H,I.tok _,q⟩
 |KH y=>
  obtain⟨t,rfl⟩:=rx;obtain⟨hy,e'⟩:y.size<=sizeLine/\k=((y.size:Int) != 0):=e;subst e';exact PySem.W.truthy_bytes (by omega) ⟨H,I.tok _,q⟩
 |ref p=>
  cases rx;have e':(∃xs,jO X.K H p xs/\k = !xs.isEmpty)\/(∃xs,sQ X.K H p xs/\k = !xs.isEmpty)\/∃kvs,H p=some (.dK kvs)/\k = !kvs.isEmpty:=e
  rcases e' with ⟨xs,hx,e'⟩ | ⟨xs,hx,e'⟩ | ⟨kvs,hx,e'⟩
  ·subst e';obtain⟨its,r,pl,hz⟩:=I.list hx;have hlen:=r.length;exact wpAny_truthy_list pl.isList (by simp only[aD];omega) ⟨H,I.tok _,by rw[Co r];exact q⟩
  ·subst e';obtain⟨its,r,pl,hz⟩:=I.tuple hx;have hlen:=r.length;exact truthy_tuple pl (by simp only[aD];omega) ⟨H,I.tok _,by rw[Co r];exact q⟩
  ·subst e';obtain⟨hz,hS,vs,r,m⟩:kvs.length<=sizeLine/\(p==sysModules)=false/\∃vs,KV kvs vs/\s.heap.DictOf (lZ X.prog X.w) p vs:=I.hok p _ hx;have hlen:kvs.length=vs.length:=Paired.length r;exact wpAny_truthy_dict hS m (by omega) ⟨H,I.tok _,by rw[JA r];exact q⟩
 |_=>exact (show False from e).elim
theorem Ot(ha:PE X a ta)(he:∀whole,isTrue a X.env whole=(do let v <-whole;standAt a.pos;holding [v] (truthy v))) :
  PT X a (λ σ H Q=>ta σ H λ x H'=>∃k,Vk X.K x H' k/\Q k H'):=by
 intro pins s σ H Q I h
 exact isTrue_plain (mP (ha pins s σ H _ I h) λ v s1 ⟨x,H1,I1,r1,q1⟩=>Vl pins s1 σ H1 x v Q I1 r1 q1) (he _)
theorem vals1{x:V}{us:List Value}(r:Vals [x] us):∃u,us=[u]/\RelV x u:=by
 cases r with
 |cons r1 r2=>cases r2;exact⟨_,rfl,r1⟩
theorem Ou:uf X (.builtin "abs") (λ xs H Q=>∃i,xs=[.int i]/\Q (.int (if i<0 then -i else i)) H):=by
 intro pins s σ H xs us Q I r h
 obtain⟨i,rfl,q⟩:=h
 obtain⟨u,rfl,t,rfl⟩:=vals1 r
 exact call_abs_int λ u tk=>⟨.int (if i<0 then -i else i),H,I.tok _,⟨_,rfl⟩,q⟩
end
end L2
namespace L2
open PySem PySem.Spec PyProof.Rows
structure JB(h:Heap)(x dx C:Addr)(mA:Str->Option Value):Prop where
 obj:h.get? x=some (cS C dx)
 ns:h.Ns1 dx mA
 ne:dx≠x
theorem Mj{h:Heap}{dx:Addr}{mA:Str->Option Value}(n:h.Ns1 dx mA):∃od,h.get? dx=some od/\∀name,gA name od=some (mA name):=by
 obtain⟨o,es,ep,ho,hd,hk,_,hm⟩:=n
 refine⟨o,ho,λ name=>?_⟩
 have e:=hm name
 unfold nsFind findBy at e
 rw[<-Array.find?_toList] at e
 unfold gA
 rw[hd]
 dsimp only
 split
 ·rename_i y q
  rw[q] at e;exact congrArg some e
 ·rename_i q
  rw[q] at e;have a:es.toList.any (·.refKey)=false:=by
   rw[gS];intro y hy;obtain⟨z,t,hkey⟩:=hk y (Array.mem_toList_iff.mp hy);simp[DictEntry.refKey,hkey]
  have a':¬es.toList.any (·.refKey)=true:=by rw[a];exact aP
  rw[if_neg a'];exact congrArg some e
theorem JB.look{h:Heap}{x dx C:Addr}{mA:Str->Option Value}(I:JB h x dx C mA):∃od,PySem.W.InstAt h x (cS C dx) C (some od)/\∀name,gA name od=some (mA name):=
 let ⟨od,ho,hl⟩:=Mj I.ns
 ⟨od,⟨I.obj,rfl,rfl,ho⟩,hl⟩
section
variable{prog:Program}{w:World}{A:Around}{E:Value->Shared->Prop}{s:Shared}{K:aj}{x dx C f:Addr}{mA:Str->Option Value}{name:Str}{v:Value}
theorem get_map{expr:Bool}{Q:Value->Shared->Prop}(X:K.In s.heap)(I:JB s.heap x dx C mA)(hg:fV K C name=true)(hh:gT K C=true)
  (ha:cP K (.ref C) name=some none) (hv:mA name=some v) (hv':jo v=true) (h:Q v { s with toks:=s.toks+1 }) :
  wpAny (model prog w) A (getAttr (.ref x) name expr) Q E s:=by
 obtain⟨od,J,hl⟩:=I.look
 exact PySem.W.get_value X J (gu hg).1 (PySem.W.findObj_own hh ha rfl (by rw[hl,hv])) hv' h
theorem Ov{pl:Sem Bool}{Q:Value×List Value->Shared->Prop}(X:K.In s.heap)(I:JB s.heap x dx C mA)(hg:fV K C name=true)
  (hf:cP K (.ref C) name=some (some (.ref f))) (ht:jf K (.ref f)=true) (hv:mA name=none) (h:Q (.ref f,[.ref x]) s) :
  wpAny (model prog w) A (getMethod (.ref x) name pl) Q E s:=by
 obtain⟨od,J,hl⟩:=I.look
 exact PySem.W.method_fn X J (gu hg).1 (gu hg).2 hf (beq_iff_eq.mp ht) (by show (gA name od).map (·.isSome)=some false;rw[hl,hv];rfl) h
theorem RK{ns:List Str}{Q:Unit->Shared->Prop}(X:K.In s.heap)(I:JB s.heap x dx C mA)
  (hs:cP K (.ref C) "__setattr__" = some (some (.builtin "object.__setattr__"))) (hp:jg K C=true) (ht:iG K C name=some none) (hh:gT K C=true)
  (hw:PySem.Within mA ns) (hsz:ns.length<=sizeLine)
  (h:∀h',JB h' x dx C (λ y=>if y=name then some v else mA y)->Heap.SameBut dx s.heap h'->Q () { s with heap:=h',toks:=s.toks+2 }) :
  wpAny (model prog w) A (setAttr (.ref x) name v) Q E s:=by
 obtain⟨od,J,hl⟩:=I.look
 refine PySem.W.set_plain X J hs (PySem.W.osa_open (s:={ s with toks:=s.toks+1 }) (r:=none) X J hp ht λ b=>?_)
 obtain⟨cd,hc,hd'⟩:=PySem.W.any_some hh
 have hx:s.heap.get? x=some ⟨.ref C,some dx,.plain,#[]⟩:=I.obj
 refine wpAny_bind (wpAny_pure (wpAny_bind (wpAny_bind (wpAny_loadPart hx (wpAny_bind (PySem.W.Looks.here (s:={ s with toks:=s.toks+1 }) (PySem.W.looks_clsIn X hc) ?_))))))
 rw[hd']
 refine wpAny_pure (a:=some dx) (wpAny_bind (wpAny_pure (wpAny_bind ?_)))
 refine wpAny_nsSet1 (s:={ s with toks:=s.toks+1 }) I.ns λ h' hn2 hs2=>?_
 obtain⟨oD,esD,epD,hoD,hdD,hcD⟩:=hn2.count (PySem.Within.cons name v hw)
 refine wpAny_bind (wpAny_lookBehind hoD (by rw[hdD];exact pastItsLine_dict (bf hcD (by rw[aK];omega))) ?_)
 exact wpAny_pure (h _ ⟨(hs2.2 _ (Ne.symm I.ne)).trans I.obj,hn2,I.ne⟩ hs2)
theorem Ow{R:Result->Shared->Prop}{vs:List Value}{kw:List (Str×Value)}(X:K.In s.heap)(hm:iH K C=true)
  (hi:cP K (.ref C) "__init__" = some (some (.ref f))) (hf:PySem.W.typeIn K (.ref f)=some (.type "function"))
  (h:codeAny (model prog w) (A.under (.builtin "type.__call__" ⟨.ref C::vs,kw⟩)) (.call (.ref f) ⟨.ref (s.heap.objs.size+1)::vs,kw⟩) (PySem.W.InitBack (s.heap.objs.size+1) R)
   { s with heap:=(s.heap.push bY).push (cS C s.heap.objs.size) }) :
  codeAny (model prog w) A (.call (.ref C) ⟨vs,kw⟩) R s:=by
 obtain⟨hh,g,d,t,os⟩:=s
 exact PySem.W.make_core (PySem.W.makes_of X hm) (PySem.W.looks_findIn X hi) (λ self=>PySem.W.bind_fn X self hf) (.inl rfl) h
end
def nZ(f:Str)(v:V):List (Str×V)->List (Str×V)
 |[]=>[(f,v)]
 | (g,x)::r=>if g=f then (g,v)::r else (g,x)::nZ f v r
theorem jI(f g:Str)(v:V):∀fs:List (Str×V),(nZ f v fs).lookup g=if g=f then some v else fs.lookup g
 |[]=>by
  show eB g [(f,v)]=_
  by_cases h:g=f
  ·have hb:(g==f)=true:=beq_iff_eq.mpr h;simp only[eB,hb,if_pos h]
  ·have hb:(g==f)=false:=beq_eq_false_iff_ne.mpr h;simp only[eB,hb,if_neg h]
 | (k,x)::r=>by
  have ih:=jI f g v r;rw[show nZ f v ((k,x)::r)=(if k=f then (k,v)::r else (k,x)::nZ f v r) from rfl]
  by_cases hk:k=f
  ·rw[if_pos hk]
   by_cases h:g=k
   ·have hb:(g==k)=true:=beq_iff_eq.mpr h;simp only[eB,hb,if_pos (h.trans hk)]
   ·have hb:(g==k)=false:=beq_eq_false_iff_ne.mpr h;simp only[eB,hb,if_neg (λ e:g=f=>h (e.trans hk.symm))]
  ·rw[if_neg hk]
   by_cases h:g=k
   ·have hb:(g==k)=true:=beq_iff_eq.mpr h;simp only[eB,hb,if_neg (λ e:g=f=>hk (h.symm.trans e))]
   ·have hb:(g==k)=false:=beq_eq_false_iff_ne.mpr h;simp only[eB,hb]
    exact ih
theorem Az(f:Str)(v:V):∀fs:List (Str×V),f∈(nZ f v fs).map (·.1)/\∀g,g∈fs.map (·.1)->g∈(nZ f v fs).map (·.1)
 |[]=>⟨by simp[nZ],λ g h=>by simp at h⟩
 | (k,x)::r=>by
  obtain⟨i1,i2⟩:=Az f v r;rw[show nZ f v ((k,x)::r)=(if k=f then (k,v)::r else (k,x)::nZ f v r) from rfl]
  by_cases hk:k=f
  ·rw[if_pos hk];subst hk;exact⟨by simp,λ g h=>by simpa using h⟩
  ·rw[if_neg hk];refine⟨?_,λ g h=>?_⟩
   ·rw[aS];exact aO _ i1
   ·rw[aS] at h ⊢
    rcases aC.mp h with e | e
    ·exact aC.mpr (.inl e)
    ·exact aO _ (i2 g e)
theorem Bd(f:Str)(v:V):∀fs:List (Str×V),(nZ f v fs).length<=fs.length+1
 |[]=>by simp[nZ]
 | (k,x)::r=>by
  have ih:=Bd f v r;rw[show nZ f v ((k,x)::r)=(if k=f then (k,v)::r else (k,x)::nZ f v r) from rfl]
  by_cases hk:k=f
  ·rw[if_pos hk,aK,aK];omega
  ·rw[if_neg hk,aK,aK];omega
theorem Eu.some_of{v:V}{o:Option Value}(r:Eu (some v) o):∃u,o=some u/\RelV v u:=by
 cases o with
 |none=>exact (show False from r).elim
 |some u=>exact⟨u,rfl,r⟩
theorem Eu.none_of{o:Option Value}(r:Eu none o):o=none:=by
 cases o with
 |none=>rfl
 |some u=>exact (show False from r).elim
theorem Ml{v:V}{u:Value}(r:RelV v u):jo u=true:=by
 cases v with
 |qZ=>cases (show u=Value.none from r);rfl
 |bl b=>cases (show u=Value.bool b from r);rfl
 |int i=>obtain⟨t,e⟩:=(show ∃t,u=Value.int i t from r);cases e;rfl
 |str x=>obtain⟨t,e⟩:=(show ∃t,u=Value.str x t from r);cases e;rfl
 |KH b=>obtain⟨t,e⟩:=(show ∃t,u=Value.bytes b t from r);cases e;rfl
 |YM b=>obtain⟨t,e⟩:=(show ∃t,u=Value.float b t from r);cases e;rfl
 |ref a=>cases (show u=Value.ref a from r);rfl
 |ty n=>cases (show u=Value.type n from r);rfl
section
variable{P:Program}{w:World}{H H':Hp}{h h':Heap}{a C dx:Addr}{fs fs':List (Str×V)}
theorem Gv(hok:Ax P w H h)(e:H a=some (.ins C dx fs)):∃mA,JB h a dx C mA/\(∀f,Eu (fs.lookup f) (mA f))/\PySem.Within mA (fs.map (·.1))/\fs.length<=1000/\H dx=some (.own a):=by
 obtain⟨d,z,ne,ob,mA,n,r,q⟩:=(show pN P w H h a (.ins C dx fs) from hok a _ e)
 exact⟨mA,⟨ob,n,ne⟩,r,q,z,d⟩
end
structure NW(K:aj)(C:Addr):Prop where
 pg:fV K C Str.empty=true
 hd:gT K C=true
 po:jg K C=true
 sa:cP K (.ref C) "__setattr__" = some (some (.builtin "object.__setattr__"))
theorem NW.get{K:aj}{C:Addr}(c:NW K C)(f:Str):fV K C f=true:=c.pg
def mU(K:aj)(C:Addr)(f:Str):Prop:=cP K (.ref C) f=some none
theorem mU.Xe{K:aj}{C:Addr}{f:Str}(n:mU K C f):iG K C f=some none:=by
 unfold iG
 rw[show cP K (.ref C) f=some none from n]
 rfl
structure Meth(K:aj)(C:Addr)(m:Str)(f:Addr):Prop where
 at_:cP K (.ref C) m=some (some (.ref f))
 fn:jf K (.ref f)=true
 kp:eE K (.ref f)=true
section
variable{X:Cx}{pins:List (Addr×Obj)}{σ:St}{H:Hp}{s:Shared}{a C dx:Addr}{fs:List (Str×V)}{f:Str}{v:V}{A:Around}{E:Value->Shared->Prop}
theorem Cq{b:Bool}{Q:Value->Shared->Prop}(I:Inv X pins σ H s)(e:H a=some (.ins C dx fs))(c:NW X.K C)(n:mU X.K C f)(l:fs.lookup f=some v)
  (h:∀u s',Inv X pins σ H s'->RelV v u->Q u s'):wpAny (model X.prog X.w) A (getAttr (.ref a) f b) Q E s:=by
 obtain⟨mA,O,r,_,_,_⟩:=Gv I.hok e
 obtain⟨u,hu,ru⟩:=Eu.some_of (v:=v) (o:=mA f) (by rw[<-l];exact r f)
 exact get_map I.Jj O (c.get f) c.hd n hu (Ml ru) (h u _ (I.tok _) ru)
theorem yS{m:Str}{g:Addr}{pl:Sem Bool}{Q:Value×List Value->Shared->Prop}(I:Inv X pins σ H s)(e:H a=some (.ins C dx fs))(c:NW X.K C)(k:Meth X.K C m g)(l:fs.lookup m=none)
  (h:Q (.ref g,[.ref a]) s):wpAny (model X.prog X.w) A (getMethod (.ref a) m pl) Q E s:=by
 obtain⟨mA,O,r,_,_,_⟩:=Gv I.hok e
 have hn:mA m=none:=Eu.none_of (by rw[<-l];exact r m)
 exact Ov I.Jj O (c.get m) k.at_ k.fn hn h
theorem Cr{y:V}{u:Value}{Q:Unit->Shared->Prop}(I:Inv X pins σ H s)(e:H a=some (.ins C dx fs))(c:NW X.K C)(n:mU X.K C f)(hl:fs.length<1000)(ry:RelV y u)
  (h:∀s',Inv X pins σ (upd H a (.ins C dx (nZ f y fs))) s'->Q () s'):wpAny (model X.prog X.w) A (setAttr (.ref a) f u) Q E s:=by
 obtain⟨mA,O,r,wi,_,ho⟩:=Gv I.hok e
 have hz:(fs.map (·.1)).length<=sizeLine:=by rw[ah,sizeLine_eq];omega
 refine RK I.Jj O c.sa c.po n.Xe c.hd wi hz λ h' O' sb=>h _ ?_
 have hd:∃o,h'.get? dx=some o:=let ⟨o,_,_,e',_⟩:=O'.ns;⟨o,e'⟩
 refine I.write (x:=a) (e:=dx) (by rw[e];exact True.intro) (.inr ho) (λ b q hb z=>(sb.2 b hb).trans z) hd ?_
 refine⟨by rw[jA O.ne];exact ho,?_,O.ne,O'.obj,_,O'.ns,λ g=>?_,λ g hg=>?_⟩
 ·have:=Bd f y fs;omega
 ·show Eu ((nZ f y fs).lookup g) (if g=f then some u else mA g)
  rw[jI]
  by_cases q:g=f
  ·rw[if_pos q,if_pos q];exact ry
  ·rw[if_neg q,if_neg q];exact r g
 ·by_cases q:g=f
  ·rw[q];exact (Az f y fs).1
  ·refine (Az f y fs).2 g (wi g λ z=>hg ?_);show (if g=f then some u else mA g)=none;rw[if_neg q];exact z
theorem Inv.made(I:Inv X pins σ H s):Inv X pins σ (upd (upd H s.heap.objs.size (.own (s.heap.objs.size+1))) (s.heap.objs.size+1) (.ins C s.heap.objs.size []))
  { s with heap:=(s.heap.push bY).push (cS C s.heap.objs.size) }:=by
 have e1:(s.heap.push bY).get? s.heap.objs.size=some bY:=Heap.get?_push_size s.heap rfl
 have e2:((s.heap.push bY).push (cS C s.heap.objs.size)).get? (s.heap.objs.size+1)=some (cS C s.heap.objs.size):=by
  have:=Heap.get?_push_size (s.heap.push bY) (o:=cS C s.heap.objs.size) rfl
  rwa [Heap.size_push] at this
 have e3:(s.heap.push bY).Ns s.heap.objs.size (λ _=>none):=⟨bY,#[],_,e1,rfl,(λ e he=>absurd he (by simp)),λ _=>rfl⟩
 have I1:=I.laid (a:=s.heap.objs.size) (o:=.own (s.heap.objs.size+1)) (h':=s.heap.push bY) (t':=s.toks) (λ b u q=>Heap.get?_push_of_some _ q) (au _) ⟨_,e1⟩
 refine I1.laid (a:=s.heap.objs.size+1) (o:=.ins C s.heap.objs.size []) (t':=s.toks) (λ b u q=>Heap.get?_push_of_some _ q) (iy (Heap.size_push _ _)) ?_
 have ne:s.heap.objs.size≠s.heap.objs.size+1:=aZ (aE _)
 refine⟨by rw[jA ne,ju],bq _,ne,e2,λ _=>none,(Heap.Ns1.of_empty e3).at λ o q=>Heap.get?_push_of_some _ q,λ _=>True.intro,λ y hy=>absurd rfl hy⟩
theorem RL{prog:Program}{w:World}{env:Env}{e:Expr}{f:Str}{pos:Pos}{s:Shared}{Q:Value->Shared->Prop}(hb:attributeBase e f env (eval e env)=eval e env)
  (h:wpAny (model prog w) A (eval e env) (λ o s₁=>wpAny (model prog w) A (getAttr o f true) Q E s₁) E s):wpAny (model prog w) A (eval (.Attribute e f pos) env) Q E s:=
 Attribute_any_ h (by rw[arm_eval_Attribute,hb])
end
def Ox(K:aj)(ta:TE)(f:Str):TE:=λ σ H Q=>ta σ H λ x H1=>∃a C dx fs v,x=.ref a/\H1 a=some (.ins C dx fs)/\NW K C/\mU K C f/\fs.lookup f=some v/\Q v H1
def ZF(K:aj)(ta tv:TE)(f:Str):TS:=λ D σ H=>tv σ H λ y H1=>ta σ H1 λ x H2=>∃a C dx fs,x=.ref a/\H2 a=some (.ins C dx fs)/\NW K C/\mU K C f/\fs.length<1000 /\
 D.nx σ (upd H2 a (.ins C dx (nZ f y fs)))
def Xf(X:Cx)(op:Operator)(rd:V->V->Hp->VK->Prop):Prop:=
 ∀(pins:List (Addr×Obj)) (s:Shared) (σ:St) (H:Hp) (x y:V) (u v:Value) (Q:VK),Inv X pins σ H s->RelV x u->RelV y v->rd x y H Q->wpAny (model X.prog X.w) X.A (inplaceOp op u v) (EP X pins σ Q) X.xe s
def RM(K:aj)(ta tv:TE)(rd:V->V->Hp->VK->Prop)(f:Str):TS:=λ D σ H=>ta σ H λ x H1=>∃a C dx fs v,x=.ref a/\H1 a=some (.ins C dx fs)/\NW K C/\mU K C f/\fs.lookup f=some v /\
 tv σ H1 λ y H2=>rd v y H2 λ z H3=>∃Xg fs',H3 a=some (.ins C Xg fs')/\fs'.length<1000/\D.nx σ (upd H3 a (.ins C Xg (nZ f z fs')))
section
variable{X:Cx}{o e value:Expr}{f:Str}{pos pos' tpos:Pos}{ta tv:TE}
theorem oO(he:PE X e ta)(hb:attributeBase e f X.env (eval e X.env)=eval e X.env):PE X (.Attribute e f pos) (Ox X.K ta f):=by
 intro pins s σ H Q I h
 refine RL hb (mP (he pins s σ H _ I h) λ u s1 ⟨x,H1,I1,rx,a,C,dx,fs,v,ex,ea,c,n,l,q⟩=>?_)
 subst ex
 obtain rfl:u=Value.ref a:=rx
 exact Cq I1 ea c n l λ u' s2 I2 ru=>⟨v,H1,I2,ru,q⟩
theorem pT(ha:PE X o ta)(hv:PE X value tv)(hs:swapsWith value (some (.Attribute o f pos')) pos.line X.env=pure false):PS X (.Assign [.Attribute o f pos'] value pos) (ZF X.K ta tv f):=by
 intro pins s σ H D I h
 refine plainObj_wpAny_Assign_Attribute (mP (hv pins s σ H _ I h) λ u s1 ⟨y,H1,I1,ry,q⟩=>mP (ha pins s1 σ H1 _ I1 q) λ ov s2 ⟨x,H2,I2,rx,a,C,dx,fs,ex,ea,c,n,l,q2⟩=>?_) hs
 subst ex
 obtain rfl:ov=Value.ref a:=rx
 exact Cr I2 ea c n l ry λ s3 I3=>⟨σ,_,I3,q2⟩
theorem uh{op:Operator}{rd:V->V->Hp->VK->Prop}(ha:PE X o ta)(hv:PE X value tv)(hop:Xf X op rd):PS X (.AugAssign (.Attribute o f tpos) op value pos) (RM X.K ta tv rd f):=by
 intro pins s σ H D I h
 refine wpAny_AugAssign_AttributeAny (mP (ha pins s σ H _ I h) λ ov s1 ⟨x,H1,I1,rx,a,C,dx,fs,v,ex,ea,c,n,l,q⟩=>?_)
 subst ex
 obtain rfl:ov=Value.ref a:=rx
 refine Cq I1 ea c n l λ u s2 I2 ru=>mP (hv pins s2 σ H1 _ I2 q) λ w3 s3 ⟨y,H2,I3,ry,q3⟩=>mP (hop pins s3 σ H2 v y u w3 _ I3 ru ry q3) λ w4 s4 ⟨z,H3,I4,rz,Xg,fs',ea',l',q4⟩=>?_
 exact Cr I4 ea' c n l' rz λ s5 I5=>⟨σ,_,I5,q4⟩
def ZG:V->V->Hp->VK->Prop:=λ x y H Q=>∃i j,x=.int i/\y=.int j/\Q (.int (i+j)) H
theorem Cs:Xf X .Add ZG:=by
 rintro pins s σ H x y u v Q I rx ry ⟨i,j,rfl,rfl,q⟩
 obtain⟨t,rfl⟩:=(show ∃t,u=Value.int i t from rx)
 obtain⟨t',rfl⟩:=(show ∃t',v=Value.int j t' from ry)
 exact PyProof.Rows.iadd_int ⟨.int (i+j),H,I.tok _,⟨_,rfl⟩,q⟩
theorem Um{pl:Sem Bool}{m:Str}{apos:Pos}{args:List Expr}{pins:List (Addr×Obj)}{s:Shared}{σ:St}{H:Hp}{Q:Value->Shared->Prop}{te:TE}(he:PE X e te)(I:Inv X pins σ H s)
  (h:te σ H λ x H1=>∃a C dx fs g,x=.ref a/\H1 a=some (.ins C dx fs)/\NW X.K C/\Meth X.K C m g/\fs.lookup m=none /\
   ∀s1,Inv X pins σ H1 s1->wpAny (model X.prog X.w) X.A (callWith pos (.ref g) [.ref a] (backTo pos (starEach args X.env)) (backToKw pos (keywordEach [] X.env))) Q X.xe s1)
  (ht:eval (.Call (.Attribute e m apos) args [] pos) X.env=(do
   let ov <-eval e X.env
   standAt apos.atName
   let (f,first) <-holding [ov] (getMethod ov m pl)
   callWith pos f first (backTo pos (starEach args X.env)) (backToKw pos (keywordEach [] X.env)))) :
  wpAny (model X.prog X.w) X.A (eval (.Call (.Attribute e m apos) args [] pos) X.env) Q X.xe s:=by
 refine fS (pl:=pl) (mP (he pins s σ H _ I h) λ u s1 ⟨x,H1,I1,rx,a,C,dx,fs,g,ex,ea,c,k,l,q⟩=>?_) ht
 subst ex
 obtain rfl:u=Value.ref a:=rx
 exact yS I1 ea c k l (q s1 I1)
end
section
variable{X:Cx}{pins:List (Addr×Obj)}{σ:St}{H:Hp}{s:Shared}{A:Around}{E:Value->Shared->Prop}{Q:Value->Shared->Prop}{c:Value}{b:Bool}
end
end L2
namespace L2
open PySem PySem.Spec PyProof.Rows
structure nT(k:Nat)(A:Around):Prop where
 hd:A.handled=none
 dp:A.depth+3*k+5<recursionLimit
 un:A.units+16*k+200<cLine
theorem nT.mono{j k:Nat}{A:Around}(r:nT k A)(h:j<=k):nT j A:=⟨r.hd,by have:=r.dp;omega,by have:=r.un;omega⟩
theorem nT.deeper{k:Nat}{A:Around}(r:nT (k+1) A)(env:Env):nT k (A.deeper env):=
 ⟨r.hd,by have:=r.dp;show A.depth+1+3*k+5<_;omega,by have:=r.un;show A.units+3+16*k+200<_;omega⟩
theorem JC{A:Around}{C:Addr}{us:List Value}{kw:List (Str×Value)}:(A.under (.builtin "type.__call__" ⟨.ref C::us,kw⟩)).depth=A.depth+1:=by
 first | rfl | simp[Around.under,Code.weight,Code.isCreation,Code.isGuard,Code.isCaller,Code.frames,Code.isFrame,guardIds]
theorem JD{A:Around}{C:Addr}{us:List Value}{kw:List (Str×Value)}:(A.under (.builtin "type.__call__" ⟨.ref C::us,kw⟩)).units=A.units+1:=by
 first | rfl | simp[Around.under,Code.cUnits,Code.frames,Code.isFrame]
theorem nT.make{k:Nat}{A:Around}(r:nT (k+1) A)(C:Addr)(us:List Value)(kw:List (Str×Value)):nT k (A.under (.builtin "type.__call__" ⟨.ref C::us,kw⟩)):=
 ⟨r.hd,by have:=r.dp;rw[JC];omega,by have:=r.un;rw[JD];omega⟩
theorem nT.depth{k:Nat}{A:Around}(r:nT k A):A.depth<recursionLimit:=by have:=r.dp;omega
theorem nT.units{k:Nat}{A:Around}(r:nT k A):A.units+64<cLine:=by have:=r.un;omega
def Hz:TA:=λ _ H Q=>Q [] H
def Ct(ta:TE)(tr:TA):TA:=λ σ H Q=>ta σ H λ x H1=>tr σ H1 λ xs H2=>Q (x::xs) H2
section
variable{X:Cx}{e:Expr}{es:List Expr}{te:TE}{t:TA}{pos:Pos}
theorem jw:PA X [] Hz:=λ _ _ _ _ H Q I h=>Calls.spliced_nil ⟨[],H,I,.nil,h⟩
theorem jt(ha:PE X e te)(hr:PA X es t)(hs:starEach (e::es) X.env=(false,eval e X.env)::starEach es X.env:=by rfl):PA X (e::es) (Ct te t):=by
 intro pos pins s σ H Q I h
 rw[hs]
 show wpAny _ _ (spliced ((false,eval e X.env)::backTo pos (starEach es X.env))) _ _ s
 refine Calls.spliced_cons (mP (ha pins s σ H _ I h) λ u s1 ⟨x,H1,I1,r1,q1⟩=>?_)
 exact mP (hr pos pins s1 σ H1 _ I1 q1) λ us s2 ⟨xs,H2,I2,r2,q2⟩=>⟨x::xs,H2,I2,.cons r1 r2,q2⟩
def Xh(t:TA):TE:=λ σ H Q=>t σ H λ xs H1=>xs.length<=sizeLine/\∀p,H1 p=none->Q (.ref p) (upd H1 p (.tup xs))
def Xi(t:TA):TE:=λ σ H Q=>t σ H λ xs H1=>xs.length<=sizeLine/\∀p,H1 p=none->Q (.ref p) (upd H1 p (.lst xs))
theorem Oz{x1}(h:PA X es t):PE X (.Tuple es x1 pos) (Xh t):=by
 intro pins s σ H Q I hq
 refine wpAny_Tuple_spliced (mP (h pos pins s σ H _ I hq) λ us s1 ⟨xs,H1,I1,r,z,q⟩=>⟨by rw[<-r.length];exact z,?_⟩)
 have hf:H1 s1.heap.objs.size=none:=I1.hok.fresh (au _)
 refine⟨.ref s1.heap.objs.size,upd H1 s1.heap.objs.size (.tup xs),I1.laid (t':=s1.toks) (λ b u e=>Heap.get?_push_of_some _ e) (au _) ?_,rfl,q _ hf⟩
 exact⟨z,us,r,⟨_,Heap.get?_push_size _ rfl,rfl,_,rfl⟩⟩
theorem mV(h:PA X es t):PE X (.List es pos) (Xi t):=by
 intro pins s σ H Q I hq
 refine wpAny_List_spliced (mP (h pos pins s σ H _ I hq) λ us s1 ⟨xs,H1,I1,r,z,q⟩=>⟨by rw[<-r.length];exact z,?_⟩)
 have hf:H1 s1.heap.objs.size=none:=I1.hok.fresh (au _)
 refine⟨.ref s1.heap.objs.size,upd H1 s1.heap.objs.size (.lst xs),I1.laid (t':=s1.toks) (λ b u e=>Heap.get?_push_of_some _ e) (au _) ?_,rfl,q _ hf⟩
 exact⟨z,us,0,r,Heap.get?_push_size _ rfl⟩
end
abbrev Sp:=List V->Hp->VK->XK->Prop
abbrev RN:=List Env->Hp->Shared->XK->Value->Shared->Prop
structure AA(P:Program)(w:World)(K:aj)(mg:Str->Option Value)(base:Heap)(A:Around)(outer:List Env)(s:Shared)(H:Hp):Prop where
 frames:A.frames=some outer
 mod:Mod K mg base
 bs:∀b o,base.get? b=some o->s.heap.get? b=some o/\H b=none
 Rn:base.objs.size<=s.heap.objs.size
 BI:s.heap.FunFrames base outer
 U4:∀b∈frs outer,H b=none
 hok:Ax P w H s.heap
 bare:AllBare s.gens
def CE(outer:List Env)(P:Program)(w:World)(H:Hp)(s:Shared)(Q:VK)(u:Value)(s':Shared):Prop:=
 ∃v H',s'.os=s.os/\AllBare s'.gens/\Un (frs outer) [] H H' s.heap s'.heap/\Ax P w H' s'.heap/\RelV v u/\Q v H'
def CR(CX:RN)(outer:List Env)(P:Program)(w:World)(H:Hp)(s:Shared)(Q:VK)(E:XK)(r:Result)(s':Shared):Prop:=
 match r with
 |.ok (.ret u)=>CE outer P w H s Q u s'
 |.ok _=>False
 |.error e=>CX outer H s E e s'
structure AB(P:Program)(w:World)(K:aj)(mg:Str->Option Value)(base:Heap)(CX:RN)(k:Nat)(f:Addr)(fd:FuncData)(ps:List Str)(sp:Sp):Prop where
 len:∀vs H Q E,sp vs H Q E->vs.length=ps.length
 run:∀(A:Around) (outer:List Env) (s:Shared) (H:Hp) (args:Args) (us:List Value) (vs:List V) (Q:VK) (E:XK),nT k A->AA P w K mg base A outer s H->BindsTo s fd args (ps.zip us)->Vals vs us->sp vs H Q E ->
  codeAny (model P w) A (.call (.ref f) args) (CR CX outer P w H s Q E) s
theorem AA.make{P:Program}{w:World}{K:aj}{mg:Str->Option Value}{base:Heap}{A:Around}{outer:List Env}{s:Shared}{H:Hp}(e:AA P w K mg base A outer s H)(C:Addr)(us:List Value)(kw:List (Str×Value)) :
  AA P w K mg base (A.under (.builtin "type.__call__" ⟨.ref C::us,kw⟩)) outer s H:=⟨by first | exact e.frames | (simpa [Around.under,Code.envs,Code.isFrame,pushEnvs] using e.frames),e.mod,e.bs,e.Rn,e.BI,e.U4,e.hok,e.bare⟩
section
variable{X:Cx}{pins:List (Addr×Obj)}{σ:St}{H:Hp}{s s':Shared}
theorem Inv.RO(I:Inv X pins σ H s):AA X.prog X.w X.K X.mg X.base X.A X.stack s H:=
 ⟨I.ok.frames,I.ok.mod,I.bs,bf I.ok.Rn I.sz,I.stack,I.BW,I.hok,I.bare⟩
theorem Inv.after{Q:VK}{u:Value}(I:Inv X pins σ H s)(h:CE X.stack X.prog X.w H s Q u s'):EP X pins σ Q u s':=by
 obtain⟨v,H',os,bare,un,hok,r,q⟩:=h
 obtain⟨hh,g,d,t,os'⟩:=s'
 obtain rfl:os'=s.os:=os
 exact⟨v,H',I.call (h':=hh) (g':=g) (d':=d) (t':=t) (ch:=[]) un hok bare (λ b z=>absurd z (by simp)),r,q⟩
end
def KQ(sp:Sp)(Ez:List V)(E:XK)(t:TA):TE:=λ σ H Q=>t σ H λ vs H1=>sp (vs++Ez) H1 Q E
def KR(C:Addr)(m:Str)(sp:Sp)(Ez:List V)(E:XK)(ta:TE)(t:TA):TE:=λ σ H Q=>ta σ H λ x H1=>∃a dx fs,x=.ref a/\H1 a=some (.ins C dx fs)/\fs.lookup m=none /\
 t σ H1 λ vs H2=>sp (x::(vs++Ez)) H2 Q E
def Uo(C:Addr)(sp:Sp)(Ez:List V)(E:XK)(t:TA):TE:=λ σ H Q=>t σ H λ vs H1=>∀x dx,H1 x=none->H1 dx=none->dx≠x ->
 sp (.ref x::(vs++Ez)) (upd (upd H1 dx (.own x)) x (.ins C dx [])) (λ v H2=>v=.qZ/\Q (.ref x) H2) E
def Binds(K:aj)(fd:FuncData)(ps:List Str)(ds:List Value):Prop:=
 ∀(s:Shared) (us:List Value),K.In s.heap->(us++ds).length=ps.length->BindsTo s fd ⟨us,[]⟩ (ps.zip (us++ds))
theorem Binds.all{K:aj}{fd:FuncData}{ps:List Str}(h:∀us:List Value,us.length=ps.length->bindArgs fd ⟨us,[]⟩=pure (ps.zip us)):Binds K fd ps []:=λ s us _ hl=>by
 rw[cF] at hl ⊢
 exact .of_eq (h us hl)
def qK(CX:RN)(X:Cx)(E:XK):Prop:=∀(pins:List (Addr×Obj)) (σ:St) (H:Hp) (s:Shared) (e:Value) (s':Shared),Inv X pins σ H s->CX X.stack H s E e s'->X.xe e s'
section
variable{X:Cx}{CX:RN}{k:Nat}{f C:Addr}{fd:FuncData}{ps:List Str}{sp:Sp}{Ez:List V}{ds:List Value}{E:XK}{x m:Str}{p pos apos:Pos}{e o:Expr}{es:List Expr}{ta:TE}{t:TA}
theorem JE{pins:List (Addr×Obj)}{σ:St}{H:Hp}{s:Shared}{Q:VK}{us:List Value}{vs:List V}(F:AB X.prog X.w X.K X.mg X.base CX k f fd ps sp)(hr:nT k X.A)(hb:Binds X.K fd ps ds)(hd:Vals Ez ds)(hx:qK CX X E)
  (I:Inv X pins σ H s) (r:Vals vs us) (h:sp (vs++Ez) H Q E):wpAny (model X.prog X.w) X.A (call (.ref f) us) (EP X pins σ Q) X.xe s:=by
 have r2:Vals (vs++Ez) (us++ds):=r.append hd
 have hl:(us++ds).length=ps.length:=by rw[<-r2.length];exact F.len _ _ _ _ h
 refine wpAny_call (codeAny_mono (F.run X.A X.stack s H ⟨us,[]⟩ (us++ds) (vs++Ez) Q E hr I.RO (hb s us I.Jj hl) r2 h) λ r s' hq=>?_)
 cases r with
 |error e=>exact hx pins σ H s e s' I hq
 |ok fl=>
  cases fl with
  |ret u=>exact I.after hq
  |next=>exact False.elim hq
  |brk=>exact False.elim hq
  |cont=>exact False.elim hq
theorem RP(F:AB X.prog X.w X.K X.mg X.base CX k f fd ps sp)(hr:nT k X.A)(hg:Gl X x)(hm:X.mg x=some (.ref f))(hk:eE X.K (.ref f)=true)(hb:Binds X.K fd ps ds)(hd:Vals Ez ds)(hx:qK CX X E)
  (ha:PA X (e::es) t) (hdb:(x==("__debug__":Str))=false:=by decide) (he:starEach (e::es) X.env=(false,eval e X.env)::starEach es X.env:=by rfl) (hpl:(backTo pos (starEach es X.env)).any (·.1)=false:=by rfl) :
  PE X (.Call (.Name x p) (e::es) [] pos) (KQ sp Ez E t):=by
 intro pins s σ H Q I h
 refine wpAny_Call_Name_kw (u3 I hg hm ?_ hdb)
 refine fz (h₀:=X.base) I.ok.mod.Ua hk (mP (ha pos pins s σ H _ I h) λ us s1 ⟨vs,H1,I1,r,q⟩=>⟨I1.Jj,?_⟩) he hpl
 exact JE F hr hb hd hx I1 r q
theorem RQ{pl:Sem Bool}(he:PE X o ta)(c:NW X.K C)(hm:Meth X.K C m f)(F:AB X.prog X.w X.K X.mg X.base CX k f fd ps sp)(hr:nT k X.A)(hb:Binds X.K fd ps ds)(hd:Vals Ez ds)(hx:qK CX X E)(ha:PA X (e::es) t)
  (hst:starEach (e::es) X.env=(false,eval e X.env)::starEach es X.env:=by rfl) (hpl:(backTo pos (starEach es X.env)).any (·.1)=false:=by rfl)
  (ht:eval (.Call (.Attribute o m apos) (e::es) [] pos) X.env=(do
   let ov <-eval o X.env
   standAt apos.atName
   let (f,first) <-holding [ov] (getMethod ov m pl)
   callWith pos f first (backTo pos (starEach (e::es) X.env)) (backToKw pos (keywordEach [] X.env))):=by rfl) :
  PE X (.Call (.Attribute o m apos) (e::es) [] pos) (KR C m sp Ez E ta t):=by
 intro pins s σ H Q I h
 refine fS (pl:=pl) (mP (he pins s σ H _ I h) λ u s1 ⟨x,H1,I1,rx,a,dx,fs,ex,ea,l,q⟩=>?_) ht
 subst ex
 obtain rfl:u=Value.ref a:=rx
 refine yS I1 ea c hm l ?_
 refine fz (first:=[.ref a]) (h₀:=X.base) I.ok.mod.Ua hm.kp (mP (ha pos pins s1 σ H1 _ I1 q) λ us s2 ⟨vs,H2,I2,r,q2⟩=>⟨I2.Jj,?_⟩) hst hpl
 exact JE (us:=.ref a::us) (vs:=.ref a::vs) F hr hb hd hx I2 (.cons rfl r) q2
theorem OA{pl:Sem Bool}(he:PE X o ta)(c:NW X.K C)(hm:Meth X.K C m f)(F:AB X.prog X.w X.K X.mg X.base CX k f fd ps sp)(hr:nT k X.A)(hb:Binds X.K fd ps ds)(hd:Vals Ez ds)(hx:qK CX X E)
  (ht:eval (.Call (.Attribute o m apos) [] [] pos) X.env=(do
   let ov <-eval o X.env
   standAt apos.atName
   let (f,first) <-holding [ov] (getMethod ov m pl)
   callWith pos f first (backTo pos (starEach [] X.env)) (backToKw pos (keywordEach [] X.env))):=by rfl) :
  PE X (.Call (.Attribute o m apos) [] [] pos) (KR C m sp Ez E ta Hz):=by
 intro pins s σ H Q I h
 refine fS (pl:=pl) (mP (he pins s σ H _ I h) λ u s1 ⟨x,H1,I1,rx,a,dx,fs,ex,ea,l,q⟩=>?_) ht
 subst ex
 obtain rfl:u=Value.ref a:=rx
 refine yS I1 ea c hm l ?_
 exact PySem.W.callWith_K0 (first:=[.ref a]) I1.Jj hm.kp (JE (us:=[.ref a]) (vs:=[.ref a]) F hr hb hd hx I1 (.cons rfl .nil) q)
structure Mk(K:aj)(C f:Addr):Prop where
 makes:iH K C=true
 init:cP K (.ref C) "__init__" = some (some (.ref f))
 fn:jf K (.ref f)=true
 kp:eE K (.ref C)=true
theorem OB{pins:List (Addr×Obj)}{σ:St}{H:Hp}{s:Shared}{Q:VK}{us:List Value}{vs:List V}(M:Mk X.K C f)(F:AB X.prog X.w X.K X.mg X.base CX k f fd ps sp)(hr:nT (k+1) X.A)(hb:Binds X.K fd ps ds)(hd:Vals Ez ds)
  (hx:qK CX X E) (I:Inv X pins σ H s) (r:Vals vs us)
  (h:∀x dx,H x=none->H dx=none->dx≠x->sp (.ref x::(vs++Ez)) (upd (upd H dx (.own x)) x (.ins C dx [])) (λ v H2=>v=.qZ/\Q (.ref x) H2) E) :
  wpAny (model X.prog X.w) X.A (call (.ref C) us) (EP X pins σ Q) X.xe s:=by
 have hq:=h (s.heap.objs.size+1) s.heap.objs.size (I.hok.fresh (Nat.le_succ _)) (I.hok.fresh (au _)) (aZ (aE _))
 have I2:=Inv.made (C:=C) I
 have r2:Vals (V.ref (s.heap.objs.size+1)::(vs++Ez)) (Value.ref (s.heap.objs.size+1)::(us++ds)):=.cons rfl (r.append hd)
 have hl:(Value.ref (s.heap.objs.size+1)::us++ds).length=ps.length:=by
  have e:=r2.length;rw[F.len _ _ _ _ hq] at e;exact e.symm
 refine wpAny_call (Ow (f:=f) I.Jj M.makes M.init (beq_iff_eq.mp M.fn) (codeAny_mono (F.run _ X.stack _ _ ⟨Value.ref (s.heap.objs.size+1)::us,[]⟩ (Value.ref (s.heap.objs.size+1)::(us++ds)) _ _ E (hr.make C us [])
  (I2.RO.make C us []) (hb _ (Value.ref (s.heap.objs.size+1)::us) I2.Jj hl) r2 hq) λ r s' hq'=>?_))
 cases r with
 |error e=>exact hx pins σ _ _ e s' I2 hq'
 |ok fl=>
  cases fl with
  |ret u=>
   obtain⟨v,H',I3,rv,ev,q3⟩:=I2.after hq';subst ev;exact⟨rv,⟨V.ref (s.heap.objs.size+1),H',I3,rfl,q3⟩⟩
  |next=>exact False.elim hq'
  |brk=>exact False.elim hq'
  |cont=>exact False.elim hq'
theorem RS(M:Mk X.K C f)(F:AB X.prog X.w X.K X.mg X.base CX k f fd ps sp)(hr:nT (k+1) X.A)(hg:Gl X x)(hm:X.mg x=some (.ref C))(hb:Binds X.K fd ps ds)(hd:Vals Ez ds)(hx:qK CX X E)
  (ha:PA X (e::es) t) (hdb:(x==("__debug__":Str))=false:=by decide) (he:starEach (e::es) X.env=(false,eval e X.env)::starEach es X.env:=by rfl) (hpl:(backTo pos (starEach es X.env)).any (·.1)=false:=by rfl) :
  PE X (.Call (.Name x p) (e::es) [] pos) (Uo C sp Ez E t):=by
 intro pins s σ H Q I h
 refine wpAny_Call_Name_kw (u3 I hg hm ?_ hdb)
 refine fz (h₀:=X.base) I.ok.mod.Ua M.kp (mP (ha pos pins s σ H _ I h) λ us s1 ⟨vs,H1,I1,r,q⟩=>⟨I1.Jj,?_⟩) he hpl
 exact OB M F hr hb hd hx I1 r q
end
section
variable{X:Cx}{CX:RN}{k:Nat}{f C:Addr}{fd:FuncData}{ps ks:List Str}{sp:Sp}{E:XK}{x m:Str}{p pos apos kpos:Pos}{e o:Expr}{es:List Expr}{kws:List Keyword}{te ta:TE}{t tk:TA}{nm:Option Str}
variable{g:List Value->List Value->List Value}{gV:List V->List V->List V}
end
structure jJ(N P:List Str)(sc:Scope):Prop where
 kind:sc.kind=.function
 co:sc.isCoroutine=false
 gen:sc.isGenerator=false
 nd:N.Nodup
 pre:N.take P.length=P
 ZH:∀x∈P,sc.names.lookup x=some .local\/sc.names.lookup x=some .cell
 Vm:∀y∈sc.names,y.2≠.free
theorem Fc{kindOf:Str->Option NameKind}{x:Str}:∀{binds:List (Str×Value)}{m:Str->Option Value},(∀v,(x,v) ∉ binds)->bindL kindOf binds m x=m x
 |[],_,_=>rfl
 | (n,v)::r,m,h=>by
  unfold bindL;rw[Fc λ w hw=>h w (aO _ hw)]
  split
  ·have:x≠n:=by rintro rfl;exact h v aQ
   simp[this]
  ·rfl
theorem Fd{kindOf:Str->Option NameKind}{x:Str}:∀{binds:List (Str×Value)}{m:Str->Option Value},(∀v,(x,v) ∉ binds)->bindC kindOf binds m x=m x
 |[],_,_=>rfl
 | (n,v)::r,m,h=>by
  unfold bindC;rw[Fd λ w hw=>h w (aO _ hw)]
  split
  ·rfl
  ·have:x≠n:=by rintro rfl;exact h v aQ
   simp[this]
theorem Fe{kindOf:Str->Option NameKind}{x:Str}{v:Value}:∀{P:List Str}{vs:List Value}{i:Nat}{m:Str->Option Value},P.Nodup->P[i]? = some x->vs[i]? = some v->kindOf x=some .local ->
  bindL kindOf (P.zip vs) m x=some v
 |[],_,_,_,_,h,_,_=>by simp at h
 |_::_,[],_,_,_,_,h,_=>by simp at h
 |p::P,w::vs,0,m,nd,h1,h2,hk=>by
  simp at h1 h2;subst h1;subst h2
  show bindL kindOf ((p,w)::P.zip vs) m p=_;unfold bindL;rw[Fc λ v hv=>(dh.mp nd).1 (gh hv).1,if_pos hk];simp
 |p::P,w::vs,i+1,m,nd,h1,h2,hk=>by
  show bindL kindOf ((p,w)::P.zip vs) m x=_;unfold bindL;exact Fe (i:=i) (dh.mp nd).2 (by simpa using h1) (by simpa using h2) hk
theorem Ff{kindOf:Str->Option NameKind}{x:Str}{v:Value}:∀{P:List Str}{vs:List Value}{i:Nat}{m:Str->Option Value},P.Nodup->P[i]? = some x->vs[i]? = some v->kindOf x≠some .local ->
  bindC kindOf (P.zip vs) m x=some v
 |[],_,_,_,_,h,_,_=>by simp at h
 |_::_,[],_,_,_,_,h,_=>by simp at h
 |p::P,w::vs,0,m,nd,h1,h2,hk=>by
  simp at h1 h2;subst h1;subst h2
  show bindC kindOf ((p,w)::P.zip vs) m p=_;unfold bindC;rw[Fd λ v hv=>(dh.mp nd).1 (gh hv).1,if_neg hk];simp
 |p::P,w::vs,i+1,m,nd,h1,h2,hk=>by
  show bindC kindOf ((p,w)::P.zip vs) m x=_;unfold bindC;exact Ff (i:=i) (dh.mp nd).2 (by simpa using h1) (by simpa using h2) hk
def start(N:List Str)(vs:List V):St:=vs.map some++aJ (N.length-vs.length) none
def Cu(CX:RN)(P:Program)(w:World)(K:aj)(mg:Str->Option Value)(base:Heap)(N:List Str)(qual:Str)(scope:Scope)(f:Addr)(cd:Value)(A:Around)(outer:List Env)(s:Shared)(H:Hp)(E:XK):Cx where
 prog:=P
 w:=w
 K:=K
 mg:=mg
 base:=base
 A:=A.deeper (envOfC qual scope s.heap.objs.size f cd)
 N:=N
 Ey:=s
 Ub:=H
 env:=envOfC qual scope s.heap.objs.size f cd
 outer:=outer
 stack:=envOfC qual scope s.heap.objs.size f cd::outer
 ex:=[]
 calm:=true
 fn:=λ _=>true
 pn:=[]
 xe:=λ e s'=>wpAny (model P w) (A.deeper (envOfC qual scope s.heap.objs.size f cd)) (leaving (envOfC qual scope s.heap.objs.size f cd) e) (λ _ s''=>CX outer H s E e s'') (λ e' s''=>CX outer H s E e' s'') s'
theorem HA{sc:Scope}{n:Nat}{x:Str}(h:sc.names.lookup x=some .cell):∃c,(cellsFrom n sc.names []).lookup x=some c:=by
 have q:=fH sc.names n [] (.inl h)
 exact gZ.mp q
theorem Fg{CX:RN}{P:Program}{w:World}{K:aj}{mg:Str->Option Value}{base:Heap}{N ps:List Str}{qual:Str}{scope:Scope}{f:Addr}{cd:Value}{A:Around}{outer:List Env}{s s1:Shared}{H:Hp}{E:XK}{us:List Value}{vs:List V}
  (S:jJ N ps scope) (hd:A.handled=none) (e0:AA P w K mg base A outer s H) (hl:vs.length=ps.length) (r:Vals vs us)
  (x:InCallC s s.heap.objs.size (bindL (envOfC qual scope s.heap.objs.size f cd).kindOf (ps.zip us) λ _=>none) (cellsFrom (s.heap.objs.size+1) scope.names []) (bindC (envOfC qual scope s.heap.objs.size f cd).kindOf (ps.zip us) λ _=>none) s1) :
  Inv (Cu CX P w K mg base N qual scope f cd A outer s H E) [] (start N vs) H s1:=by
 have hpl:ps.length<=N.length:=by have:=congrArg eF S.pre;rw[aR] at this;omega
 obtain⟨h1,tk,rfl,hk⟩:=x.done
 have RT:∀b:Addr,b ∉ (Cu CX P w K mg base N qual scope f cd A outer s H E).ex:=λ b z=>absurd (show b∈([]:List Addr) from z) (by simp)
 refine⟨⟨e0.mod,S.kind,rfl,rfl,au _,λ y z c h1 h2=>?_,λ y hy=>?_,λ y c _ h=>?_,λ _=>hd,Around.frames_deeper e0.frames,.inr ⟨rfl,rfl⟩,λ b z=>absurd z (RT b),e0.bs,e0.Rn,λ b _ _=>RT b,λ b z=>absurd z (RT b),e0.BI,e0.U4⟩,
  rfl,e0.bare,Un.kept hk,⟨_,x.toInCall.ns,λ i y v h1 h2 h3=>?_⟩,λ y c h=>⟨_,x.cell y c h⟩,e0.hok.fresh (au _),λ y c h=>?_,λ p hp=>absurd (show p∈([]:List (Addr×Obj)) from hp) (by simp),e0.hok.kept hk,?_⟩
 ·exact name_of_addr x.apart (aT h1) (aT h2)
 ·have hy:scope.names.lookup y=some .cell\/scope.names.lookup y=some .free:=hy
  rcases hy with hy | hy
  ·exact HA hy
  ·exact absurd rfl (S.Vm _ (aT hy))
 ·exact bg (x.above y c (aT h))
 ·have hi:i<vs.length:=by
   unfold start at h2
   by_cases hi:i<vs.length
   ·exact hi
   ·rw[cZ (by simpa using hi)] at h2;rw[fB] at h2
    split at h2<;>cases h2
  have ha:vs[i]? = some v:=by
   unfold start at h2;rw[bO (by simpa using hi),ai] at h2
   cases e:vs[i]? with
   |none=>rw[e] at h2;cases h2
   |some a=>rw[e] at h2;cases h2;rfl
  obtain⟨u,hu,rv⟩:=r.get ha;have hp:ps[i]? = some y:=by
   rw[<-S.pre,List.getElem?_take_of_lt (by omega)];exact h1
  have ndP:ps.Nodup:=by rw[<-S.pre];exact S.nd.sublist (List.take_sublist _ _)
  refine⟨u,rv,?_⟩
  rcases S.ZH y (aq hp) with k | k
  ·exact .inl ⟨k,Fe ndP hp hu k⟩
  ·obtain⟨c,e⟩:=HA (n:=s.heap.objs.size+1) k;refine .inr ⟨.inl k,c,e,?_⟩;have q:=x.cell y c e;rw[Ff ndP hp hu (by show scope.names.lookup y≠_;rw[k];decide)] at q;exact q
 ·exact e0.hok.fresh (bg (x.above y c (aT h)))
 ·unfold start
  show _=N.length;rw[aG,ah,cJ];omega
theorem Xj{CX:RN}{P:Program}{w:World}{K:aj}{mg:Str->Option Value}{base:Heap}{k:Nat}{f:Addr}{name qual:Str}{params:Arguments}{body:List Stmt}{scope:Scope}{dV kV doc pm cdv ct oc:Value}{an od:Option Addr}
  {osl:Array (Option Value)} {N ps:List Str} {sp:Sp} (lk:K.lookup f=some ⟨oc,od,.func (dM name qual params body scope dV kV doc pm an cdv ct),osl⟩) (hcd:gB K cdv qual=true) (S:jJ N ps scope)
  (len:∀vs H Q E,sp vs H Q E->vs.length=ps.length)
  (hbody:∀(A:Around) (outer:List Env) (s:Shared) (H:Hp) (vs:List V) (Q:VK) (E:XK),nT k (A.deeper (envOfC qual scope s.heap.objs.size f cdv))->sp vs H Q E ->
   ∃t,N7 (Cu CX P w K mg base N qual scope f cdv A outer s H E) body t/\t { nx:=λ _ H'=>Q .qZ H',rt:=Q } (start N vs) H) :
  AB P w K mg base CX (k+1) f (dM name qual params body scope dV kV doc pm an cdv ct) ps sp:=by
 refine⟨len,λ A outer s H args us vs Q E hr e0 hb r YX=>?_⟩
 have hl:=len _ _ _ _ YX
 have KX:K.In s.heap:=e0.mod.Ua.keeps λ b o e=>(e0.bs b o e).1
 have lim:s.heap.NoLimit:=e0.mod.nolimit.keeps λ b o e=>(e0.bs b o e).1
 have hkind:∀y∈ps.zip us,scope.names.lookup y.1=some .local\/(scope.names.lookup y.1=some .cell/\((cellsFrom (s.heap.objs.size+1) scope.names []).lookup y.1).isSome=true):=λ⟨n,v⟩ hy=>by
  rcases S.ZH n (gh hy).1 with q | q
  ·exact .inl q
  ·exact .inr ⟨q,fH _ _ _ (.inl q)⟩
 refine codeAny_call_function hr.depth (KX _ _ lk) rfl S.co S.gen rfl (jd KX hcd) (hb _ _ _ _ ?_)
 refine wpAny_newFunctionEnv_cells S.kind hkind λ env he s1 x=>?_
 subst he
 refine⟨lim.keeps x.toInCall.keep,codeAny_func ?_⟩
 obtain⟨t,ht,hq⟩:=hbody A outer s H vs Q E (hr.deeper _) YX
 have I:Inv (Cu CX P w K mg base N qual scope f cdv A outer s H E) [] (start N vs) H s1:=Fg S hr.hd e0 hl r x
 refine wpAny_mono (ht [] s1 (start N vs) H _ I hq) (λ fl s' hs=>?_) λ e s' hs=>hs
 have fin:∀{σ':St} {H':Hp} {v:V} {u:Value},Inv (Cu CX P w K mg base N qual scope f cdv A outer s H E) [] σ' H' s'->RelV v u->Q v H'->CE outer P w H s Q u s':=
  λ {σ' H' v u} J rv q=>⟨v,H',J.os,J.bare,J.base,J.hok,rv,q⟩
 cases fl with
 |ret u=>
  obtain⟨v,σ',H',J,rv,q⟩:=hs;exact fin J rv q
 |next=>
  obtain⟨σ',H',J,q⟩:=hs;exact fin (v:=V.qZ) (u:=Value.none) J rfl q
 |brk=>
  obtain⟨_,_,_,q⟩:=hs;exact False.elim q
 |cont=>
  obtain⟨_,_,_,q⟩:=hs;exact False.elim q
end L2
namespace L2
open PySem PySem.Spec PyProof.Rows
section
variable{X:Cx}{x:Str}{p pos:Pos}{e:Expr}{es:List Expr}{t:TA}{id T:String}{r:List V->Hp->VK->Prop}
def ZI(r:List V->Hp->VK->Prop)(t:TA):TE:=λ σ H Q=>t σ H λ vs H1=>r vs H1 Q
theorem kj(hc:uf X (.builtin id) r)(hg:Gl X x)(hm:X.mg x=none)(hv:bootBuiltins x=some (.builtin id))(ha:PA X (e::es) t)(hn:x≠"__name__":=by decide)(hdb:(x==("__debug__":Str))=false:=by decide)
  (he:starEach (e::es) X.env=(false,eval e X.env)::starEach es X.env:=by rfl) (hpl:(backTo pos (starEach es X.env)).any (·.1)=false:=by rfl):PE X (.Call (.Name x p) (e::es) [] pos) (ZI r t):=by
 intro pins s σ H Q I h
 refine wpAny_Call_Name_kw (yN I hg hm hv ?_ hn hdb)
 exact PyProof.Rows.callWith_builtin1 (mP (ha pos pins s σ H _ I h) λ us s1 ⟨vs,H1,I1,r1,q1⟩=>hc pins s1 σ H1 vs us Q I1 r1 q1) he hpl
theorem pU(hc:uf X (.type T) r)(hg:Gl X x)(hm:X.mg x=none)(hv:bootBuiltins x=some (.type T))(ha:PA X (e::es) t)(hn:x≠"__name__":=by decide)(hdb:(x==("__debug__":Str))=false:=by decide)
  (he:starEach (e::es) X.env=(false,eval e X.env)::starEach es X.env:=by rfl) (hpl:(backTo pos (starEach es X.env)).any (·.1)=false:=by rfl):PE X (.Call (.Name x p) (e::es) [] pos) (ZI r t):=by
 intro pins s σ H Q I h
 refine wpAny_Call_Name_kw (yN I hg hm hv ?_ hn hdb)
 exact PyProof.Rows.callWith_type1 (mP (ha pos pins s σ H _ I h) λ us s1 ⟨vs,H1,I1,r1,q1⟩=>hc pins s1 σ H1 vs us Q I1 r1 q1) he hpl
end
end L2
namespace HT
open PySem PyProof.Rows
section
open PySem.SeqAt
open PySem.AutoSeq1 (wpAny_loadPart')
open PySem.MeetsSeq PySem.MeetsSeq2 PySem.MeetsSeq3
end
section
variable{prog:Program}{w:World}{A:Around}{E:Value->Shared->Prop}{s:Shared}
def Jl(n d:Nat):Option Int->Nat
 |none=>d
 |some v=>if v<0 then (v+(n:Int)).toNat else min v.toNat n
theorem KU(n d k:Nat):Jl n d (some (k:Int))=min k n:=by
 show (if (k:Int)<0 then ((k:Int)+(n:Int)).toNat else min (k:Int).toNat n)=min k n
 rw[if_neg (by omega),bZ]
end
end HT
namespace L2
open PySem PySem.Spec PyProof.Rows
abbrev TO:=St->Hp->(Option Int->Hp->Prop)->Prop
def PO(X:Cx)(e:Option Expr)(t:TO):Prop:=
 ∀(pins:List (Addr×Obj)) (s:Shared) (σ:St) (H:Hp) (Q:Option Int->Hp->Prop),Inv X pins σ H s->t σ H Q ->
  wpAny (model X.prog X.w) X.A (evalPart e X.env) (λ u s'=>∃o H',Inv X pins σ H' s'/\IsPart u o/\Q o H') X.xe s
def OE(t:TE):TO:=λ σ H Q=>t σ H λ x H1=>∃i,x=.int i/\Q (some i) H1
section
variable{X:Cx}{e:Expr}{te:TE}{lo hi:Option Expr}{tl th:TO}{pos p2:Pos}
theorem BX(h:PE X e te):PO X (some e) (OE te):=by
 intro pins s σ H Q I hw
 rw[evalPart_some]
 refine mP (h pins s σ H _ I hw) λ u s1 ⟨x,H1,I1,r1,q1⟩=>?_
 obtain⟨i,rfl,q⟩:=q1
 obtain⟨t,rfl⟩:=r1
 exact⟨some i,H1,I1,.int i t,q⟩
def SlR(X:Cx)(r:V->Option Int->Option Int->Hp->VK->Prop):Prop:=
 ∀(pins:List (Addr×Obj)) (s:Shared) (σ:St) (H:Hp) (x:V) (v vl vu:Value) (lo hi:Option Int) (sl:Addr) (Q:VK),Inv X pins σ H s->RelV x v->s.heap.IsSliceOf sl vl vu .none->IsPart vl lo->IsPart vu hi->r x lo hi H Q ->
  ∃T id,typeLookup (.type T) "__getitem__" = pure (some (.builtin id))/\s.TypeIs v T/\wpAny (model X.prog X.w) X.A (getItem v (.ref sl)) (EP X pins σ Q) X.xe s
def tSl(r:V->Option Int->Option Int->Hp->VK->Prop)(te:TE)(tl th:TO):TE:=λ σ H Q=>te σ H λ x H1=>tl σ H1 λ l H2=>th σ H2 λ u H3=>r x l u H3 Q
theorem HB{r:V->Option Int->Option Int->Hp->VK->Prop}(hr:SlR X r)(he:PE X e te)(hl:PO X lo tl)(hu:PO X hi th):PE X (.Subscript e (.Slice lo hi none p2) pos) (tSl r te tl th):=by
 intro pins s σ H Q I h
 refine Subscript_ (mP (he pins s σ H _ I h) λ v s1 ⟨x,H1,I1,r1,q1⟩=>?_)
 refine wpAny_Slice (mP (hl pins s1 σ H1 _ I1 q1) λ vl s2 ⟨l,H2,I2,pl,q2⟩=>mP (hu pins s2 σ H2 _ I2 q2) λ vu s3 ⟨u,H3,I3,pu,q3⟩=>?_)
 rw[evalPart_none]
 refine wpAny_pure ?_
 have I4:Inv X pins σ H3 { s3 with heap:=s3.heap.push { cls:=.type "slice",data:=.fields #[vl,vu,.none] } }:=I3.kept (t':=s3.toks) λ b ob q=>Heap.get?_push_of_some _ q
 obtain⟨T,id,hT,ht,hg⟩:=hr pins { s3 with heap:=s3.heap.push { cls:=.type "slice",data:=.fields #[vl,vu,.none] } } σ H3 x v vl vu l u s3.heap.objs.size Q I4 r1 (Heap.IsSliceOf.new ..) pl pu q3
 show wpAny (model X.prog X.w) X.A (subscriptTail e (.Slice lo hi none p2) v (.ref s3.heap.objs.size)) (EP X pins σ Q) X.xe { s3 with heap:=s3.heap.push { cls:=.type "slice",data:=.fields #[vl,vu,.none] } }
 exact tail_any (ops:=[.ref s3.heap.objs.size,v]) ht hT hg (by with_unfolding_all rfl)
def Mm(xs:List V)(lo hi:Option Int):List V:=(xs.drop (HT.Jl xs.length 0 lo)).take (HT.Jl xs.length xs.length hi-HT.Jl xs.length 0 lo)
theorem HC(xs:List V)(lo hi:Option Int):(Mm xs lo hi).length<=xs.length:=by
 unfold Mm
 rw[aR,fW]
 omega
end
end L2
namespace L2
open PySem PySem.Spec PyProof.Rows
def KW(n:Nat)(i:Int):Option Nat:=if 0<=i then (if i<n then some i.toNat else none) else if -(n:Int)<=i then some (i+n).toNat else none
def Ht{α:Type}(xs:List α)(i:Int):Option α:=(KW xs.length i).bind λ j=>xs[j]?
theorem KY{n:Nat}{i:Int}{j:Nat}(h:KW n i=some j):seqIndex? i n=some j/\j<n/\-(n:Int)<=i/\i<n:=by
 unfold KW at h
 by_cases h0:0<=i
 ·rw[if_pos h0] at h
  by_cases h1:i<n
  ·rw[if_pos h1] at h;have e:i.toNat=j:=aW h;exact⟨by rw[seqIndex_of h0 h1,e],by omega,by omega,h1⟩
  ·rw[if_neg h1] at h;cases h
 ·rw[if_neg h0] at h
  by_cases h1:-(n:Int)<=i
  ·rw[if_pos h1] at h;have e:(i+n).toNat=j:=aW h;exact⟨by rw[seqIndex_neg (by omega) h1,e],by omega,h1,by omega⟩
  ·rw[if_neg h1] at h;cases h
theorem KZ{α:Type}{xs:List α}{i:Int}{v:α}(h:Ht xs i=some v):∃j,seqIndex? i xs.length=some j/\xs[j]? = some v/\j<xs.length/\-(xs.length:Int)<=i/\i<xs.length:=by
 unfold Ht at h
 cases e:KW xs.length i with
 |none=>rw[e] at h;cases h
 |some j=>
  rw[e] at h;obtain⟨h1,h2,h3,h4⟩:=KY e;exact⟨j,h1,h,h2,h3,h4⟩
theorem qg{α:Type}{xs:List α}{j:Nat}{v:α}(h:xs[j]? = some v):Ht xs (j:Int)=some v:=by
 have hj:j<xs.length:=(ao.mp h).1
 have e:KW xs.length (j:Int)=some j:=by
  unfold KW;rw[if_pos (by omega),if_pos (by omega)];simp
 unfold Ht;rw[e];exact h
def RU(b:Expr):Prop:=∀o i,subscripted b false o i=operate [o,i] (getItem o i)
def Xk(X:Cx)(r:R2):Prop:=
 ∀(value slice:Expr) (pins:List (Addr×Obj)) (s:Shared) (σ:St) (H:Hp) (x y:V) (v u:Value) (Q:VK),Inv X pins σ H s->RelV x v->RelV y u->r x y H Q ->
  subscripted slice false v u=operate [v,u] (getItem v u)->wpAny (model X.prog X.w) X.A (subscriptTail value slice v u) (EP X pins σ Q) X.xe s
def YY(X:Cx)(id:String)(r:V->List V->Hp->VK->Prop):Prop:=
 ∀(pins:List (Addr×Obj)) (s:Shared) (σ:St) (H:Hp) (x:V) (xs:List V) (v:Value) (us:List Value) (Q:VK),Inv X pins σ H s->RelV x v->Vals xs us->r x xs H Q ->
  wpAny (model X.prog X.w) X.A (call (.builtin id) (v::us)) (EP X pins σ Q) X.xe s
section
variable{X:Cx}{a b:Expr}{ta tb:TE}{pos:Pos}
theorem mi{r:R2}(hr:Xk X r)(ha:PE X a ta)(hb:PE X b tb)(hs:RU b):PE X (.Subscript a b pos) (Uj r ta tb):=by
 intro pins s σ H Q I h
 exact Subscript_ (Vf ha hb I h λ v u s2 x y H2 I2 rx ry q=>hr a b pins s2 σ H2 x y v u Q I2 rx ry q (hs _ _))
def Xl(K:aj):R2:=λ x y H Q=>∃p xs i v,x=.ref p/\y=.int i/\jO K H p xs/\Ht xs i=some v/\Q v H
def Xm(K:aj):R2:=λ x y H Q=>∃p xs i v,x=.ref p/\y=.int i/\sQ K H p xs/\Ht xs i=some v/\Q v H
theorem K0:Xk X (Xl X.K):=by
 intro value slice pins s σ H x y v u Q I rx ry h hs
 obtain⟨p,xs,i,z,rfl,rfl,hq,he,q⟩:=h
 cases rx
 obtain⟨t,rfl⟩:=ry
 obtain⟨its,r,pl,hz⟩:=I.list hq
 obtain⟨j,h1,h2,h3,h4,h5⟩:=KZ he
 obtain⟨w,ew,rw'⟩:=r.get h2
 have hl:=r.length
 have hn:=Cp
 have fin:EP X pins σ Q w s:=⟨z,H,I,rw',q⟩
 by_cases h0:0<=i
 ·have hj:i.toNat=j:=by
   rw[seqIndex_of h0 h5] at h1;exact aW h1
  exact item_listR pl.isList h0 (by omega) (by rw[hj];simpa using ew) fin hs
 ·have hj:(i+(its.toArray.size:Int)).toNat=j:=by
   rw[seqIndex_neg (by omega) h4] at h1;rw[aD,<-hl];exact aW h1
  exact subscriptTail_builtinR (x:=w) pl.isList.typeIs slot_list_getitem.lookup
   (wpAny_getItem_list_neg (Q:=λ r s'=>r=w/\EP X pins σ Q r s') pl.isList (by omega) (by rw[aD]<;>omega) (by omega) (by rw[hj];simpa using ew) ⟨rfl,fin⟩) hs
theorem Vn:Xk X (Xm X.K):=by
 intro value slice pins s σ H x y v u Q I rx ry h hs
 obtain⟨p,xs,i,z,rfl,rfl,hq,he,q⟩:=h
 cases rx
 obtain⟨t,rfl⟩:=ry
 obtain⟨its,r,pl,hz⟩:=I.tuple hq
 obtain⟨j,h1,h2,h3,h4,h5⟩:=KZ he
 obtain⟨w,ew,rw'⟩:=r.get h2
 have hl:=r.length
 have hn:=Cp
 have fin:EP X pins σ Q w s:=⟨z,H,I,rw',q⟩
 exact subscriptTail_builtinR (x:=w) pl.typeIs slot_tuple_getitem.lookup
  (getItem_tuple (j:=j) (Q:=λ r s'=>r=w/\EP X pins σ Q r s') pl (by omega) (by omega) (by rw[aD,<-hl];exact h1) (by simpa using ew) ⟨rfl,fin⟩) hs
theorem JF(its:List Value)(n j:Nat)(u:Value):Obj.mapSeq (·.setIfInBounds j u) { cls:=.type "list",data:=.seq its.toArray n } = { cls:=.type "list",data:=.seq (its.set j u).toArray n }:=by
 simp[Obj.mapSeq]
theorem Inv.lst{pins:List (Addr×Obj)}{σ:St}{H:Hp}{s:Shared}{p:Addr}{xs:List V}(I:Inv X pins σ H s)(h:H p=some (.lst xs)) :
  ∃(its:List Value) (n:Nat),Vals xs its/\s.heap.get? p=some { cls:=.type "list",data:=.seq its.toArray n }/\xs.length<=sizeLine:=by
 obtain⟨z,its,n,r,e⟩:=I.hok p _ h
 exact⟨its,n,r,e,z⟩
theorem Inv.Vo{pins:List (Addr×Obj)}{σ:St}{H:Hp}{s:Shared}{p:Addr}{xs ys:List V}{its its':List Value}{n n':Nat}{f:Obj->Obj}(I:Inv X pins σ H s)(h:H p=some (.lst xs))
  (ho:s.heap.get? p=some { cls:=.type "list",data:=.seq its.toArray n }) (hf:f { cls:=.type "list",data:=.seq its.toArray n } = { cls:=.type "list",data:=.seq its'.toArray n' }) (r:Vals ys its') (hz:ys.length<=sizeLine) (t:Nat) :
  Inv X pins σ (upd H p (.lst ys)) { s with heap:=s.heap.update p f,toks:=t }:=by
 have e:(s.heap.update p f).get? p=some { cls:=.type "list",data:=.seq its'.toArray n' }:=by
  rw[Heap.get?_update_self f ho (by rw[hf]<;>rfl),hf]
 refine I.write (x:=p) (e:=p) (by rw[h];trivial) (.inl rfl) (λ b u hb q=>(Heap.get?_update_other _ _ (Ne.symm hb)).trans q) ⟨_,e⟩ ?_
 exact⟨hz,its',n',r,e⟩
def Xn:V->V->V->Hp->(Hp->Prop)->Prop:=λ o i v H Q=>∃p xs k j,o=.ref p/\i=.int k/\H p=some (.lst xs)/\KW xs.length k=some j/\Q (upd H p (.lst (xs.set j v)))
theorem set_list:U9 X Xn:=by
 intro pins s σ H o i v ov iv u Q I ro ri rv h
 obtain⟨p,xs,k,j,rfl,rfl,hp,hj,q⟩:=h
 cases ro
 obtain⟨t,rfl⟩:=ri
 obtain⟨its,n,r,ho,hz⟩:=I.lst hp
 obtain⟨h1,h2,h3,h4⟩:=KY hj
 have hl:=r.length
 have hn:=Cp
 have I':Inv X pins σ (upd H p (.lst (xs.set j v))) { s with heap:=s.heap.update p (Obj.mapSeq (·.setIfInBounds j u)) }:=
  I.Vo hp ho (JF its n j u) (r.set rv j) (by rw[cG];exact hz) s.toks
 by_cases h0:0<=k
 ·have hk:k.toNat=j:=by
   rw[seqIndex_of h0 h4] at h1;exact aW h1
  exact PySem.W.ki_setAt ho h0 (by omega) (by rw[aD,<-hl];exact h4) (by rw[hk];exact⟨_,I',q⟩)
 ·have hk:(k+(its.toArray.size:Int)).toNat=j:=by
   rw[seqIndex_neg (by omega) h3] at h1;rw[aD,<-hl];exact aW h1
  exact PySem.W.ki_setBack ho (by omega) (by rw[aD,<-hl];exact h3) (by omega) (by rw[hk];exact⟨_,I',q⟩)
theorem Gw(lo hi:Option Int)(n:Nat):(sliceBounds lo hi none n).1=((HT.Jl n 0 lo:Nat):Int)/\(sliceBounds lo hi none n).2.1=((HT.Jl n n hi:Nat):Int)/\(sliceBounds lo hi none n).2.2=1:=by
 refine⟨?_,?_,rfl⟩
 ·cases lo with
  |none=>simp[sliceBounds,HT.Jl]
  |some i=>
   simp only[sliceBounds,HT.Jl,Option.getD_none,show (1:Int)>0 by decide,if_true]
   by_cases h:i<0
   ·simp only[h,if_true]<;>omega
   ·simp only[h,if_false]<;>omega
 ·cases hi with
  |none=>simp[sliceBounds,HT.Jl]
  |some i=>
   simp only[sliceBounds,HT.Jl,Option.getD_none,show (1:Int)>0 by decide,if_true]
   by_cases h:i<0
   ·simp only[h,if_true]<;>omega
   ·simp only[h,if_false]<;>omega
theorem EA(its:List Value)(lo hi:Option Int):slicePick its.toArray lo hi none=((its.drop (HT.Jl its.length 0 lo)).take (HT.Jl its.length its.length hi-HT.Jl its.length 0 lo)).toArray:=by
 obtain⟨h1,h2,h3⟩:=Gw lo hi its.toArray.size
 unfold slicePick
 rw[h1,h2,h3]
 simp only[sliceRange_one,pick_run,aD]<;>rfl
def Xo(K:aj):V->Option Int->Option Int->Hp->VK->Prop:=λ x lo hi H Q=>∃a xs,x=.ref a/\jO K H a xs/\∀p,H p=none->Q (.ref p) (upd H p (.lst (Mm xs lo hi)))
theorem K2:SlR X (Xo X.K):=by
 intro pins s σ H x v vl vu lo hi sl Q I rx hs pl pu h
 obtain⟨a,xs,rfl,hx,q⟩:=h
 cases rx
 obtain⟨its,r,ht,hz⟩:=I.list hx
 have hlen:=r.length
 refine⟨"list",_,slot_list_getitem.lookup,ht.isList.typeIs,?_⟩
 refine wpAny_getItem_list_slice ht.isList hs pl pu .none (by simp) ?_ (by rw[aD]<;>omega)
 rw[EA,<-hlen]
 refine⟨.ref s.heap.objs.size,_,I.laid (t':=s.toks) (o:=.lst (Mm xs lo hi)) (λ b ob q=>Heap.get?_push_of_some _ q) (au _) ?_,rfl,q _ (I.hok.fresh (au _))⟩
 exact⟨bf (HC xs lo hi) hz,_,0,(r.drop (HT.Jl xs.length 0 lo)).take (HT.Jl xs.length xs.length hi-HT.Jl xs.length 0 lo),Heap.get?_push_size _ rfl⟩
theorem jY:uf X (.builtin "len") (λ xs H Q=>∃p ys,xs=[.ref p]/\(jO X.K H p ys\/sQ X.K H p ys)/\Q (.int ys.length) H):=by
 intro pins s σ H xs us Q I r h
 obtain⟨p,ys,rfl,hq,q⟩:=h
 obtain⟨u,rfl,rx⟩:=vals1 r
 cases rx
 have hn:=Cp
 rcases hq with hq | hq
 ·obtain⟨its,r',pl,hz⟩:=I.list hq
  have hlen:=r'.length;exact Calls.call_len_list pl.isList (by simp only[aD]<;>omega) ⟨.int ys.length,H,I.tok _,⟨s.toks+1,by rw[aD,hlen]⟩,q⟩
 ·obtain⟨its,r',pl,hz⟩:=I.tuple hq
  have hlen:=r'.length;exact len_tuple pl (by simp only[aD]<;>omega) ⟨.int ys.length,H,I.tok _,⟨s.toks+1,by rw[aD,hlen]⟩,q⟩
theorem pC:uf X (.type "list") (λ xs H Q=>∃p ys,xs=[.ref p]/\(jO X.K H p ys\/sQ X.K H p ys)/\∀l,H l=none->Q (.ref l) (upd H l (.lst ys))):=by
 intro pins s σ H xs us Q I r h
 obtain⟨p,ys,rfl,hq,q⟩:=h
 obtain⟨u,rfl,rx⟩:=vals1 r
 cases rx
 have fin:∀(its:List Value),Vals ys its->ys.length<=sizeLine->∀(h':Heap) (c':Nat),(∀b o',s.heap.get? b=some o'->h'.get? b=some o') ->
   h'.get? s.heap.objs.size=some { cls:=.type "list",dict:=none,data:=.seq its.toArray c',slots:=#[] }->EP X pins σ Q (.ref s.heap.objs.size) { s with heap:=h' }:=λ its r' hz h' c' kp e=>
  ⟨.ref s.heap.objs.size,_,I.laid (t':=s.toks) kp (au _) (show pN X.prog X.w _ h' _ (.lst ys) from ⟨hz,its,c',r',e⟩),rfl,q _ (I.hok.fresh (au _))⟩
 rcases hq with hq | hq
 ·obtain⟨its,r',pl,hz⟩:=I.list hq
  have hlen:=r'.length;obtain⟨o,ho,hc,n,hd⟩:=pl.isList;exact call_list_seq p (.inl rfl) ho hc hd (λ h' c' kp e=>fin its r' hz h' c' kp e) (by simp only[aD]<;>omega)
 ·obtain⟨its,r',pl,hz⟩:=I.tuple hq
  have hlen:=r'.length;obtain⟨o,ho,hc,n,hd⟩:=pl;exact call_list_seq p (.inr rfl) ho hc hd (λ h' c' kp e=>fin its r' hz h' c' kp e) (by simp only[aD]<;>omega)
theorem EB:uf X (.type "tuple") (λ xs H Q=>∃p ys,xs=[.ref p]/\((jO X.K H p ys/\∀l,H l=none->Q (.ref l) (upd H l (.tup ys)))\/(sQ X.K H p ys/\Q (.ref p) H))):=by
 intro pins s σ H xs us Q I r h
 obtain⟨p,ys,rfl,h⟩:=h
 obtain⟨u,rfl,rx⟩:=vals1 r
 cases rx
 rcases h with ⟨hq,q⟩ | ⟨hq,q⟩
 ·obtain⟨its,r',pl,hz⟩:=I.list hq
  have hlen:=r'.length;refine call_tuple_list pl.isList (λ h' kp=>?_) (by simp only[aD]<;>omega);have I1:Inv X pins σ H { s with heap:=h' }:=I.kept (t':=s.toks) kp;have I2:Inv X pins σ (upd H h'.objs.size (.tup ys)) { s with heap:=h'.push { cls:=.type "tuple",data:=.seq its.toArray } }:=
   I1.laid (t':=s.toks) (λ b o e=>Heap.get?_push_of_some _ e) (au _) (show pN X.prog X.w _ _ _ (.tup ys) from ⟨hz,its,r',IsTup.new _ _⟩)
  exact⟨.ref h'.objs.size,_,I2,rfl,q _ (I1.hok.fresh (au _))⟩
 ·obtain⟨its,r',pl,hz⟩:=I.tuple hq
  exact call_tuple_same pl ⟨.ref p,H,I,rfl,q⟩
def tyV(K:aj)(T:String)(x:V)(H:Hp):Prop:=match x with
 |.str _=>T = "str"
 |.int _=>T = "int"
 |.ref p=>(T = "list"/\∃xs,jO K H p xs)\/(T = "tuple"/\∃o,K.lookup p=some o/\o.cls=.type "tuple"/\o.dict=none) \/
   (T = "dict"/\((∃kvs,H p=some (.dK kvs))\/∃kvs,H p=some (.dT kvs)))\/(T = "set"/\∃S n,H p=some (.set S n))
 |_=>False
theorem Vp{pins:List (Addr×Obj)}{σ:St}{H:Hp}{s:Shared}{T:String}{x:V}{v:Value}(I:Inv X pins σ H s)(r:RelV x v)(ty:tyV X.K T x H) :
  s.TypeIs v T/\∀a,v=.ref a->∃ob,s.heap.get? a=some ob/\ob.dict=none:=by
 cases x with
 |str z=>
  obtain⟨t,rfl⟩:=r
  cases (show T = "str" from ty);exact⟨typeIs_str s z t,λ _ e=>nomatch e⟩
 |int i=>
  obtain⟨t,rfl⟩:=r
  cases (show T = "int" from ty);exact⟨typeIs_int s i t,λ _ e=>nomatch e⟩
 |ref p=>
  cases r
  rcases ty with ⟨rfl,xs,hq⟩ | ⟨rfl,o,hk,hc,hd⟩ | ⟨rfl,hk⟩ | ⟨rfl,S,n,hk⟩
  ·obtain⟨its,_,pl,_⟩:=I.list hq;refine⟨pl.isList.typeIs,λ a e=>?_⟩
   cases e;obtain⟨o,n,e,c,hd,_⟩:=pl;exact⟨o,e,hd⟩
  ·refine⟨⟨o,I.Jj p o hk,hc⟩,λ a e=>?_⟩
   cases e;exact⟨o,I.Jj _ o hk,hd⟩
  ·have z:∃o,s.heap.get? p=some o/\o.ExactDict:=by
    rcases hk with ⟨kvs,hk⟩ | ⟨kvs,hk⟩
    ·obtain⟨_,_,_,_,o,_,_,e,ex,_⟩:=I.hok p _ hk;exact⟨o,e,ex⟩
    ·obtain⟨_,_,_,_,o,_,_,e,ex,_⟩:=I.hok p _ hk;exact⟨o,e,ex⟩
   obtain⟨o,e,ex⟩:=z;refine⟨⟨o,e,ex.1⟩,λ a e2=>?_⟩
   cases e2;exact⟨o,e,ex.2.1⟩
  ·obtain⟨o,_,_,_,e,ex,_⟩:=I.hok p _ hk;refine⟨⟨o,e,ex.1⟩,λ a e2=>?_⟩
   cases e2;exact⟨o,e,ex.2.1⟩
 |_=>exact False.elim ty
def tBM(K:aj)(T:String)(r:V->List V->Hp->VK->Prop)(to:TE)(t:TA):TE:=λ σ H Q=>to σ H λ x H1=>tyV K T x H1/\t σ H1 λ xs H2=>r x xs H2 Q
variable{o e:Expr}{es:List Expr}{to:TE}{t:TA}{name:Str}{apos cpos:Pos}{T id:String}{r:V->List V->Hp->VK->Prop}
theorem Be(pa:PlainAttrs T)(slot:Slot T name id)(hty:typeOf (.builtin id)=pure (.type "method_descriptor"))(hm:YY X id r)(ho:PE X o to)(ha:PA X (e::es) t)
  (hbase:attributeBase o name X.env (eval o X.env)=eval o X.env:=by rfl)
  (hfew:((backTo cpos (starEach (e::es) X.env)).all (λ x=>!x.1)&&(backToKw cpos (keywordEach [] X.env)).all (λ x=>x.1.isSome)
   && decide ((e::es).length+([]:List Keyword).length+(if ([]:List Keyword).isEmpty then 0 else 1)<30))=true:=by rfl)
  (hline:(apos.endLine==cpos.line)=true:=by rfl) (hs:starEach (e::es) X.env=(false,eval e X.env)::starEach es X.env:=by rfl) (hplain:(backTo cpos (starEach es X.env)).any (·.1)=false:=by rfl) :
  PE X (.Call (.Attribute o name apos) (e::es) [] cpos) (tBM X.K T r to t):=by
 intro pins s σ H Q I h
 refine wpAny_Call_method_late hbase hfew hline rfl (mP (ho pins s σ H _ I h) λ v s1 ⟨x,H1,I1,r1,ty,q1⟩=>?_)
 obtain⟨h1,h2⟩:=Vp I1 r1 ty
 refine⟨T,id,pa,slot,hty,h1,h2,?_⟩
 have hA:=ha cpos pins s1 σ H1 _ I1 q1
 rw[hs] at hA ⊢
 refine Calls.callWith_builtin (by show (false||(backTo cpos (starEach es X.env)).any (·.1))=false;rw[hplain]<;>rfl) (Calls.evalArgs_plain ?_)
 exact mP hA λ us s2 ⟨vs,H2,I2,r2,q2⟩=>hm pins s2 σ H2 x vs v us Q I2 r1 r2 q2
end
end L2
namespace L2
open PySem PySem.Spec PyProof.Rows
def MtM(X:Cx)(id:String)(r:V->List V->Hp->VK->Prop):Prop:=
 ∀(pins:List (Addr×Obj)) (s:Shared) (σ:St) (H:Hp) (x:V) (xs:List V) (v:Value) (us:List Value) (Q:VK),Inv X pins σ H s->RelV x v->Vals xs us->r x xs H Q ->
  wpAny (model X.prog X.w) X.A (call (.builtin id) (v::us)) (EP X pins σ Q) X.xe s
theorem Vals.one:∀{x:V}{us:List Value},Vals [x] us->∃u,us=[u]/\RelV x u
 |_,_,.cons r .nil=>⟨_,rfl,r⟩
theorem Vals.reverse{xs:List V}{us:List Value}(h:Vals xs us):Vals xs.reverse us.reverse:=by
 induction h with
 |nil=>exact .nil
 |cons r t ih=>rw[List.reverse_cons,List.reverse_cons];exact Vals.append ih (.cons r .nil)
theorem Vals.rep{xs:List V}{us:List Value}(h:Vals xs us):∀k:Nat,Vals (aJ k xs).flatten (aJ k us).flatten
 |0=>.nil
 |k+1=>by
  rw[cU,cU,dY,dY];exact Vals.append h (Vals.rep h k)
theorem foldl_rep(its:List Value):∀(k:Nat) (acc:List Value),
  List.foldl (λ x1 x2=>x1++x2) acc.toArray (aJ k its.toArray)=(acc++(aJ k its).flatten).toArray
 |0,acc=>by simp
 |k+1,acc=>by
  have e:acc.toArray++its.toArray=(acc++its).toArray:=by simp
  have e2:(acc++its)++(aJ k its).flatten=acc++(aJ (k+1) its).flatten:=by
   rw[cU,dY,cR]
  rw[<-e2,<-foldl_rep its k (acc++its),<-e,cU,dR]
section
variable{X:Cx}{pins:List (Addr×Obj)}{σ:St}{H:Hp}{s:Shared}{l b:Addr}{xs ys zs:List V}
theorem Inv.Xp{its its':List Value}{n:Nat}{f:Array Value->Array Value}{t':Nat}(I:Inv X pins σ H s)(hH:H l=some (.lst xs))
  (e:s.heap.get? l=some { cls:=.type "list",data:=.seq its.toArray n }) (hf:f its.toArray=its'.toArray) (hv:Vals ys its') (hz:ys.length<=sizeLine) :
  Inv X pins σ (upd H l (.lst ys)) { s with heap:=s.heap.update l (Obj.mapSeq f),toks:=t' }:=by
 have q:=PySem.IsL.update e f
 rw[hf] at q
 refine I.write (x:=l) (e:=l) (by rw[hH];exact trivial) (.inl rfl) (λ b' u hb hu=>(Heap.get?_update_other s.heap (Obj.mapSeq f) (Ne.symm hb)).trans hu) ⟨_,q⟩ ?_
 exact⟨hz,its',_,hv,q⟩
theorem Inv.Xq{its:List Value}{t':Nat}(I:Inv X pins σ H s)(hv:Vals ys its)(hz:ys.length<=sizeLine) :
  Inv X pins σ (upd H s.heap.objs.size (.lst ys)) { s with heap:=s.heap.push { cls:=.type "list",data:=.seq its.toArray },toks:=t' }:=
 I.laid (λ _ _ q=>Heap.get?_push_of_some _ q) (au _) ⟨hz,its,0,hv,Heap.get?_push_size _ rfl⟩
theorem Inv.fresh(I:Inv X pins σ H s):H s.heap.objs.size=none:=I.hok.fresh (au _)
theorem Inv.Mn(I:Inv X pins σ H s)(hH:H l=some (.lst xs)):xs.length<=sizeLine/\∃(its:List Value) (n:Nat),Vals xs its/\xs.length=its.length/\s.heap.get? l=some { cls:=.type "list",data:=.seq its.toArray n }:=by
 obtain⟨z,its,n,r,e⟩:=I.hok l _ hH
 exact⟨z,its,n,r,r.length,e⟩
theorem HD{n:Nat}(h:n<=sizeLine):Builtin.List.listTooLong n=false:=by
 unfold Builtin.List.listTooLong
 exact decide_eq_false (by omega)
end
section
variable{X:Cx}
def RV:V->List V->Hp->VK->Prop:=λ x vs H Q=>∃l xs y,x=.ref l/\vs=[y]/\H l=some (.lst xs)/\xs.length<sizeLine/\Q .qZ (upd H l (.lst (xs++[y])))
theorem rG:MtM X "list.append" RV:=by
 intro pins s σ H x vs v us Q I rx rv h
 obtain⟨l,xs,y,rfl,rfl,hH,hz,q⟩:=h
 cases rx
 obtain⟨u,rfl,ru⟩:=rv.one
 obtain⟨z,its,n,r,hl,e⟩:=I.Mn hH
 refine call_meets F.slot_list_append ⟨_,e,rfl⟩ F.entry_list_append (F.args_list_append_2 _ _) (PySem.list_append l its.toArray n u (by rw[aD];omega)) ⟨e,?_⟩
 refine⟨.qZ,_,I.Xp (its':=its++[u]) hH e (by simp) (r.append (.cons ru .nil)) ?_,rfl,q⟩
 rw[aG,List.length_singleton]
 omega
def RW:V->List V->Hp->VK->Prop:=λ x vs H Q=>∃l b xs zs,x=.ref l/\vs=[.ref b]/\H l=some (.lst xs)/\H b=some (.lst zs)/\xs.length+zs.length<=sizeLine/\Q .qZ (upd H l (.lst (xs++zs)))
theorem Mp:MtM X "list.extend" RW:=by
 intro pins s σ H x vs v us Q I rx rv h
 obtain⟨l,b,xs,zs,rfl,rfl,hH,hB,hz,q⟩:=h
 cases rx
 obtain⟨u,rfl,ru⟩:=rv.one
 cases ru
 obtain⟨z,its,n,r,hl,e⟩:=I.Mn hH
 obtain⟨z2,its2,n2,r2,hl2,e2⟩:=I.Mn hB
 have hsz:its.toArray.size+its2.toArray.size<=sizeLine:=by rw[aD,aD];omega
 have OF:¬(!its.toArray.isEmpty&&Builtin.List.listTooLong (its.toArray.size+its2.toArray.size))=true:=by
  rw[HD hsz,iN];exact aP
 refine call_meets F.slot_list_extend ⟨_,e,rfl⟩ F.entry_list_extend (F.args_list_extend_2 _ _)
  (AutoSeq1.list_extend_list_list_0 l its.toArray n b its2.toArray n2 OF (by rw[aD];omega) (by omega)) ⟨e,e2,?_⟩
 refine⟨.qZ,_,I.Xp (its':=its++its2) hH e (by simp) (r.append r2) ?_,rfl,q⟩
 rw[aG]
 omega
def Xr:R2:=λ x y H Q=>∃l b xs zs,x=.ref l/\y=.ref b/\H l=some (.lst xs)/\H b=some (.lst zs)/\xs.length+zs.length<=sizeLine/\∀p,H p=none->Q (.ref p) (upd H p (.lst (xs++zs)))
theorem u5:xN X (binaryOp .Add) Xr:=by
 intro pins s σ H x y v u Q I rx ry h
 obtain⟨l,b,xs,zs,rfl,rfl,hH,hB,hz,q⟩:=h
 cases rx
 cases ry
 obtain⟨z,its,n,r,hl,e⟩:=I.Mn hH
 obtain⟨z2,its2,n2,r2,hl2,e2⟩:=I.Mn hB
 refine PySem.P.add_list e e2 ?_ (by rw[aD,aD];omega)
 have ea:its.toArray++its2.toArray=(its++its2).toArray:=by simp
 rw[ea]
 exact⟨.ref _,_,I.Xq (t':=s.toks) (r.append r2) (by rw[aG];omega),rfl,q _ I.fresh⟩
def ZJ:R2:=λ x y H Q=>∃l k xs,x=.ref l/\y=.int k/\H l=some (.lst xs)/\-(2^63)<=k/\k<2^63/\xs.length*k.toNat<=sizeLine /\
 ∀p,H p=none->Q (.ref p) (upd H p (.lst (aJ k.toNat xs).flatten))
theorem len_rep{α:Type}(xs:List α)(k:Nat):(aJ k xs).flatten.length=k*xs.length:=by
 induction k with
 |zero=>simp
 |succ k ih=>rw[cU,dY,aG,ih,Nat.succ_mul,Nat.add_comm]
theorem Vq:xN X (binaryOp .Mult) ZJ:=by
 intro pins s σ H x y v u Q I rx ry h
 obtain⟨l,k,xs,rfl,rfl,hH,h1,h2,hz,q⟩:=h
 cases rx
 obtain⟨t,rfl⟩:=ry
 obtain⟨z,its,n,r,hl,e⟩:=I.Mn hH
 have hlen:its.toArray.size*k.toNat<=sizeLine:=by rw[aD,<-hl];exact hz
 have hcap:¬its.toArray.size*k.toNat>(2^63-1)/8:=by
  have:(sizeLine:Nat)<=(2^63-1)/8:=by decide
  omega
 have hfit:¬(!Builtin.List.listFitsIndex k)=true:=by
  rw[fitsIndex_both h1 h2];exact aP
 have OF:¬Builtin.List.listTooLong (its.toArray.size*k.toNat)=true:=by
  rw[HD hlen];exact aP
 have hnew:List.foldl (λ x1 x2=>x1++x2) #[] (aJ (if its.toArray.isEmpty=true then 0 else k.toNat) its.toArray)=(aJ k.toNat its).flatten.toArray:=by
  have f0:∀m:Nat,List.foldl (λ x1 x2=>x1++x2) #[] (aJ m its.toArray)=(aJ m its).flatten.toArray:=λ m=>by
   have:=foldl_rep its m [];rw[dS] at this;exact this
  rw[f0]
  cases its with
  |nil=>simp
  |cons a r'=>rw[if_neg (by simp)]
 refine wpAny_binaryOp_repeat_ref (T:="list") (U:="int") (by decide) ⟨_,e,rfl⟩ (λ s'=>typeIs_int s' k t) noFill_list_mul F.fills_int_mul F.slot_int_rmul repeat_list F.slot_int_index.lookup
  (call_meets F.slot_int_rmul (typeIs_int s k t) F.entry_int_rmul (F.args_int_rmul_2 _ _) (int___rmul___int_list k t l its.toArray n)
   ⟨e,rfl,⟨_,e,rfl⟩,call_meets F.slot_list_mul ⟨_,e,rfl⟩ F.entry_list_mul (F.args_list_mul_2 _ _) (AutoListH.list___mul___list_int_3 l its.toArray n k t hfit hcap OF) ⟨e,?_⟩⟩)
 rw[hnew]
 exact⟨.ref _,_,I.Xq (t':=s.toks) (r.rep k.toNat) (by rw[len_rep,iz];exact hz),rfl,q _ I.fresh⟩
end
section
variable{prog:Program}{w:World}{A:Around}{E:Value->Shared->Prop}{s:Shared}
set_option maxRecDepth 100000 in
end
section
variable{X:Cx}
end
end L2
namespace L2
open PySem PySem.Spec PyProof.Rows
theorem Vals.ints:∀{ns:List Int}{us:List Value},Vals (ns.map V.int) us->IntsAre us ns
 |[],us,h=>by
  rw[bV] at h
  cases h;exact IntsAre.nil
 |n::ns,us,h=>by
  rw[aS] at h
  cases h with
  |cons r t=>
   obtain⟨k,rfl⟩:=r;exact IntsAre.cons n k (Vals.ints t)
theorem Gx:∀{us:List Value}{ns:List Int},IntsAre us ns->Vals (ns.map V.int) us
 |_,_,.nil=>by rw[bV];exact Paired.nil
 |_,_,.cons n t h=>by rw[aS];exact Paired.cons (show RelV (V.int n) (Value.int n t) from ⟨t,rfl⟩) (Gx h)
theorem Vals.ZK:∀{bs:List Bool}{us:List Value},Vals (bs.map V.bl) us->us=bs.map Value.bool
 |[],us,h=>by
  rw[bV] at h
  cases h;rfl
 |b::bs,us,h=>by
  rw[aS] at h
  cases h with
  |cons r t=>
   cases r;rw[Vals.ZK t,aS]
theorem Vals.JG{a:Addr}{us:List Value}(r:Vals [V.ref a] us):us=[Value.ref a]:=by
 cases r with
 |cons r t=>
  cases t
  cases r;rfl
section
variable{prog:Program}{w:World}{A:Around}{E:Value->Shared->Prop}{s:Shared}{l:Addr}{its:List Value}{ns:List Int}{Q:Value->Shared->Prop}
theorem RX(hh:A.handled=none)(hl:s.heap.IsList l its.toArray)(hi:IntsAre its ns)
  (h:∀h' tk t',(∀b o,s.heap.get? b=some o->h'.get? b=some o)->Q (.int ns.sum t') { s with heap:=h',toks:=tk }):wpAny (model prog w) A (call (.builtin "sum") [.ref l]) Q E s:=by
 obtain⟨xs,e⟩:=hi.allInts.items
 have hn:numsOf (intItems xs).toList=ns:=by rw[<-e];exact hi.numsOf
 rw[nums_intItems] at hn
 rw[e] at hl
 refine PySem.sum_intListG hh hl λ h' tk t' hk=>?_
 have:=h h' tk t' hk
 rw[preSum_eq,aA (by simp),hn];exact this
end
section
variable{X:Cx}
def ZL(K:aj):List V->Hp->VK->Prop:=λ vs H Q=>∃(a:Addr) (ns:List Int),vs=[V.ref a]/\jO K H a (ns.map V.int)/\Q (.int ns.sum) H
theorem OG(hc:X.calm=true):uf X (.builtin "sum") (ZL X.K):=by
 intro pins s σ H vs us Q I r h
 obtain⟨a,ns,rfl,hs,q⟩:=h
 obtain⟨its,rv,hl,_⟩:=I.list hs
 rw[Vals.JG r]
 exact RX (I.ok.hd hc) hl.isList rv.ints λ h' tk t' hk=>⟨.int _,H,I.kept hk,⟨_,rfl⟩,q⟩
end
section
variable{X:Cx}
end
section
variable{X:Cx}
end
theorem Cv{prog:Program}{w:World}{A:Around}{E:Value->Shared->Prop}{s:Shared}{l:Addr}{items:Array Value}{Q:Value->Shared->Prop}(hl:s.heap.IsList l items)
  (h:∀s₂:Shared,s₂ = { s with heap:=s.heap.push { cls:=.type "list_iterator",data:=.fields #[.ref l,.int 0 0] } } ->
   (s₂.heap.IsListIter s.heap.objs.size l 0/\s₂.heap.IsList l items)->l≠s.heap.objs.size->Q (.ref s.heap.objs.size) s₂):wpAny (model prog w) A (pyIter (.ref l)) Q E s:=by
 have hlt:l<s.heap.objs.size:=by obtain⟨_,e,_⟩:=hl;exact Heap.lt_size e
 exact wpAny_pyIter_list hl (h _ rfl ⟨⟨_,Heap.get?_push_size _ rfl,rfl,rfl⟩,hl.push _⟩ (aZ hlt))
theorem Bf{prog:Program}{w:World}{A:Around}{bs:List Bool}{its:List Value}(e:its=bs.map Value.bool) :
  TruthOf prog w A (λ i v=>its.toArray[i]? = some v) (λ i=>bs.getD i false):=λ i v s Q E hv hq=>by
 have hv':its[i]? = some v:=by simpa using hv
 rw[e,ai] at hv'
 obtain⟨b,hb,rfl⟩:=dN.mp hv'
 have hg:bs.getD i false=b:=by rw[aa,hb]<;>rfl
 have hq':Q (bs.getD i false) s:=hq
 rw[hg] at hq'
 exact wpAny_truthy_bool hq'
theorem any_range:∀bs:List Bool,(ay bs.length).any (λ i=>bs.getD i false)=bs.any id
 |[]=>rfl
 |b::bs=>by
  rw[aK,fJ,iY,jh,iY,<-any_range bs]
  all_goals rfl
theorem all_range:∀bs:List Bool,(ay bs.length).all (λ i=>bs.getD i false)=bs.all id
 |[]=>rfl
 |b::bs=>by
  rw[aK,fJ,dW,ji,dW,<-all_range bs]
  all_goals rfl
section
variable{X:Cx}
def ZM(K:aj):List V->Hp->VK->Prop:=λ vs H Q=>∃(a:Addr) (bs:List Bool),vs=[V.ref a]/\jO K H a (bs.map V.bl)/\Q (.bl (bs.any id)) H
def Xs(K:aj):List V->Hp->VK->Prop:=λ vs H Q=>∃(a:Addr) (bs:List Bool),vs=[V.ref a]/\jO K H a (bs.map V.bl)/\Q (.bl (bs.all id)) H
theorem Vr(hc:X.calm=true):uf X (.builtin "any") (ZM X.K):=by
 intro pins s σ H vs us Q I r h
 obtain⟨a,bs,rfl,hs,q⟩:=h
 obtain⟨its,rv,hl,_⟩:=I.list hs
 rw[Vals.JG r]
 have hb:=rv.ZK
 refine call_any_walk (Cv hl.isList λ s₂ e2 st hne=>?_)
 subst e2
 refine⟨_,_,_,_,_,_,_,rfl,Walks.list (A:=X.A.in1) (I.ok.hd hc) _ a hne its.toArray,st,Bf hb,λ h' tk hk=>?_⟩
 refine⟨.bl _,H,I.kept λ b o eo=>hk b o (λ hmem=>?_) (Heap.get?_push_of_some _ eo),?_,q⟩
 ·rcases aC.mp hmem with e1 | hmem
  ·exact absurd (e1 ▸ Heap.lt_size eo) (bI _)
  ·cases hmem
 ·show Value.bool _=Value.bool _
  rw[<-any_range,hb,aD,ah]
theorem OH(hc:X.calm=true):uf X (.builtin "all") (Xs X.K):=by
 intro pins s σ H vs us Q I r h
 obtain⟨a,bs,rfl,hs,q⟩:=h
 obtain⟨its,rv,hl,_⟩:=I.list hs
 rw[Vals.JG r]
 have hb:=rv.ZK
 refine call_all_walk (Cv hl.isList λ s₂ e2 st hne=>?_)
 subst e2
 refine⟨_,_,_,_,_,_,_,rfl,Walks.list (A:=X.A.in1) (I.ok.hd hc) _ a hne its.toArray,st,Bf hb,λ h' tk hk=>?_⟩
 refine⟨.bl _,H,I.kept λ b o eo=>hk b o (λ hmem=>?_) (Heap.get?_push_of_some _ eo),?_,q⟩
 ·rcases aC.mp hmem with e1 | hmem
  ·exact absurd (e1 ▸ Heap.lt_size eo) (bI _)
  ·cases hmem
 ·show Value.bool _=Value.bool _
  rw[<-all_range,hb,aD,ah]
end
mutual
inductive Dp(K:aj)(H:Hp):V->PyData->Prop
 |qZ:Dp K H .qZ .none
 |bl (b:Bool):Dp K H (.bl b) (.bool b)
 |int (i:Int):Dp K H (.int i) (.int i)
 |str (x:Str):Dp K H (.str x) (.str x)
 |lst {a:Addr} {xs:List V} {ds:List PyData}:jO K H a xs->Cw K H xs ds->Dp K H (.ref a) (.list ds)
 |tup {a:Addr} {xs:List V} {ds:List PyData}:sQ K H a xs->Cw K H xs ds->Dp K H (.ref a) (.tuple ds)
inductive Cw(K:aj)(H:Hp):List V->List PyData->Prop
 |nil:Cw K H [] []
 |cons {v:V} {vs:List V} {d:PyData} {ds:List PyData}:Dp K H v d->Cw K H vs ds->Cw K H (v::vs) (d::ds)
end
section
variable{X:Cx}{pins:List (Addr×Obj)}{σ:St}{H:Hp}{s:Shared}
mutual
theorem Dp.reads(I:Inv X pins σ H s):∀(d:PyData) (v:V) (u:Value),Dp X.K H v d->RelV v u->∃as,Reads s.heap u d as
 |.none,_,_,h,r=>by
  cases h
  cases r;exact⟨_,Reads.none⟩
 |.bool b,_,_,h,r=>by
  cases h
  cases r;exact⟨_,Reads.bool b⟩
 |.int i,_,_,h,r=>by
  cases h;obtain⟨t,rfl⟩:=r;exact⟨_,Reads.int i t⟩
 |.str x,_,_,h,r=>by
  cases h;obtain⟨t,rfl⟩:=r;exact⟨_,Reads.str x t⟩
 |.list ds,_,_,h,r=>by
  cases h with
  |lst hs ha=>
   cases r;obtain⟨its,rv,⟨o,n,ho,hc,_,hd⟩,_⟩:=I.list hs;obtain⟨as,hr⟩:=Dp.readsAll I ds _ its ha rv;exact⟨_,Reads.list ho hc hd hr⟩
 |.tuple ds,_,_,h,r=>by
  cases h with
  |tup hs ha=>
   cases r;obtain⟨its,rv,⟨o,ho,hc,n,hd⟩,_⟩:=I.tuple hs;obtain⟨as,hr⟩:=Dp.readsAll I ds _ its ha rv;exact⟨_,Reads.tuple ho hc hd hr⟩
 |.dict _,_,_,h,_=>by cases h
theorem Dp.readsAll(I:Inv X pins σ H s):∀(ds:List PyData) (vs:List V) (us:List Value),Cw X.K H vs ds->Vals vs us->∃as,ReadsAll s.heap us ds as
 |[],_,_,h,r=>by
  cases h
  cases r;exact⟨_,ReadsAll.nil⟩
 |d::ds,_,_,h,r=>by
  cases h with
  |cons h1 h2=>
   cases r with
   |cons r1 r2=>
    obtain⟨as,q1⟩:=Dp.reads I d _ _ h1 r1;obtain⟨bs,q2⟩:=Dp.readsAll I ds _ _ h2 r2;exact⟨_,ReadsAll.cons q1 q2⟩
end
end
section
variable{X:Cx}
def ZN(K:aj):R2:=λ x y H Q=>∃d e,Dp K H x d/\Dp K H y e/\SeqAt.shaped d=true/\SeqAt.shaped e=true/\Q (.bl (PyData.eqv d e)) H
theorem OI(hu:X.A.units+64<cLine):xN X (compareOp .Eq) (ZN X.K):=by
 intro pins s σ H x y v u Q I rx ry h
 obtain⟨d,e,hd,he,sd,se,q⟩:=h
 obtain⟨as,r1⟩:=Dp.reads I d x v hd rx
 obtain⟨bs,r2⟩:=Dp.reads I e y u he ry
 exact SeqAt.compareEq_shaped r1 r2 sd se hu ⟨.bl _,H,I,rfl,q⟩
end
end L2
namespace L2
open PySem PySem.Spec PyProof.Rows
abbrev OJ(h:Heap)(c:Addr)(v:Option Value):Prop:=h.IsCell c v
def ZO(scope sc:Scope):Scope:=
 { scope with names:=scope.names.map λ(n,k)=>if (k == .free&&sc.kind == .function&&sc.names.lookup n==some .cell) then (n,.cell) else (n,k) }
def kM(cells:List (Str×Addr)):List (Str×NameKind)->List (Str×Addr)->List (Str×Addr)
 |[],acc=>acc
 | (n,k)::r,acc=>if k == .free then kM cells r ((n,(cells.lookup n).getD 0)::acc) else kM cells r acc
theorem zl(env:Env)(f:Str×NameKind->List (Str×Addr)->Sem (ForInStep (List (Str×Addr))))
  (hf:∀n k c,f (n,k) c=if k == .free then (do let a <-cellOf env n;pure (.yield ((n,a)::c))) else pure (.yield c)) :
  ∀(names:List (Str×NameKind)) (acc:List (Str×Addr)),(∀y∈names,y.2=.free->∃c,env.cells.lookup y.1=some c)->forIn names acc f=pure (kM env.cells names acc)
 |[],acc,_=>by rw[List.forIn_nil];rfl
 | (n,k)::r,acc,h=>by
  rw[List.forIn_cons,hf];have ih:=λ acc=>zl env f hf r acc λ y hy=>h y (aO _ hy)
  unfold kM
  by_cases hk:(k==NameKind.free)=true
  ·rw[if_pos hk,if_pos hk];obtain⟨c,hc⟩:=h (n,k) aQ (by simpa using hk);have e:cellOf env n=pure c:=by unfold cellOf;rw[hc]
   rw[e];have e2:(env.cells.lookup n).getD 0=c:=by rw[hc];rfl
   rw[e2];exact ih _
  ·rw[if_neg hk,if_neg hk];exact ih _
theorem Cy{scope:Scope}{env:Env}(h:∀y∈scope.names,y.2=.free->∃c,env.cells.lookup y.1=some c):closureFor scope env=pure (kM env.cells scope.names []):=by
 simp only[closureFor]
 rw[zl env _ (λ n k c=>rfl) scope.names [] h]
 rfl
theorem mem_lookup{α:Type}:∀{l:List (Str×α)}{n:Str}{c:α},(n,c)∈l->∃c',l.lookup n=some c'
 | (k,v)::r,n,c,h=>by
  rw[cM]
  cases hb:n==k with
  |true=>exact⟨_,rfl⟩
  |false=>
   rcases aC.mp h with e | h
   ·cases e;simp at hb
   ·exact mem_lookup h
theorem qt{cells:List (Str×Addr)}:∀{names:List (Str×NameKind)}{acc:List (Str×Addr)}{n:Str}{c:Addr},(n,c)∈kM cells names acc->(n,c)∈acc\/((n,.free)∈names/\c=(cells.lookup n).getD 0)
 |[],_,_,_,h=>.inl h
 | (m,k)::r,acc,n,c,h=>by
  unfold kM at h
  split at h
  ·rename_i hk
   have hk:k=.free:=by simpa using hk
   rcases qt h with h | ⟨h1,h2⟩
   ·rcases aC.mp h with e | h
    ·cases e;exact .inr ⟨hk ▸ aQ,rfl⟩
    ·exact .inl h
   ·exact .inr ⟨aO _ h1,h2⟩
  ·rcases qt h with h | ⟨h1,h2⟩
   ·exact .inl h
   ·exact .inr ⟨aO _ h1,h2⟩
theorem vU{cells:List (Str×Addr)}:∀{names:List (Str×NameKind)}{acc:List (Str×Addr)}{p:Str×Addr},p∈acc->p∈kM cells names acc
 |[],_,_,h=>h
 | (m,k)::r,acc,p,h=>by
  unfold kM
  split
  ·exact vU (aO _ h)
  ·exact vU h
theorem qu{cells:List (Str×Addr)}:∀{names:List (Str×NameKind)}{acc:List (Str×Addr)}{n:Str},(n,.free)∈names->(n,(cells.lookup n).getD 0)∈kM cells names acc
 | (m,k)::r,acc,n,h=>by
  unfold kM
  rcases aC.mp h with e | h
  ·cases e;exact vU aQ
  ·split
   ·exact qu h
   ·exact qu h
theorem uo:∀{names:List (Str×NameKind)}{h:Heap}{acc:List (Str×Addr)}{x:Str}{c:Addr},(x,c)∈cellsFrom h.objs.size names acc ->
  (x,c)∈acc\/((x,.cell)∈names/\h.objs.size<=c/\OJ (pushCells h names) c none)
 |[],_,_,_,_,h=>.inl h
 | (n,k)::r,h,acc,x,c,hm=>by
  unfold cellsFrom at hm;unfold pushCells
  split at hm
  ·rename_i hk
   rw[if_pos hk];have hk:k=.cell:=by simpa using hk
   rw[<-Heap.size_push h { cls:=.type "cell",data:=.cell none }] at hm
   rcases uo hm with hm | ⟨h1,h2,h3⟩
   ·rcases aC.mp hm with e | hm
    ·cases e;exact .inr ⟨hk ▸ aQ,au _,_,pushCells_keeps r _ _ _ (Heap.get?_push_size _ rfl),rfl⟩
    ·exact .inl hm
   ·rw[Heap.size_push] at h2;exact .inr ⟨aO _ h1,fL h2,h3⟩
  ·rename_i hk
   rw[if_neg hk]
   rcases uo hm with hm | ⟨h1,h2,h3⟩
   ·exact .inl hm
   ·exact .inr ⟨aO _ h1,h2,h3⟩
theorem xO:∀{names:List (Str×NameKind)}{n:Nat}{acc:List (Str×Addr)}{p:Str×Addr},p∈acc->p∈cellsFrom n names acc
 |[],_,_,_,h=>h
 | (m,k)::r,n,acc,p,h=>by
  unfold cellsFrom
  split
  ·exact xO (aO _ h)
  ·exact xO h
theorem AD:∀{names:List (Str×NameKind)}{n:Nat}{acc:List (Str×Addr)}{x:Str},(x,.cell)∈names->∃c,(x,c)∈cellsFrom n names acc
 | (m,k)::r,n,acc,x,h=>by
  unfold cellsFrom
  rcases aC.mp h with e | h
  ·cases e;exact⟨n,xO aQ⟩
  ·split
   ·exact AD h
   ·exact AD h
theorem AE:∀{names:List (Str×NameKind)}{h:Heap}{acc:List (Str×Addr)}{x y:Str}{c:Addr},(∀p∈acc,p.2<h.objs.size)->(∀x y c,(x,c)∈acc->(y,c)∈acc->x=y) ->
  (x,c)∈cellsFrom h.objs.size names acc->(y,c)∈cellsFrom h.objs.size names acc->x=y
 |[],_,_,_,_,_,_,hi,h1,h2=>hi _ _ _ h1 h2
 | (n,k)::r,h,acc,x,y,c,hl,hi,h1,h2=>by
  unfold cellsFrom at h1 h2
  split at h1
  ·rename_i hk
   rw[if_pos hk] at h2;rw[<-Heap.size_push h { cls:=.type "cell",data:=.cell none }] at h1 h2;refine AE (h:=h.push _) (λ p hp=>?_) (λ x y c a b=>?_) h1 h2
   ·rw[Heap.size_push]
    rcases aC.mp hp with rfl | hp
    ·exact aE _
    ·exact cB (hl p hp)
   ·rcases aC.mp a with e | a<;>rcases aC.mp b with e' | b
    ·cases e;cases e';rfl
    ·cases e;exact absurd (hl _ b) (bI _)
    ·cases e';exact absurd (hl _ a) (bI _)
    ·exact hi _ _ _ a b
  ·rename_i hk
   rw[if_neg hk] at h2;exact AE hl hi h1 h2
theorem HE{M:Model}{A:Around}{E:Value->Shared->Prop}{s:Shared}{scope:Scope}{globals:Addr}{closure:List (Str×Addr)}{qual:Str}{func:Option Addr}{code:Value}{around:Env}{builtins:Addr}{Q:Env->Shared->Prop}
  (h:Q (newEnv scope s.heap.objs.size globals (cellsFrom (s.heap.objs.size+1) scope.names closure) qual func code (some around) builtins)
   { s with heap:=pushCells (s.heap.push { cls:=.type "dict",data:=.dict #[] }) scope.names }) :
  wpAny M A (newFunctionEnv scope globals closure [] qual func code (some around) builtins) Q E s:=by
 simp only[newFunctionEnv,Option.isSome_some,if_true]
 refine wpAny_bind (wpAny_alloc ?_)
 refine wpAny_bind (wpAny_layCells _ (λ n k c=>rfl) scope.names closure _ _ ?_)
 rw[show ({ s with heap:=s.heap.push { cls:=.type "dict",data:=.dict #[] } }:Shared).heap.objs.size=s.heap.objs.size+1 from Heap.size_push ..]
 rw[List.forIn_nil]
 exact wpAny_bind (wpAny_pure (wpAny_pure h))
theorem vV{sc:Scope}:∀{names:List (Str×NameKind)}{x:Str}{k:NameKind},
  (names.map λ(n,k)=>if (k==NameKind.free&&sc.kind == .function&&sc.names.lookup n==some .cell) then (n,NameKind.cell) else (n,k)).lookup x=some k ->
  ∃k',names.lookup x=some k'/\(k=k'\/(k'=.free/\k=.cell))
 |[],_,_,h=>by simp at h
 | (n,k₀)::r,x,k,h=>by
  have ih:=@vV sc r x k;have h':eB x ((if (k₀==NameKind.free&&sc.kind == .function&&sc.names.lookup n==some .cell)=true then (n,NameKind.cell) else (n,k₀))::(r.map _))=some k:=h
  cases hx:x==n with
  |true=>
   simp only[cM,hx]
   by_cases hc:(k₀==NameKind.free&&sc.kind == .function&&sc.names.lookup n==some .cell)=true
   ·rw[if_pos hc] at h';simp only[cM,hx] at h'
    cases h';simp only[aU,beq_iff_eq] at hc
    exact⟨k₀,rfl,.inr ⟨hc.1.1,rfl⟩⟩
   ·rw[if_neg hc] at h';simp only[cM,hx] at h'
    cases h';exact⟨_,rfl,.inl rfl⟩
  |false=>
   simp only[cM,hx]
   by_cases hc:(k₀==NameKind.free&&sc.kind == .function&&sc.names.lookup n==some .cell)=true
   ·rw[if_pos hc] at h';simp only[cM,hx] at h'
    exact ih h'
   ·rw[if_neg hc] at h';simp only[cM,hx] at h'
    exact ih h'
structure HF(N:List Str)(sc scope:Scope)(own:List (Str×Nat)):Prop where
 kind:scope.kind=.function
 Mq:∀y∈scope.names,scope.names.lookup y.1=some y.2
 ix:∀p∈own,N[p.2]? = some p.1
 free:∀y∈scope.names,y.2=.free->sc.names.lookup y.1=some .cell\/sc.names.lookup y.1=some .free
 own:∀y∈scope.names,y.2=.local\/y.2=.cell->y.1∈own.map (·.1)\/y.1 ∉ N
def wipe(σ:St):List Nat->St
 |[]=>σ
 |v::vs=>(wipe σ vs).set v none
theorem vW(σ:St):∀vs:List Nat,(wipe σ vs).length = σ.length
 |[]=>rfl
 |v::vs=>by unfold wipe;rw[cG,vW σ vs]
theorem AF{σ:St}{i:Nat}{x:V}:∀{vs:List Nat},(wipe σ vs)[i]? = some (some x)->σ[i]? = some (some x)/\i ∉ vs
 |[],h=>⟨h,by simp⟩
 |v::vs,h=>by
  unfold wipe at h
  by_cases hi:v=i
  ·subst hi
   by_cases hv:v<(wipe σ vs).length
   ·rw[fF hv] at h;cases h
   ·rw[bA (by simpa using hv)] at h;cases h
  ·rw[gc hi] at h;obtain⟨h1,h2⟩:=AF h;exact⟨h1,by simp only[aC,not_or];exact⟨λ e=>hi e.symm,h2⟩⟩
abbrev Cx.EC(X:Cx)(s:Shared)(H:Hp)(scope:Scope)(cenv:Env)(fp:List Addr):Cx:={ X with Ey:=s,Ub:=H,env:=cenv,outer:=X.stack,ex:=fp,fn:=λ x=>scope.names.lookup x==some .cell,pn:=[],xe:=λ _ _=>False }
section
variable{X:Cx}{pins:List (Addr×Obj)}{σ:St}{H:Hp}{s:Shared}
theorem HG{scope:Scope}{own:List (Str×Nat)}{fp:List Addr}(I:Inv X pins σ H s)(ok:HF X.N X.env.scope scope own)(hN:X.N.Nodup)(hfp:∀b∈fp,BJ X pins H b/\b<s.heap.objs.size) :
  Inv (X.EC s H scope (compEnvC scope (cellsFrom (s.heap.objs.size+1) scope.names (kM X.env.cells scope.names [])) s.heap.objs.size X.env) fp) [] (wipe σ (own.map (·.2))) H { s with heap:=pushCells (s.heap.push { cls:=.type "dict",data:=.dict #[] }) scope.names }:=by
 have hfree:∀y∈scope.names,y.2=.free->∃c,X.env.cells.lookup y.1=some c:=λ y hy e=>by
  rcases ok.free y hy e with k | k
  ·exact I.ok.has _ (.inl k)
  ·exact I.ok.has _ (.inr k)
 generalize HH:compEnvC scope (cellsFrom (s.heap.objs.size+1) scope.names (kM X.env.cells scope.names [])) s.heap.objs.size X.env=cenv
 have kp:∀b o,s.heap.get? b=some o->(pushCells (s.heap.push { cls:=.type "dict",data:=.dict #[] }) scope.names).get? b=some o:=λ b o e=>pushCells_keeps _ _ _ _ (Heap.get?_push_of_some _ e)
 have hL:cenv.locals=s.heap.objs.size:=by rw[<-HH];rfl
 have hcl:cenv.cells=cellsFrom (s.heap.objs.size+1) scope.names (kM X.env.cells scope.names []):=by rw[<-HH];rfl
 have hsc:cenv.scope=ZO scope X.env.scope:=by rw[<-HH];rfl
 rw[<-Heap.size_push s.heap { cls:=.type "dict",data:=.dict #[] }] at hcl
 have cm:∀{y c},(y,c)∈kM X.env.cells scope.names []->X.env.cells.lookup y=some c/\c<s.heap.objs.size:=λ {y c} hm=>by
  rcases qt hm with hm | ⟨h1,rfl⟩
  ·cases hm
  ·obtain⟨c,hc⟩:=hfree _ h1 rfl;rw[hc];obtain⟨w,z⟩:=I.cell _ _ hc;exact⟨rfl,z.lt⟩
 have mem:∀{y c},cenv.cells.lookup y=some c->(X.env.cells.lookup y=some c/\c<s.heap.objs.size)\/(s.heap.objs.size+1<=c/\OJ (pushCells (s.heap.push { cls:=.type "dict",data:=.dict #[] }) scope.names) c none):=λ {y c} e=>by
  rw[hcl] at e
  rcases uo (aT e) with hm | ⟨_,h2,h3⟩
  ·exact .inl (cm hm)
  ·rw[Heap.size_push] at h2;exact .inr ⟨h2,h3⟩
 have look:∀{y},scope.names.lookup y=some .free->∃c,cenv.cells.lookup y=some c/\X.env.cells.lookup y=some c:=λ {y} hl=>by
  have hy:(y,NameKind.free)∈scope.names:=aT hl;obtain⟨c',e'⟩:=mem_lookup (xO (names:=scope.names) (n:=(s.heap.push { cls:=.type "dict",data:=.dict #[] }).objs.size) (qu (cells:=X.env.cells) (acc:=[]) hy));rw[<-hcl] at e';refine⟨c',e',?_⟩;rw[hcl] at e'
  rcases uo (aT e') with hm | ⟨h1,_,_⟩
  ·exact (cm hm).1
  ·have:=ok.Mq _ h1;rw[hl] at this;cases this
 have okB:(X.EC s H scope cenv fp).Ok:=by
  refine⟨I.ok.mod,by show cenv.scope.kind=_;rw[hsc];exact ok.kind,by show cenv.globals=_;rw[<-HH];exact I.ok.glob,by show cenv.builtins=_;rw[<-HH];exact I.ok.blt,by show s.heap.objs.size<=cenv.locals;rw[hL];exact au _,
   λ y z c e1 e2=>?_,λ y hy=>?_,λ y c z e=>?_,I.ok.hd,I.ok.frames,.inl rfl,λ b hb=>⟨?_,λ y c e z=>?_⟩,I.bs,bf I.ok.Rn I.sz,λ b o e hb=>?_,λ b hb z=>?_,I.stack,I.BW⟩
  ·have e1:cenv.cells.lookup y=some c:=e1;have e2:cenv.cells.lookup z=some c:=e2;rw[hcl] at e1 e2;refine AE (λ p hp=>?_) (λ y z c a b=>I.ok.inj y z c (cm a).1 (cm b).1) (aT e1) (aT e2);rw[Heap.size_push];exact cB (cm (y:=p.1) (c:=p.2) hp).2
  ·show ∃c,cenv.cells.lookup y=some c;have key:∀k,cenv.kindOf y=some k->(k=.cell\/k=.free)->∃c,cenv.cells.lookup y=some c:=λ k hk hk'=>by
    unfold Env.kindOf at hk;rw[hsc] at hk;obtain⟨k',e,r⟩:=vV hk;have:k'=.cell\/k'=.free:=by
     rcases r with rfl | ⟨rfl,_⟩
     ·exact hk'
     ·exact .inr rfl
    rcases this with rfl | rfl
    ·obtain⟨c,hm⟩:=AD (n:=(s.heap.push { cls:=.type "dict",data:=.dict #[] }).objs.size) (acc:=kM X.env.cells scope.names []) (aT e);obtain⟨c',e'⟩:=mem_lookup hm;exact⟨c',by rw[hcl];exact e'⟩
    ·obtain⟨c,h1,_⟩:=look e;exact⟨c,h1⟩
   rcases hy with hy | hy
   ·exact key _ hy (.inl rfl)
   ·exact key _ hy (.inr rfl)
  ·have z:(scope.names.lookup y==some NameKind.cell)=true:=z;have z:scope.names.lookup y=some .cell:=by simpa using z
   have e:cenv.cells.lookup y=some c:=e;rw[hcl] at e
   rcases uo (aT e) with hm | ⟨_,h2,_⟩
   ·rcases qt hm with hm | ⟨h1,_⟩
    ·cases hm
    ·have q:=ok.Mq _ h1;rw[z] at q;cases q
   ·rw[Heap.size_push] at h2;exact fL h2
  ·show b≠cenv.locals;rw[hL];exact aZ (hfp b hb).2
  ·have e:cenv.cells.lookup y=some c:=e
   rcases mem e with ⟨h1,_⟩ | ⟨h1,_⟩
   ·exact (hfp b hb).1.2.2.2.2.1 y c h1 z
   ·have h2:s.heap.objs.size+1<=b:=by rw[<-z];exact h1
    exact absurd (aM (hfp b hb).2 (fL h2)) (bI _)
  ·rcases (hfp b hb).1.2.2.2.1 with z | z
   ·exact I.ok.Rz b o e z
   ·exact absurd (aM (Heap.lt_size e) (bf I.ok.Rn z)) (bI _)
  ·rcases aC.mp (I.Ce b z) with z | z
   ·exact (hfp b hb).1.2.1 z
   ·exact (hfp b hb).1.2.2.1 z
 refine⟨okB,rfl,I.bare,Un.kept kp,⟨λ _=>none,?_,λ i y av e1 e2 e3=>?_⟩,λ y c e=>?_,?_,λ y c e=>?_,λ p hp=>?_,I.hok.kept kp,by rw[vW];exact I.len⟩
 ·show Heap.Ns _ cenv.locals _
  rw[hL];exact Heap.Ns.keeps (Heap.Ns.new ..) λ b o e=>pushCells_keeps _ _ _ _ e
 ·obtain⟨e2,hne⟩:=AF e2
  have hfr:scope.names.lookup y=some .free/\(cenv.kindOf y=some .cell\/cenv.kindOf y=some .free):=by
   have key:∀k,cenv.scope.names.lookup y=some k->k=.local\/k=.cell\/k=.free->scope.names.lookup y=some .free/\(cenv.kindOf y=some .cell\/cenv.kindOf y=some .free):=λ k hk hk'=>by
    have hk0:=hk;rw[hsc] at hk;obtain⟨k',e,r⟩:=vV hk;have no:¬(k'=.local\/k'=.cell):=λ hh=>by
     rcases ok.own _ (aT e) hh with e' | e'
     ·obtain⟨p,hp,hpy⟩:=aB.mp e';have e3:=ok.ix p hp;have:p.1=y:=hpy;rw[this] at e3;exact hne (aB.mpr ⟨p,hp,Cf hN e3 e1⟩)
     ·exact e' (aq e1)
    rcases r with rfl | ⟨rfl,rfl⟩
    ·rcases hk' with rfl | rfl | rfl
     ·exact absurd (.inl rfl) no
     ·exact absurd (.inr rfl) no
     ·exact⟨e,.inr hk0⟩
    ·exact⟨e,.inl hk0⟩
   have e3:Rw cenv.scope y:=e3
   rcases e3 with e3 | e3 | e3
   ·exact key _ e3 (.inl rfl)
   ·exact key _ e3 (.inr (.inl rfl))
   ·exact key _ e3 (.inr (.inr rfl))
  obtain⟨m,hn,hl⟩:=I.loc;have ZP:Rw X.env.scope y:=(ok.free _ (aT hfr.1) rfl).elim (λ k=>.inr (.inl k)) (λ k=>.inr (.inr k));obtain⟨w,r,q⟩:=hl i y av e1 e2 ZP;refine⟨w,r,.inr ⟨hfr.2,?_⟩⟩;obtain⟨c,h1,h2⟩:=look hfr.1
  rcases q with ⟨k,_⟩ | ⟨_,c',e',z⟩
  ·have k:X.env.scope.names.lookup y=some .local:=k
   rcases ok.free _ (aT hfr.1) rfl with k' | k'<;>rw[show X.env.scope.names.lookup y=_ from k'] at k<;>cases k
  ·rw[h2] at e';cases e';exact⟨c,h1,z.keeps kp⟩
 ·have e:cenv.cells.lookup y=some c:=e
  rcases mem e with ⟨h1,_⟩ | ⟨_,z⟩
  ·obtain⟨w,z⟩:=I.cell y c h1;exact⟨w,z.keeps kp⟩
  ·exact⟨_,z⟩
 ·show H cenv.locals=none
  rw[hL];exact I.hok.fresh (au _)
 ·have e:cenv.cells.lookup y=some c:=e
  rcases mem e with ⟨h1,_⟩ | ⟨h1,_⟩
  ·exact I.vD y c h1
  ·exact I.hok.fresh (fL h1)
 ·exact absurd (show p∈([]:List (Addr×Obj))++[] from hp) (by simp)
theorem Vs{E:Value->Shared->Prop}{D:Addr}{xs:List V}{y:V}{v:Value}{Q:Value->Shared->Prop}(I:Inv X pins σ H s)(hD:H D=some (.lst xs))(hz:xs.length<sizeLine)(r:RelV y v)
  (h:∀s',Inv X pins σ (upd H D (.lst (xs++[y]))) s'->Q .none s'):wpAny (model X.prog X.w) X.A (call (.builtin "list.append") [.ref D,v]) Q E s:=by
 obtain⟨hz',its,n,ri,e⟩:=I.hok D _ hD
 have hl:=ri.length
 refine append_at (hsz:=by rw[aD];omega) e λ h' sb ho'=>?_
 refine h { s with heap:=h' } (I.write (t':=s.toks) (by rw[hD];trivial) (.inl rfl) (λ b u hb q=>(sb.2 b hb).trans q) ⟨_,ho'⟩ ⟨by rw[aG];exact hz,its++[v],n+1,ri.append (.cons r .nil),?_⟩)
 rw[ho']
 simp
def Xu(X:Cx)(ifs:List Expr)(t:TT):Prop:=
 ∀(pins:List (Addr×Obj)) (s:Shared) (σ:St) (H:Hp) (Q:Bool->Hp->Prop),Inv X pins σ H s->t σ H Q ->
  wpAny (model X.prog X.w) X.A (forIn ifs true λ c r=>if r=true then do let ok <-isTrue c X.env (eval c X.env);pure (ForInStep.yield ok) else pure (ForInStep.yield r)) (TP X pins σ Q) X.xe s
def ZQ:TT:=λ _ H Q=>Q true H
theorem kQ:Xu X [] ZQ:=λ _ _ _ H _ I h=>wpAny_tests_nil ⟨H,I,h⟩
theorem RY{c:Expr}{t:TT}(h:PT X c t):Xu X [c] t:=λ pins s σ H Q I hw=>wpAny_tests_one (h pins s σ H Q I hw)
end
theorem Mr{α:Type}{t:Sem α}{Q Q':α->Shared->Prop}{M:Model}{A:Around}{E:Value->Shared->Prop}{s:Shared}(h:wpAny M A t Q (λ _ _=>False) s)(hQ:∀a s,Q a s->Q' a s):wpAny M A t Q' E s:=wpAny_mono h hQ λ _ _ z=>False.elim z
theorem Gy{prog:Program}{w:World}{A:Around}{R:Result->Shared->Prop}{s:Shared}{elt target iter:Expr}{ifs:List Expr}{scope:Scope}{pos:Pos}{it acc:Value}{env:Env}(I:Nat->Shared->Prop)
  (turn:∀n s,I n s->wpAny (model prog w) A (pyNext it) (λ r s₁=>match r with
   |none=>R (.ok .next) s₁
   |some v=>wpAny (model prog w) A (letOwnedTupleGo target it v) (λ _ s₁'=>wpAny (model prog w) A (assign target env v) (λ _ s₂=>
     wpAny (model prog w) A (forIn ifs true λ c r=>if r=true then do let ok <-isTrue c env (eval c env);pure (ForInStep.yield ok) else pure (ForInStep.yield r)) (λ ok s₃=>
      if ok=true then wpAny (model prog w) A (eval elt env) (λ x s₄=>
       wpAny (model prog w) A (call (.builtin "list.append") [acc,x]) (λ _ s₅=>∃m,m<n/\I m s₅) (notedBy (model prog w) A env λ e s'=>R (.error e) s') s₄) (notedBy (model prog w) A env λ e s'=>R (.error e) s') s₃
      else ∃m,m<n/\I m s₃) (notedBy (model prog w) A env λ e s'=>R (.error e) s') s₂) (notedBy (model prog w) A env λ e s'=>R (.error e) s') s₁') (notedBy (model prog w) A env λ e s'=>R (.error e) s') s₁) (notedBy (model prog w) A env λ e s'=>R (.error e) s') s)
  (n:Nat) (h:I n s) :
  codeAny (model prog w) A (.compLoop (.ListComp elt [⟨target,iter,ifs,0⟩] scope pos) 0 it acc env) R s:=by
 refine codeAny_loop rfl I (λ n s hI=>?_) n h
 show wpAny _ A ((compTurn (.ListComp elt [⟨target,iter,ifs,0⟩] scope pos) 0 it acc env).onRaise (λ x=>do noteFrame x env;theTreesLotGoes x)) _ _ s
 refine wpAny_noted ?_
 rw[compTurn_list]
 refine wpAny_bind (wpAny_standAt (wpAny_bind (wpAny_mono (turn n s hI) (λ r s₁ h₁=>?_) λ _ _ h'=>h')))
 cases r with
 |none=>exact wpAny_pure h₁
 |some v=>
  refine wpAny_bind (wpAny_mono h₁ (λ _ s₁' h₁'=>?_) λ _ _ h'=>h');refine wpAny_bind (wpAny_mono h₁' (λ _ s₂ h₂=>wpAny_bind (wpAny_mono h₂ (λ ok s₃ h₃=>?_) λ _ _ h'=>h')) λ _ _ h'=>h')
  cases ok with
  |false=>exact wpAny_pure ⟨rfl,h₃⟩
  |true=>
   exact wpAny_bind (wpAny_bind (wpAny_mono h₃ (λ x s₄ h₄=>wpAny_bind (wpAny_mono h₄ (λ _ s₅ h₅=>wpAny_pure (wpAny_pure ⟨rfl,h₅⟩)) λ _ _ h'=>h')) λ _ _ h'=>h'))
section
variable{X:Cx}
def YZ(wi:TI)(g:TG)(tt:TT)(te:TE)(vs:List Nat):TE:=λ σ H Q=>wi σ H λ J H1=>∀D,H1 D=none->∃W:Nat->Nat->Hp->Prop,(∃m,W 0 m (upd H1 D (.lst [])))/\∀i m H,W i m H ->
 (J.stop i H/\Q (.ref D) H)\/(J.go i H/\∃Nx:Hp->Prop,(∀H',Nx H'->∃m',m'<m/\W (i+1) m' H')/\∀x H',J.Og i H x H'->g x (wipe σ vs) H' λ σ2 H2=>wipe σ2 vs=wipe σ vs/\tt σ2 H2 λ b H3=>
  if b=true then te σ2 H3 λ y H4=>∃acc,H4 D=some (.lst acc)/\acc.length<sizeLine/\Nx (upd H4 D (.lst (acc++[y]))) else Nx H3)
theorem K3{pins:List (Addr×Obj)}{s:Shared}{σ:St}{H:Hp}{Q:VK}{elt tg iter:Expr}{ifs:List Expr}{scope:Scope}{own:List (Str×Nat)}{pos pos':Pos}{wi:TI}{g:TG}{tt:TT}{te:TE}{use:Option (Value->Sem Unit)}{Qf:Value->Shared->Prop}
  (hc:X.calm=true) (hN:X.N.Nodup) (I:Inv X pins σ H s) (hi:PI X tg iter wi) (ok:HF X.N X.env.scope scope own)
  (hg:∀(s:Shared) (H:Hp) (C:Addr) (cl:List (Str×Addr)) (fp:List Addr),PG (X.EC s H scope (compEnvC scope cl C X.env) fp) tg g) (ht:∀(s:Shared) (H:Hp) (C:Addr) (cl:List (Str×Addr)) (fp:List Addr),Xu (X.EC s H scope (compEnvC scope cl C X.env) fp) ifs tt)
  (he:∀(s:Shared) (H:Hp) (C:Addr) (cl:List (Str×Addr)) (fp:List Addr),PE (X.EC s H scope (compEnvC scope cl C X.env) fp) elt te) (hs:∀x,foldedSetIterable iter X.env x=pure x)
  (h:YZ wi g tt te (own.map (·.2)) σ H Q)
  (hRR:∀D C s' m H',Inv X pins σ H' s'->Q (.ref D) H'->s'.heap.Ns C m->BJ X pins H' C->compPost (model X.prog X.w) X.A X.xe use Qf (.ref D) C (.ok .next) s') :
  wpAny (model X.prog X.w) X.A (comprehension (.ListComp elt [⟨tg,iter,ifs,0⟩] scope pos) scope X.env pos' (newList []) false (eval iter X.env) use) Qf X.xe s:=by
 have hfree:∀y∈scope.names,y.2=.free->∃c,X.env.cells.lookup y.1=some c:=λ y hy e=>by
  rcases ok.free y hy e with k | k
  ·exact I.ok.has _ (.inl k)
  ·exact I.ok.has _ (.inr k)
 refine wpAny_comprehension_free (use:=use) rfl hs (Cy hfree) ok.kind (λ y hy e=>by rw[ok.Mq y hy,e])
  (mP (hi pins s σ H _ I h) λ xv s1 hx=>mP hx λ itv s2 h2=>?_)
 obtain⟨it,fp,tn,J,H2,e,I2,T,st2,f2,q⟩:=h2
 subst e
 refine wpAny_newObj_type (HE ?_) (by show 0<=sizeLine;decide)
 generalize hD:s2.heap.objs.size=D
 have hDn:H2 D=none:=I2.hok.fresh (iy hD)
 obtain⟨W,⟨m0,w0⟩,turn⟩:=q D hDn
 generalize hs3:({ s2 with heap:=s2.heap.push { cls:=.type "list",data:=.seq ([]:List Value).toArray } }:Shared)=s3
 have I3:Inv X pins σ (upd H2 D (.lst [])) s3:=by
  rw[<-hs3];refine I2.laid (t':=s2.toks) (λ b o e=>Heap.get?_push_of_some _ e) (iy hD) ⟨bq _,[],0,.nil,?_⟩;rw[<-hD];exact Heap.get?_push_size _ rfl
 have h3:s3.heap=s2.heap.push { cls:=.type "list",data:=.seq ([]:List Value).toArray }:=by rw[<-hs3]
 have sz:∀b∈fp,b<s2.heap.objs.size:=λ b hb=>by
  obtain⟨o,e,_⟩:=T.obj _ _ st2 b hb;exact Heap.lt_size e
 have f3:∀b∈fp,BJ X pins (upd H2 D (.lst [])) b/\b<s3.heap.objs.size:=λ b hb=>by
  have hlt:=sz b hb;refine⟨⟨?_,(f2 b hb).2⟩,by rw[h3,Heap.size_push];exact cB hlt⟩;rw[jA (by rw[<-hD];exact aZ hlt)];exact (f2 b hb).1
 have st3:tn 0 s3.heap:=T.keep _ _ _ st2 λ b _ o e=>by rw[h3];exact Heap.get?_push_of_some _ e
 have I4:=HG I3 ok hN f3
 have pg:=hg s3 (upd H2 D (.lst [])) s3.heap.objs.size (cellsFrom (s3.heap.objs.size+1) scope.names (kM X.env.cells scope.names [])) fp
 have pt:=ht s3 (upd H2 D (.lst [])) s3.heap.objs.size (cellsFrom (s3.heap.objs.size+1) scope.names (kM X.env.cells scope.names [])) fp
 have pe:=he s3 (upd H2 D (.lst [])) s3.heap.objs.size (cellsFrom (s3.heap.objs.size+1) scope.names (kM X.env.cells scope.names [])) fp
 show codeAny _ _ (.compStart (.ListComp elt [⟨tg,iter,ifs,0⟩] scope pos) 0 (.ref it) (.ref D) (compEnvC scope (cellsFrom (s3.heap.objs.size+1) scope.names (kM X.env.cells scope.names [])) s3.heap.objs.size X.env)) (compPost (model X.prog X.w) X.A X.xe use Qf (.ref D) s3.heap.objs.size) { s3 with heap:=pushCells (s3.heap.push { cls:=.type "dict",data:=.dict #[] }) scope.names }
 have nfp:∀b∈fp,(upd H2 D (.lst [])) b=none:=λ b hb=>(f3 b hb).1.1
 generalize hce:compEnvC scope (cellsFrom (s3.heap.objs.size+1) scope.names (kM X.env.cells scope.names [])) s3.heap.objs.size X.env=ce at I4 pg pt pe ⊢
 have cL:ce.locals=s3.heap.objs.size:=by subst hce;rfl
 generalize hH3:upd H2 D (.lst [])=H3 at I3 I4 pg pt pe w0 nfp f3
 generalize hs4:({ s3 with heap:=pushCells (s3.heap.push { cls:=.type "dict",data:=.dict #[] }) scope.names }:Shared)=s4 at I4 ⊢
 have st4:tn 0 s4.heap:=T.keep _ _ _ st3 λ b _ o e=>by rw[<-hs4];exact pushCells_keeps _ _ _ _ (Heap.get?_push_of_some _ e)
 have Jx:∀{σ':St} {H':Hp} {s':Shared},Inv (X.EC s3 H3 scope ce fp) [] σ' H' s'->(∀b∈fp,H' b=none)->∀b∈fp,BJ (X.EC s3 H3 scope ce fp) [] H' b:=λ {σ' H' s'} I' hn b hb=>
  ⟨hn b hb,(I'.ok.Zo b hb).1,I'.ok.RA b hb,.inl hb,λ x c e=>(I'.ok.Zo b hb).2 x c e,λ p hp=>absurd (show p∈([]:List (Addr×Obj))++[] from hp) (by simp)⟩
 have loop:codeAny (model X.prog X.w) X.A (.compLoop (.ListComp elt [⟨tg,iter,ifs,0⟩] scope pos) 0 (.ref it) (.ref D) ce) (compPost (model X.prog X.w) X.A X.xe use Qf (.ref D) s3.heap.objs.size) s4:=by
  refine Gy (λ n s'=>∃i H',Inv (X.EC s3 H3 scope ce fp) [] (wipe σ (own.map (·.2))) H' s'/\tn i s'.heap/\(∀b∈fp,H' b=none)/\W i n H') ?_ m0 ⟨0,H3,I4,st4,nfp,w0⟩;rintro n s5 ⟨i,H5,I5,WC,n5,w5⟩
  rcases turn i n H5 w5 with ⟨stop,qq⟩ | ⟨go,Nx,hNx,step⟩
  ·have td:=T.done (X.EC s3 H3 scope ce fp) rfl rfl rfl hc i [] s5 _ H5 (λ _ _=>False) I5 (Jx I5 n5) WC stop;refine Mr td λ r s6 ⟨hr,I6⟩=>?_
   subst hr;have I7:Inv X pins σ H5 s6:=I3.W0 (ch:=fp) I6.os I6.base I6.hok I6.bare λ b hb=>⟨(f3 b hb).1.2.2.2.1,(f3 b hb).1.2.1,(f3 b hb).1.2.2.2.2.1,(f3 b hb).1.2.2.2.2.2⟩
   have nC:H5 s3.heap.objs.size=none:=by
    have z:H5 ce.locals=none:=I6.free;rw[cL] at z;exact z
   obtain⟨m,hn,_⟩:=I6.loc;have hn:s6.heap.Ns ce.locals m:=hn;rw[cL] at hn;exact hRR D s3.heap.objs.size s6 m H5 I7 qq hn (I3.Oh (au _) nC)
  ·have ti:=T.item (X.EC s3 H3 scope ce fp) rfl rfl rfl hc i [] s5 _ H5 (λ _ _=>False) I5 (Jx I5 n5) WC go;refine Mr ti λ r s6 ⟨u,hr,h6⟩=>?_
   subst hr;refine Mr h6 λ _ s7 ⟨x,H7,I7,r7,y7,ZR,n7⟩=>?_
   have I7':=I7.pinned (Jx I7 n7) (T.obj _ _ ZR);refine Mr (pg _ s7 _ H7 x u _ I7' r7 (step x H7 y7)) λ _ s8 ⟨σ8,H8,I8,hw8,q8⟩=>?_
   refine Mr (pt _ s8 σ8 H8 _ I8 q8) λ b s9 ⟨H9,I9,q9⟩=>?_
   have fin:∀{s':Shared} {H':Hp},Inv (X.EC s3 H3 scope ce fp) ([]++Cj fp s7.heap) σ8 H' s'->Nx H'->∃m,m<n/\∃i H',Inv (X.EC s3 H3 scope ce fp) [] (wipe σ (own.map (·.2))) H' s'/\tn i s'.heap/\(∀b∈fp,H' b=none)/\W i m H':=λ {s' H'} I' nx=>by
    obtain⟨m',hm,w'⟩:=hNx H' nx;have Xv:∀b∈fp,∀o,s7.heap.get? b=some o->s'.heap.get? b=some o/\H' b=none:=λ b hb o e=>
     let z:=I'.pin (b,o) (bK _ (bK _ (yQ hb e)))
     ⟨z.1,z.2.1⟩
    have hl:(wipe σ (own.map (·.2))).length = σ8.length:=by rw[<-hw8,vW]
    refine⟨m',hm,i+1,H',(I'.zk (pins:=[])).weak hl (λ j v e=>?_),T.keep _ _ _ ZR λ b hb o e=>(Xv b hb o e).1,λ b hb=>?_,w'⟩
    ·rw[<-hw8] at e;exact (AF e).1
    ·obtain⟨o,e,_⟩:=T.obj _ _ ZR b hb;exact (Xv b hb o e).2
   cases b with
   |false=>
    simp only[aN,if_false] at q9 ⊢
    exact fin I9 q9
   |true=>
    simp only[if_true] at q9 ⊢
    refine Mr (pe _ s9 σ8 H9 _ I9 q9) λ z s10 ⟨yv,WD,I10,r10,acc,ZS,ZT,nx⟩=>?_
    exact Vs (X:=X.EC s3 H3 scope ce fp) I10 ZS ZT r10 λ s11 I11=>fin I11 nx
 exact codeAny_compStart_list loop (T.self X.A 0 _ _ _ st4 loop)
theorem o5{elt tg iter:Expr}{ifs:List Expr}{scope:Scope}{own:List (Str×Nat)}{pos:Pos}{wi:TI}{g:TG}{tt:TT}{te:TE}(hc:X.calm=true)(hN:X.N.Nodup)(hi:PI X tg iter wi)(ok:HF X.N X.env.scope scope own)
  (hg:∀(s:Shared) (H:Hp) (C:Addr) (cl:List (Str×Addr)) (fp:List Addr),PG (X.EC s H scope (compEnvC scope cl C X.env) fp) tg g) (ht:∀(s:Shared) (H:Hp) (C:Addr) (cl:List (Str×Addr)) (fp:List Addr),Xu (X.EC s H scope (compEnvC scope cl C X.env) fp) ifs tt)
  (he:∀(s:Shared) (H:Hp) (C:Addr) (cl:List (Str×Addr)) (fp:List Addr),PE (X.EC s H scope (compEnvC scope cl C X.env) fp) elt te) (hs:∀x,foldedSetIterable iter X.env x=pure x:=by intro _;rfl) :
  PE X (.ListComp elt [⟨tg,iter,ifs,0⟩] scope pos) (YZ wi g tt te (own.map (·.2))):=by
 intro pins s σ H Q I h
 rw[eval_ListComp]
 refine K3 hc hN I hi ok hg ht he hs h λ D C s' m H' I' q hn f=>⟨m,hn,λ h'' sb=>?_⟩
 obtain⟨f0,f1,f2,f3,f4,f5⟩:=f
 exact⟨.ref D,H',I'.turned (t':=s'.toks) (λ b o hb e=>(sb.2 b hb).trans e) f0 f1 f3 f4 f5,rfl,q⟩
theorem zm{i:Nat}{y:Str}{py:Pos}{elt tg iter:Expr}{ifs:List Expr}{scope:Scope}{own:List (Str×Nat)}{pos spos:Pos}{wi:TI}{g:TG}{tt:TT}{te:TE}(hc:X.calm=true)(hN:X.N.Nodup)(hy:X.N[i]? = some y)(hyl:X.env.scope.names.lookup y=some .local)
  (hsw:swapsWith (.ListComp elt [⟨tg,iter,ifs,0⟩] scope pos) (some (.Name y py)) spos.line X.env=pure true) (hi:PI X tg iter wi) (ok:HF X.N X.env.scope scope own)
  (hg:∀(s:Shared) (H:Hp) (C:Addr) (cl:List (Str×Addr)) (fp:List Addr),PG (X.EC s H scope (compEnvC scope cl C X.env) fp) tg g) (ht:∀(s:Shared) (H:Hp) (C:Addr) (cl:List (Str×Addr)) (fp:List Addr),Xu (X.EC s H scope (compEnvC scope cl C X.env) fp) ifs tt)
  (he:∀(s:Shared) (H:Hp) (C:Addr) (cl:List (Str×Addr)) (fp:List Addr),PE (X.EC s H scope (compEnvC scope cl C X.env) fp) elt te) (hs:∀x,foldedSetIterable iter X.env x=pure x:=by intro _;rfl) :
  PS X (.Assign [.Name y py] (.ListComp elt [⟨tg,iter,ifs,0⟩] scope pos) spos) (Vb (YZ wi g tt te (own.map (·.2))) (E2 i)):=by
 intro pins s σ H D I h
 rw[exec_Assign_Name_used _ _ _ _ hsw]
 refine wpAny_bind (wpAny_standAt (wpAny_bind ?_))
 show wpAny _ X.A (do let _ <-comprehension (.ListComp elt [⟨tg,iter,ifs,0⟩] scope pos) scope X.env (firstIterPos [⟨tg,iter,ifs,0⟩] pos) (newList []) false (eval iter X.env) (some (assign (.Name y py) X.env))) _ _ s
 have h:YZ wi g tt te (own.map (·.2)) σ H (λ x H1=>E2 i x σ H1 D.nx):=h
 refine wpAny_bind (mP (K3 (Qf:=λ _ s'=>SP X pins D .next s') hc hN I hi ok hg ht he hs h λ L C s' m H' I' q hn f=>?_) λ _ s' hq=>wpAny_pure (wpAny_pure hq))
 show wpAny _ _ (assign (.Name y py) X.env (.ref L)) _ _ _
 refine wpAny_assign_Name (E1 (v:=V.ref L) I' hN hy (.inl hyl) rfl (λ s2 I2 ⟨a,sb,ha⟩=>?_) (.inr hyl))
 obtain⟨f0,f1,f2,f3,f4,f5⟩:=f
 have haC:C≠a:=by
  rcases ha with z | z
  ·rw[z];exact f1
  ·exact λ e=>f4 y a z e.symm
 refine⟨m,hn.sameBut sb haC,λ h3 sb3=>?_⟩
 exact⟨_,H',I2.turned (t':=s2.toks) (λ b o hb e=>(sb3.2 b hb).trans e) f0 f1 f3 f4 f5,q⟩
theorem BY{elt:Expr}{gs:List Comprehension}{scope:Scope}{pos py:Pos}{y:Str}{l:Nat}{env:Env}(hk:env.scope.kind=.function)(hy:env.scope.names.lookup y=some .local)(hl:(py.line==pos.line)=true)
  (ha:(scope.names.any λ(n,k)=>n==y&&(k == .local||k == .cell))=false):swapsWith (.ListComp elt gs scope pos) (some (.Name y py)) l env=pure true:=by
 have ky:env.kindOf y=some .local:=hy
 have hb:env.blockKind=.function:=by unfold Env.blockKind;rw[hk];rfl
 unfold swapsWith
 simp only[hb,ky,ha,Expr.pos,hl]
 rfl
end
theorem HJ{lo:Int}{n:Nat}{g:TG}{tt:TT}{te:TE}{vs:List Nat}{σ:St}{H1:Hp}{D:Addr}{Qd:Hp->Prop}(Pv:Nat->Hp->Prop)(h0:Pv 0 (upd H1 D (.lst [])))
  (hs:∀i H,i<n->Pv i H->g (.int (lo+i)) (wipe σ vs) H λ σ2 H2=>wipe σ2 vs=wipe σ vs/\tt σ2 H2 λ b H3=>
   if b=true then te σ2 H3 λ y H4=>∃acc,H4 D=some (.lst acc)/\acc.length<sizeLine/\Pv (i+1) (upd H4 D (.lst (acc++[y]))) else Pv (i+1) H3) (hd:∀H,Pv n H->Qd H) :
  ∃W:Nat->Nat->Hp->Prop,(∃m,W 0 m (upd H1 D (.lst [])))/\∀i m H,W i m H ->
   ((RI lo n).stop i H/\Qd H)\/((RI lo n).go i H/\∃Nx:Hp->Prop,(∀H',Nx H'->∃m',m'<m/\W (i+1) m' H')/\∀x H',(RI lo n).Og i H x H'->g x (wipe σ vs) H' λ σ2 H2=>wipe σ2 vs=wipe σ vs/\tt σ2 H2 λ b H3=>
    if b=true then te σ2 H3 λ y H4=>∃acc,H4 D=some (.lst acc)/\acc.length<sizeLine/\Nx (upd H4 D (.lst (acc++[y]))) else Nx H3):=by
 refine⟨λ i m H=>m=n-i/\i<=n/\Pv i H,⟨n,by simp,bq _,h0⟩,?_⟩
 rintro i m H ⟨rfl,hi,p⟩
 by_cases hlt:i<n
 ·refine .inr ⟨hlt,Pv (i+1),λ H' p'=>⟨n-(i+1),by omega,rfl,hlt,p'⟩,λ x H' y=>?_⟩
  obtain⟨e,y⟩:=y;subst e y;exact hs i _ hlt p
 ·have e:i=n:=by omega
  subst e;exact .inl ⟨au _,hd H p⟩
theorem mE{K:aj}{a:Addr}{xs:List V}{g:TG}{tt:TT}{te:TE}{vs:List Nat}{σ:St}{H1:Hp}{D:Addr}{Qd:Hp->Prop}(Pv:Nat->Hp->Prop)(h0:Pv 0 (upd H1 D (.lst [])))(hl:∀i H,i<=xs.length->Pv i H->jO K H a xs)
  (hs:∀i x H,xs[i]? = some x->Pv i H->g x (wipe σ vs) H λ σ2 H2=>wipe σ2 vs=wipe σ vs/\tt σ2 H2 λ b H3=>
   if b=true then te σ2 H3 λ y H4=>∃acc,H4 D=some (.lst acc)/\acc.length<sizeLine/\Pv (i+1) (upd H4 D (.lst (acc++[y]))) else Pv (i+1) H3) (hd:∀H,Pv xs.length H->Qd H) :
  ∃W:Nat->Nat->Hp->Prop,(∃m,W 0 m (upd H1 D (.lst [])))/\∀i m H,W i m H ->
   ((Uh K a).stop i H/\Qd H)\/((Uh K a).go i H/\∃Nx:Hp->Prop,(∀H',Nx H'->∃m',m'<m/\W (i+1) m' H')/\∀x H',(Uh K a).Og i H x H'->g x (wipe σ vs) H' λ σ2 H2=>wipe σ2 vs=wipe σ vs/\tt σ2 H2 λ b H3=>
    if b=true then te σ2 H3 λ y H4=>∃acc,H4 D=some (.lst acc)/\acc.length<sizeLine/\Nx (upd H4 D (.lst (acc++[y]))) else Nx H3):=by
 refine⟨λ i m H=>m=xs.length-i/\i<=xs.length/\Pv i H,⟨xs.length,by simp,bq _,h0⟩,?_⟩
 rintro i m H ⟨rfl,hi,p⟩
 have q:=hl i H hi p
 by_cases hlt:i<xs.length
 ·refine .inr ⟨⟨xs,xs[i],q,by simp[hlt]⟩,Pv (i+1),λ H' p'=>⟨xs.length-(i+1),by omega,rfl,hlt,p'⟩,λ x H' y=>?_⟩
  obtain⟨e,y⟩:=y;subst e;exact hs i x _ (y xs q) p
 ·have e:i=xs.length:=by omega
  subst e;exact .inl ⟨⟨xs,q,au _⟩,hd H p⟩
def Xw(N:List Str)(sc scope:Scope)(own:List (Str×Nat)):Bool:=
 (match scope.kind with | .function=>true | _=>false)&&(scope.names.all λ y=>decide (scope.names.lookup y.1=some y.2))&&(own.all λ p=>decide (N[p.2]? = some p.1)) &&
  (scope.names.all λ y=>match y.2 with
   |.free=>(match sc.names.lookup y.1 with | some .cell=>true | some .free=>true | _=>false)
   |.local=>decide (y.1∈own.map (·.1))||decide (y.1 ∉ N)
   |.cell=>decide (y.1∈own.map (·.1))||decide (y.1 ∉ N)
   |_=>true)
theorem ko{N:List Str}{sc scope:Scope}{own:List (Str×Nat)}(h:Xw N sc scope own=true):HF N sc scope own:=by
 unfold Xw at h
 simp only[aU,bz,decide_eq_true_eq] at h
 obtain⟨⟨⟨h1,h2⟩,h3⟩,h4⟩:=h
 refine⟨?_,h2,h3,λ y hy e=>?_,λ y hy e=>?_⟩
 ·split at h1
  ·assumption
  ·cases h1
 ·have q:=h4 y hy
  simp only[e] at q
  split at q<;>first | exact .inl (by assumption) | exact .inr (by assumption) | cases q
 ·have q:=h4 y hy
  rcases e with e | e<;>(simp only[e,Bool.or_eq_true,decide_eq_true_eq] at q;exact q)
end L2
namespace L2
open PySem PySem.Spec PyProof.Rows
section
variable{prog:Program}{w:World}{A:Around}{R:Result->Shared->Prop}{s:Shared}{elt t0 i0 t1 i1:Expr}{ifs0 ifs1:List Expr}{scope:Scope}{pos:Pos}{it acc:Value}{env:Env}
end
section
variable{X:Cx}
end
end L2
namespace L2
open PySem PySem.Spec PyProof.Rows
section
variable{κ:Type}[DecidableEq κ]
end
theorem Xx{P:Program}{w:World}{k:Key}{u:Value}(r:RelV (kV k) u):(lZ P w).is k u=true:=by
 cases k with
 |inl i=>obtain⟨t,e⟩:=(show ∃t,u=Value.int i t from r);subst e;exact Hv P w i t
 |inr x=>obtain⟨t,e⟩:=(show ∃t,u=Value.str x t from r);subst e;exact Hw P w x t
theorem Fi{P:Program}{w:World}:∀{ks:List Key}{us:List Value},Vals (ks.map kV) us->ItemsAre (lZ P w) ks us
 |[],_,r=>by rw[bV] at r;cases r;exact .nil
 |k::ks,_,r=>by
  rw[aS] at r
  cases r with
  |cons h t=>exact .cons (Xx h) (Fi t)
section
variable{P:Program}{w:World}{H:Hp}{h:Heap}{a:Addr}
end
section
variable{X:Cx}{pins:List (Addr×Obj)}{σ:St}{H:Hp}{s:Shared}{a:Addr}{y v:V}{u r:Value}{o:Option V}{A:Around}{E:Value->Shared->Prop}
end
section
variable{X:Cx}{pins:List (Addr×Obj)}{σ:St}{H:Hp}{s:Shared}{a:Addr}{kvs:List (Key×V)}{k:Key}{u:Value}{A:Around}{E:Value->Shared->Prop}
end
section
variable{X:Cx}{o i e value:Expr}{pos pos' tpos:Pos}{td ty tv:TE}
end
section
variable{X:Cx}{pos:Pos}
end
section
variable{X:Cx}{pins:List (Addr×Obj)}{σ:St}{H:Hp}{s:Shared}{a:Addr}{y d:V}{u r:Value}{o:Option V}{A:Around}{E:Value->Shared->Prop}
end
section
variable{X:Cx}{o e f:Expr}{apos cpos:Pos}{td ty tx:TE}
end
section
variable{X:Cx}{pins:List (Addr×Obj)}{σ:St}{H:Hp}{s:Shared}{a:Addr}{kvs:List (Key×V)}{A:Around}{E:Value->Shared->Prop}
end
section
variable{X:Cx}{pins:List (Addr×Obj)}{σ:St}{H:Hp}{s:Shared}{a:Addr}{y:V}{u:Value}{A:Around}{E:Value->Shared->Prop}
end
end L2
namespace L2
open PySem PySem.Spec PyProof.Rows
section
variable{prog:Program}{w:World}{A:Around}{E:Value->Shared->Prop}
end
section
variable{X:Cx}
end
end L2
namespace L2
open PySem PySem.Spec PyProof.Rows
theorem Cz:bootBuiltins "reversed" = some (.type "reversed"):=by decide +kernel
section
variable{X:Cx}{pins:List (Addr×Obj)}{σ:St}{H:Hp}{s:Shared}{h':Heap}
theorem Inv.RZ{t':Nat}{ch:List Addr}(I:Inv X pins σ H s)(k:∀b o,b ∉ ch->s.heap.get? b=some o->h'.get? b=some o)(hf:∀b∈ch,BJ X pins H b):Inv X pins σ H { s with heap:=h',toks:=t' }:=by
 have Uc:∀b u,H b=some u->b ∉ ch:=λ b u e z=>by
  have q:=(hf b z).1;rw[q] at e;cases e
 refine I.step (g':=s.gens) (d':=s.drawn) (ch:=ch) (λ b hb=>⟨(hf b hb).2.2.2.1,(hf b hb).2.1,(hf b hb).2.2.2.2.1,(hf b hb).2.2.2.2.2⟩) (λ b o _ _ hc e _=>k b o hc e) (λ b o _ _ hc e _=>⟨o.slots,k b o hc e⟩)
  (λ _ _ _ _ n=>n) (λ b o hc e=>⟨o,k b o hc e⟩) (λ _ _ e=>e) (λ _ _ _ e=>e) (λ b ps e=>⟨#[],by rw[e];simp⟩) (λ m hm=>?_) (λ b u e=>?_) I.bare
 ·obtain⟨o,es,ep,ho,r⟩:=hm
  exact⟨o,es,ep,k _ o (λ z=>(hf _ z).2.1 rfl) ho,r⟩
 ·refine (I.hok b u e).stay (λ c v hc q=>k c v ?_ q) (λ _ q=>q) λ _ _ q=>q
  rcases hc with z | z
  ·rw[z];exact Uc b u e
  ·exact Uc c _ z
theorem Inv.Fj{t':Nat}{ch:List Addr}{T:Addr}{ob:HO}(I:Inv X pins σ H s)(k:∀b o,b ∉ ch->s.heap.get? b=some o->h'.get? b=some o)(hf:∀b∈ch,BJ X pins H b)(hT:s.heap.objs.size<=T)
  (new:pN X.prog X.w (upd H T ob) h' T ob):Inv X pins σ (upd H T ob) { s with heap:=h',toks:=t' }:=by
 have hn:H T=none:=I.hok.fresh hT
 have Uc:∀b u,H b=some u->b ∉ ch:=λ b u e z=>by
  have q:=(hf b z).1;rw[q] at e;cases e
 refine I.step (g':=s.gens) (d':=s.drawn) (ch:=ch) (λ b hb=>⟨(hf b hb).2.2.2.1,(hf b hb).2.1,(hf b hb).2.2.2.2.1,(hf b hb).2.2.2.2.2⟩) (λ b o _ _ hc e _=>k b o hc e) (λ b o _ _ hc e _=>⟨o.slots,k b o hc e⟩)
  (λ b o _ e n=>?_) (λ b o hc e=>⟨o,k b o hc e⟩) (λ b xs e=>?_) (λ b o u e=>?_) (λ b ps e=>⟨#[],?_⟩) (λ m hm=>?_) (λ b u e=>?_) I.bare
 ·rw[jA (aZ (aM (Heap.lt_size e) hT))];exact n
 ·rw[jA (jB e hn)];exact e
 ·rw[jA (jB e hn)];exact e
 ·rw[jA (jB e hn),e];simp
 ·obtain⟨o,es,ep,ho,r⟩:=hm
  exact⟨o,es,ep,k _ o (λ z=>(hf _ z).2.1 rfl) ho,r⟩
 ·by_cases hb:b=T
  ·subst hb;rw[ju] at e
   cases e;exact new
  ·rw[jA hb] at e;refine (I.hok b u e).stay (λ c v hc q=>k c v ?_ q) (λ c q=>by rw[jA (jB q hn)];exact q) λ c xs q=>by rw[jA (jB q hn)];exact q
   rcases hc with z | z
   ·rw[z];exact Uc b u e
   ·exact Uc c _ z
end
section
variable{X:Cx}
end
section
variable{X:Cx}{tg:Expr}
end
section
variable{X:Cx}{tg:Expr}
end
section
variable{prog:Program}{w:World}{A:Around}{E:Value->Shared->Prop}{s:Shared}
end
section
variable{X:Cx}{pins:List (Addr×Obj)}{σ:St}{H:Hp}{s:Shared}{d:Addr}{o:Obj}
end
section
variable{P:Program}{w:World}{K:aj}{tg:Expr}{d:Addr}{o:Obj}{es:Array DictEntry}{ep:Nat}
end
section
variable{X:Cx}{tg e:Expr}{td:TE}{apos cpos:Pos}
end
def Uq(K:aj)(a:Addr):It:=
 ⟨λ i H=>∃(xs:List V) (x:V),jO K H a xs/\xs[i]? = some x,λ i H v H'=>∃T x,v=.ref T/\H T=none/\H'=upd H T (.tup [.int (i:Nat),x])/\∀xs,jO K H a xs->xs[i]? = some x,λ i H=>∃xs:List V,jO K H a xs/\xs.length<=i⟩
theorem Ms{P:Program}{w:World}{K:aj}{elts:List Expr}{kk:Nat}{tpos:Pos}(a e it:Addr) :
  Turn P w K (.Tuple elts kk tpos) (Uq K a) [e,it] e (λ i h=>(∃old,IsEnum h e it ((i:Nat):Int) old)/\h.IsListIter it a i/\e≠it) where
 mem:=by simp
 obj:=λ i h st b hb=>by
  obtain⟨⟨old,he⟩,⟨o,ho,hc,hd⟩,_⟩:=st;have e':b=e\/b=it:=by simpa using hb
  rcases e' with z | z
  ·rw[z];exact⟨_,he,λ v q=>nomatch q⟩
  ·rw[z];exact⟨o,ho,λ v q=>by rw[hd] at q;cases q⟩
 keep:=λ i h h' st k=>let ⟨⟨old,he⟩,hi,hne⟩:=st;⟨⟨old,k e (by simp) _ he⟩,hi.at λ o q=>k it (by simp) o q,hne⟩
 item:=by
  intro X hP hw hK hc i pins s σ H E I hf st hg;subst hP hw hK;obtain⟨⟨old,he⟩,hit,hne⟩:=st;obtain⟨xs,x,hq,hx⟩:=hg;obtain⟨its,rv,p,hz⟩:=I.list hq;obtain⟨u,hu,ru⟩:=rv.get hx;have hel:e<s.heap.objs.size:=Heap.lt_size he;have hil:it<s.heap.objs.size:=by obtain⟨_,q,_⟩:=hit;exact Heap.lt_size q
  refine wpAny_pyNext_enum_item he hit p.isList (x:=u) (by simpa using hu) hne λ h' ho ZU hT hsz hk=>?_
  refine⟨_,rfl,wpAny_letOwnedTupleGo_enum (s:={ s with heap:=h',toks:=s.toks+1 }) ho λ h'' he' sb=>?_⟩;have hT2:h''.get? s.heap.objs.size=some { cls:=.type "tuple",data:=.seq #[.int i s.toks,u] }:=(sb.2 _ (fG hel)).trans hT;have new:pN X.prog X.w (upd H s.heap.objs.size (.tup [.int (i:Nat),x])) h'' s.heap.objs.size (.tup [.int (i:Nat),x]):=
   ⟨by show 2<=sizeLine;decide,[.int i s.toks,u],.cons ⟨_,rfl⟩ (.cons ru .nil),⟨_,hT2,rfl,_,rfl⟩⟩
  have I1:Inv X pins σ (upd H s.heap.objs.size (.tup [.int (i:Nat),x])) { s with heap:=h'',toks:=s.toks+1 }:=
   I.Fj (ch:=[e,it]) (λ b ob hb q=>(sb.2 b (λ z=>hb (by simp[z]))).trans (hk b ob (λ z=>hb (by simp[z])) (λ z=>hb (by simp[z])) q)) hf (au _) new
  refine⟨.ref s.heap.objs.size,_,I1,rfl,⟨_,x,rfl,I.hok.fresh (au _),rfl,λ ys hy=>by rw[I.zj hy hq];exact hx⟩,⟨⟨u,?_⟩,ZU.at λ o q=>(sb.2 it (Ne.symm hne)).trans q,hne⟩,λ b hb=>?_⟩
  ·have e1:((i+1:Nat):Int)=(i:Int)+1:=by omega
   rw[e1];exact he'
  ·have hb':b<s.heap.objs.size:=by
    have e':b=e\/b=it:=by simpa using hb
    rcases e' with z | z
    ·rw[z];exact hel
    ·rw[z];exact hil
   rw[jA (aZ hb')];exact (hf b hb).1
 done:=by
  intro X hP hw hK hc i pins s σ H E I hf st hg;subst hP hw hK;obtain⟨⟨old,he⟩,hit,hne⟩:=st;obtain⟨xs,hq,hx⟩:=hg;obtain⟨its,rv,p,hz⟩:=I.list hq;obtain⟨f0,f1,f2,f3,f4,f5⟩:=hf it (by simp);have hl:=rv.length;exact wpAny_pyNext_enum_end (I.ok.hd hc) he hit p.isList (by simp;omega) λ h' eb=>⟨rfl,I.turned (t':=s.toks) (λ b o hb q=>eb b o hb q) f0 f1 f3 f4 f5⟩
 self:=λ A i s Q E st h=>let ⟨⟨_,he⟩,_⟩:=st;wpAny_pyIter_enum he h
def Xy(K:aj)(ta:TA):TI:=λ σ H R=>ta σ H λ vs H1=>∃a xs,vs=[.ref a]/\jO K H1 a xs/\R (Uq K a) H1
theorem xP{X:Cx}{e:Expr}{ta:TA}{p pos tpos:Pos}{elts:List Expr}{kk:Nat}(hg:Gl X "enumerate")(hm:X.mg "enumerate" = none)(ha:PA X [e] ta)(hs:starEach [e] X.env=[(false,eval e X.env)]:=by rfl) :
  PI X (.Tuple elts kk tpos) (.Call (.Name "enumerate" p) [e] [] pos) (Xy X.K ta):=by
 intro pins s σ H R I h
 refine Call_ (yN I hg hm boot_enumerate (PyProof.Rows.callWith_type1 (mP (ha pos pins s σ H _ I h) λ us s1 ⟨vs,H1,I1,r1,q1⟩=>?_) hs rfl))
 obtain⟨a,xs,ex,hq,q⟩:=q1
 subst ex
 cases r1 with
 |cons r rr=>
  cases rr
  cases r;obtain⟨its,rv,p',hz⟩:=I1.list hq;refine call_enumerate_list p'.isList λ h' he hit hsz hk=>wpAny_pyIter_enum he ?_
  have I2:Inv X pins σ H1 { s1 with heap:=h' }:=I1.kept (t':=s1.toks) hk;refine⟨s1.heap.objs.size+1,[s1.heap.objs.size+1,s1.heap.objs.size],_,_,H1,rfl,I2,Ms a (s1.heap.objs.size+1) s1.heap.objs.size,⟨⟨.none,he⟩,hit,Nat.succ_ne_self _⟩,λ b hb=>?_,q⟩;have e':b=s1.heap.objs.size+1\/b=s1.heap.objs.size:=by simpa using hb
  have hle:s1.heap.objs.size<=b:=by
   rcases e' with z | z
   ·rw[z];exact eU _ _
   ·rw[z];exact au _
  exact I1.Oh hle (I1.hok.fresh hle)
theorem Mt:bootBuiltins "zip" = some (.type "zip"):=by decide +kernel
def Ur(K:aj)(a b:Addr):It:=
 ⟨λ i H=>∃(xs ys:List V) (x y:V),jO K H a xs/\jO K H b ys/\xs[i]? = some x/\ys[i]? = some y,
  λ i H v H'=>∃T x y,v=.ref T/\H T=none/\H'=upd H T (.tup [x,y])/\(∀xs,jO K H a xs->xs[i]? = some x)/\∀ys,jO K H b ys->ys[i]? = some y,
  λ i H=>∃xs ys:List V,jO K H a xs/\jO K H b ys/\(xs.length<=i\/ys.length<=i)⟩
theorem OL{P:Program}{w:World}{K:aj}{elts:List Expr}{kk:Nat}{tpos:Pos}{a b z TI TO i1 i2:Addr}(D:ZipApart z TI TO i1 i2 a b) :
  Turn P w K (.Tuple elts kk tpos) (Ur K a b) [z,TI,TO,i1,i2] z (λ i h=>IsZip h z TI TO .none/\IsPair h TI (.ref i1) (.ref i2)/\(∃x y,IsPair h TO x y)/\h.IsListIter i1 a i/\h.IsListIter i2 b i) where
 mem:=by simp
 obj:=λ i h st c hc=>by
  obtain⟨hz,hTI,⟨x,y,hTO⟩,⟨o1,e1,_,d1⟩,⟨o2,e2,_,d2⟩⟩:=st;have e':c=z\/c=TI\/c=TO\/c=i1\/c=i2:=by simpa using hc
  rcases e' with q | q | q | q | q
  ·rw[q];exact⟨_,hz,λ v q=>nomatch q⟩
  ·rw[q];exact⟨_,hTI,λ v q=>nomatch q⟩
  ·rw[q];exact⟨_,hTO,λ v q=>nomatch q⟩
  ·rw[q];exact⟨o1,e1,λ v q=>by rw[d1] at q;cases q⟩
  ·rw[q];exact⟨o2,e2,λ v q=>by rw[d2] at q;cases q⟩
 keep:=λ i h h' st k=>by
  obtain⟨hz,hTI,⟨x,y,hTO⟩,h1,h2⟩:=st;exact⟨k z (by simp) _ hz,k TI (by simp) _ hTI,⟨x,y,k TO (by simp) _ hTO⟩,h1.at λ o q=>k i1 (by simp) o q,h2.at λ o q=>k i2 (by simp) o q⟩
 item:=by
  intro X hP hw hK hc i pins s σ H E I hf st hg;subst hP hw hK;obtain⟨hz,hTI,⟨x0,y0,hTO⟩,h1,h2⟩:=st;obtain⟨xs,ys,x,y,WE,WG,hx,hy⟩:=hg;obtain⟨its,rv,p,_⟩:=I.list WE;obtain⟨its2,Y0,p2,_⟩:=I.list WG;obtain⟨u,hu,ru⟩:=rv.get hx;obtain⟨u2,hu2,ru2⟩:=Y0.get hy;have hzl:z<s.heap.objs.size:=Heap.lt_size hz;refine wpAny_pyNext_zip_item D hz hTI hTO h1 h2 p.isList p2.isList (x:=u) (y:=u2) (by simpa using hu) (by simpa using hu2) λ h' z' TO' h1' h2' hT hsz hk=>?_
  refine⟨_,rfl,wpAny_letOwnedTupleGo_zip (s:={ s with heap:=h' }) z' λ h'' z'' sb=>?_⟩;have hT2:h''.get? s.heap.objs.size=some { cls:=.type "tuple",data:=.seq #[u,u2] }:=(sb.2 _ (fG hzl)).trans hT;have new:pN X.prog X.w (upd H s.heap.objs.size (.tup [x,y])) h'' s.heap.objs.size (.tup [x,y]):=
   ⟨by show 2<=sizeLine;decide,[u,u2],.cons ru (.cons ru2 .nil),⟨_,hT2,rfl,_,rfl⟩⟩
  have I1:Inv X pins σ (upd H s.heap.objs.size (.tup [x,y])) { s with heap:=h'' }:=
   I.Fj (t':=s.toks) (ch:=[z,TI,TO,i1,i2]) (λ c o hb q=>(sb.2 c (λ q'=>hb (by simp[q']))).trans (hk c o (λ q'=>hb (by simp[q'])) (λ q'=>hb (by simp[q'])) (λ q'=>hb (by simp[q'])) (λ q'=>hb (by simp[q'])) q)) hf (au _) new
  refine⟨.ref s.heap.objs.size,_,I1,rfl,⟨_,x,y,rfl,I.hok.fresh (au _),rfl,λ l hl=>by rw[I.zj hl WE];exact hx,λ l hl=>by rw[I.zj hl WG];exact hy⟩,⟨z'',?_,⟨u,u2,?_⟩,?_,?_⟩,λ c R0=>?_⟩
  ·exact (sb.2 _ D.TIz).trans (hk _ _ D.TIz D.TITO D.TIi1 D.TIi2 hTI)
  ·exact (sb.2 _ D.TOz).trans TO'
  ·exact h1'.at λ o q=>(sb.2 _ D.i1z).trans q
  ·exact h2'.at λ o q=>(sb.2 _ D.i2z).trans q
  ·have hlt:c<s.heap.objs.size:=by
    have e':c=z\/c=TI\/c=TO\/c=i1\/c=i2:=by simpa using R0
    rcases e' with q | q | q | q | q
    ·rw[q];exact hzl
    ·rw[q];exact Heap.lt_size hTI
    ·rw[q];exact Heap.lt_size hTO
    ·rw[q];obtain⟨_,e1,_⟩:=h1;exact Heap.lt_size e1
    ·rw[q];obtain⟨_,e2,_⟩:=h2;exact Heap.lt_size e2
   rw[jA (aZ hlt)];exact (hf c R0).1
 done:=by
  intro X hP hw hK hc i pins s σ H E I hf st hg;subst hP hw hK;obtain⟨hz,hTI,⟨x0,y0,hTO⟩,h1,h2⟩:=st;obtain⟨xs,ys,WE,WG,hend⟩:=hg;obtain⟨its,rv,p,_⟩:=I.list WE;obtain⟨its2,Y0,p2,_⟩:=I.list WG;have l1:=rv.length;have l2:=Y0.length;have he:its.toArray[i]? = none\/its2.toArray[i]? = none:=by
   rcases hend with q | q
   ·exact .inl (by simp;omega)
   ·exact .inr (by simp;omega)
  exact wpAny_pyNext_zip_end (I.ok.hd hc) D hz hTI hTO h1 h2 p.isList p2.isList he λ h' hk=>⟨rfl,I.RZ (t':=s.toks) (ch:=[z,TI,TO,i1,i2]) (λ c o hb q=>
   hk c o (λ q'=>hb (by simp[q'])) (λ q'=>hb (by simp[q'])) (λ q'=>hb (by simp[q'])) (λ q'=>hb (by simp[q'])) q) hf⟩
 self:=λ A i s Q E st h=>wpAny_pyIter_zip st.1 h
def ZV(K:aj)(ta:TA):TI:=λ σ H R=>ta σ H λ vs H1=>∃a b xs ys,vs=[.ref a,.ref b]/\jO K H1 a xs/\jO K H1 b ys/\R (Ur K a b) H1
theorem Gz{X:Cx}{e e2:Expr}{ta:TA}{p pos tpos:Pos}{elts:List Expr}{kk:Nat}(hg:Gl X "zip")(hm:X.mg "zip" = none)(ha:PA X [e,e2] ta)
  (hs:starEach [e,e2] X.env=(false,eval e X.env)::starEach [e2] X.env:=by rfl) (hpl:(backTo pos (starEach [e2] X.env)).any (·.1)=false:=by rfl) :
  PI X (.Tuple elts kk tpos) (.Call (.Name "zip" p) [e,e2] [] pos) (ZV X.K ta):=by
 intro pins s σ H R I h
 refine Call_ (yN I hg hm Mt (PyProof.Rows.callWith_type1 (mP (ha pos pins s σ H _ I h) λ us s1 ⟨vs,H1,I1,r1,q1⟩=>?_) hs hpl))
 obtain⟨a,b,xs,ys,ex,WE,WG,q⟩:=q1
 subst ex
 cases r1 with
 |cons r rr=>
  cases rr with
  |cons r' rr=>
   cases rr
   cases r
   cases r';obtain⟨its,rv,p1,_⟩:=I1.list WE;obtain⟨its2,Y0,p2,_⟩:=I1.list WG;have la:a<s1.heap.objs.size:=p1.lt;have lb:b<s1.heap.objs.size:=p2.lt;refine call_zip_2 p1.isList p2.isList λ h' hz hTI hTO h1 h2 hsz hk=>wpAny_pyIter_zip hz ?_
   have I2:Inv X pins σ H1 { s1 with heap:=h' }:=I1.kept (t':=s1.toks) hk;refine⟨s1.heap.objs.size+4,[s1.heap.objs.size+4,s1.heap.objs.size+2,s1.heap.objs.size+3,s1.heap.objs.size,s1.heap.objs.size+1],_,_,H1,rfl,I2,OL (PySem.W.ktu_apart s1.heap.objs.size a b la lb),⟨hz,hTI,⟨_,_,hTO⟩,h1,h2⟩,λ c R0=>?_,q⟩;have e':c=s1.heap.objs.size+4\/c=s1.heap.objs.size+2\/c=s1.heap.objs.size+3\/c=s1.heap.objs.size\/c=s1.heap.objs.size+1:=by simpa using R0
   have hle:s1.heap.objs.size<=c:=by
    rcases e' with z | z | z | z | z
    ·rw[z];exact eU _ _
    ·rw[z];exact eU _ _
    ·rw[z];exact eU _ _
    ·rw[z];exact au _
    ·rw[z];exact eU _ _
   exact I1.Oh hle (I1.hok.fresh hle)
end L2
section 
namespace pV
open PySem PyProof.Rows
end pV
end 
section 
namespace TL
open PySem PySem.Builtin PySem.Builtin.Str PySem.StrLaws
end TL
end 
namespace L2
open PySem PySem.Spec PyProof.Rows
section
variable{X:Cx}{pins:List (Addr×Obj)}{σ:St}{H:Hp}{s:Shared}{Q:VK}
end
section
variable{X:Cx}
end
section
variable{X:Cx}{o e:Expr}{to te:TE}
end
end L2
namespace L2
open PySem PySem.Spec PyProof.Rows
section
variable{X:Cx}
end
end L2
namespace Att
open PySem PySem.W PySem.Calls PyProof.Rows
theorem BK{P:Params}{h:Heap}:∀(ns:List Int) (vs:List Value),WellAll P h vs (ns.map WData.int)->IntsAre vs ns:=by
 intro ns
 induction ns with
 |nil=>
  intro vs w;rw[bV] at w
  cases w;exact .nil
 |cons n ns ih=>
  intro vs w;rw[aS] at w
  cases w with
  |cons a b=>
   cases a;exact .cons _ _ (ih _ b)
section
variable{prog:Program}{w:World}{A:Around}{E:Value->Shared->Prop}{s:Shared}{K:Frag}
end
end Att
namespace L2
open PySem PySem.Spec PyProof.Rows
theorem Fl:∀{vs:List Value}{ns:List Int},IntsAre vs ns->Vals (ns.map V.int) vs
 |_,_,.nil=>.nil
 |_,_,.cons n t h=>.cons ⟨t,rfl⟩ (Fl h)
end L2
namespace L2
open PySem PySem.Spec PyProof.Rows
end L2
namespace L2
open PySem PySem.Spec PyProof.Rows
def inClass(s:Stmt)(j:Nat):Stmt:=match s with
 |.ClassDef _ _ _ body _ _ _ _ _ _ _=>body.getD j (.Pass ⟨0,0,0,0⟩)
 |_=>.Pass ⟨0,0,0,0⟩
def u7(s:Stmt):Arguments:=match s with
 |.FunctionDef _ a _ _ _ _ _ _ _ _=>a
 |_=>{ posonlyargs:=[],args:=[],vararg:=none,kwonlyargs:=[],kw_defaults:=[],kwarg:=none,defaults:=[] }
def sR(s:Stmt):List Stmt:=match s with
 |.FunctionDef _ _ b _ _ _ _ _ _ _=>b
 |_=>[]
def jD(s:Stmt):Scope:=match s with
 |.FunctionDef _ _ _ _ _ _ sc _ _ _=>sc
 |_=>{ kind:=.function,names:=[],isGenerator:=false,isCoroutine:=false }
abbrev E0:XK:=λ _ _ _=>False
structure Vt(K:aj)(x qual:Str)(st:Stmt)(f:Addr)(fd:FuncData):Prop where
 ex:∃(oc:Value) (od:Option Addr) (kV doc pm:Value) (an:Option Addr) (cdv ct:Value) (osl:Array (Option Value)),
  fd=dM x qual (u7 st) (sR st) (jD st) .none kV doc pm an cdv ct/\K.lookup f=some ⟨oc,od,.func fd,osl⟩/\gB K cdv qual=true
 kp:eE K (.ref f)=true
section
variable{P:Program}{w:World}{K:aj}{mg:Str->Option Value}{base:Heap}
theorem Vt.binds{x qual:Str}{st:Stmt}{f:Addr}{fd:FuncData}{ps:List Str}(F:Vt K x qual st f fd)
  (h:∀(kV doc pm:Value) (an:Option Addr) (cdv ct:Value) (us:List Value),us.length=ps.length->bindArgs (dM x qual (u7 st) (sR st) (jD st) .none kV doc pm an cdv ct) ⟨us,[]⟩=pure (ps.zip us)):Binds K fd ps []:=by
 obtain⟨oc,od,kV,doc,pm,an,cdv,ct,osl,rfl,lk,hcd⟩:=F.ex
 exact .all (h kV doc pm an cdv ct)
theorem OM{x qual:Str}{st:Stmt}{f:Addr}{oc:Value}{od an:Option Addr}{osl:Array (Option Value)}{kV doc pm cdv ct:Value}(l:K.lookup f=some ⟨oc,od,.func (dM x qual (u7 st) (sR st) (jD st) .none kV doc pm an cdv ct),osl⟩)
  (c:gB K cdv qual=true) (k:eE K (.ref f)=true):Vt K x qual st f (dM x qual (u7 st) (sR st) (jD st) .none kV doc pm an cdv ct):=⟨⟨oc,od,kV,doc,pm,an,cdv,ct,osl,rfl,l,c⟩,k⟩
end
section
variable{X:Cx}
theorem pv(i:Nat){x:Str}{pos:Pos}(hN:X.N[i]? = some x:=by rfl)(hv:Rw X.env.scope x:=by first | exact Or.inl rfl | exact Or.inr (Or.inl rfl) | exact Or.inr (Or.inr rfl))(hd:(x==("__debug__":Str))=false:=by decide)
  (hcd:(x==("__classdict__":Str))=false:=by decide):PE X (.Name x pos) (zg i):=U7 hN hv hd hcd
end
theorem tP{A B:Prop}(h:B):if false=true then A else B:=by
 rw[if_neg aP]
 exact h
theorem vX{A B:Prop}(h:A):if true=true then A else B:=by
 rw[if_pos rfl]
 exact h
def jF(H H':Hp):Prop:=∀b o,H b=some o->H' b=some o
theorem jF.refl(H:Hp):jF H H:=λ _ _ h=>h
theorem jF.trans{H H1 H2:Hp}(a:jF H H1)(b:jF H1 H2):jF H H2:=λ c o h=>b c o (a c o h)
theorem jF.free{H H':Hp}(e:jF H H'){l:Addr}(h:H' l=Option.none):H l=Option.none:=by
 cases q:H l with
 |none=>rfl
 |some o=>
  rw[e l o q] at h
  cases h
theorem jF.seq{K:aj}{H H':Hp}{a:Addr}{xs:List V}(e:jF H H')(h:jO K H a xs):jO K H' a xs:=by
 rcases h with (h | ⟨o,h⟩) | h
 ·exact .inl (.inl (e _ _ h))
 ·exact .inl (.inr ⟨o,e _ _ h⟩)
 ·exact .inr h
section
variable{κ:Type}[DecidableEq κ]
end
end L2
end
noncomputable section
namespace St
open PySem
def BZ(M:Nat):Nat->Nat->Nat
 |0,x=>x
 |m+1,x=>BZ M m ((x*5+1)%M)
theorem ON{M:Nat}(hM:0<M):∀(m x:Nat),x<M->BZ M m x<M
 |0,_,h=>h
 |m+1,x,_=>ON hM m _ (gC _ hM)
theorem zo(M:Nat):∀(a b x:Nat),BZ M (a+b) x=BZ M b (BZ M a x)
 |0,b,x=>by rw[jj];rfl
 |a+1,b,x=>by
  rw[Nat.succ_add];exact zo M a b _
theorem R5{M:Nat}:∀(m x:Nat),(4*BZ M m x+1)%M=(5^m*(4*x+1))%M
 |0,x=>by simp[BZ]
 |m+1,x=>by
  show (4*BZ M m ((x*5+1)%M)+1)%M=_;rw[R5 m];have:(4*((x*5+1)%M)+1)%M=(5*(4*x+1))%M:=by
   rw[iO,gf,Nat.mod_mod,<-gf,<-iO]
   congr 1;omega
  rw[gf,this,<-gf,cC,iZ]
theorem HK:∀k:Nat,∃e,5^(2^k)=1+2^(k+2)*(2*e+1)
 |0=>⟨0,rfl⟩
 |k+1=>by
  obtain⟨e,h⟩:=HK k;refine⟨e+2^k*(2*e+1)*(2*e+1),?_⟩;rw[cC 2 k,Nat.pow_mul,h,show k+1+2=(k+2)+1 from rfl,cC 2 (k+2)];have e2:2^(k+2)=4*2^k:=by rw[Nat.pow_add];omega
  rw[e2];generalize 2^k=y
  grind
def qS:Nat->Nat->Nat
 |0,x=>x
 |m+1,x=>qS m (x*5+1)
theorem Fo{M:Nat}:∀(m x:Nat),BZ M m (x%M)%M=qS m x%M
 |0,x=>by simp[BZ,qS]
 |m+1,x=>by
  show BZ M m ((x%M*5+1)%M)%M=qS m (x*5+1)%M;rw[<-Fo m (x*5+1)]
  congr 2
  rw[iO,gf,Nat.mod_mod,<-gf,<-iO]
theorem HL:∀(m x:Nat),4*qS m x+1=5^m*(4*x+1)
 |0,x=>by simp[qS]
 |m+1,x=>by
  show 4*qS m (x*5+1)+1=_;rw[HL m,cC,iZ]
  congr 1;omega
theorem Fp:∀(a b x:Nat),qS (a+b) x=qS b (qS a x)
 |0,b,x=>by rw[jj];rfl
 |a+1,b,x=>by rw[Nat.succ_add];exact Fp a b _
theorem JH(k x:Nat):qS (2^k) x%2^(k+1)=(x+2^k)%2^(k+1):=by
 obtain⟨e,h⟩:=HK k
 have q:=HL (2^k) x
 rw[h] at q
 have e2:2^(k+2)=4*2^k:=by rw[Nat.pow_add];omega
 have e1:2^(k+1)=2*2^k:=by rw[cC];omega
 rw[e2] at q
 rw[e1]
 have:qS (2^k) x=(x+2^k)+2*2^k*(e+2*x*(2*e+1)):=by
  generalize 2^k=y at q ⊢
  have:4*qS y x=4*((x+y)+2*y*(e+2*x*(2*e+1))):=by grind
  omega
 rw[this,Nat.add_mul_mod_self_left]
theorem meets:∀(k x t:Nat),t<2^k->∃m,m<2^k/\qS m x%2^k=t
 |0,x,t,h=>⟨0,by simp,by rw[Nat.pow_zero] at h ⊢;omega⟩
 |k+1,x,t,h=>by
  have hp:0<2^k:=Nat.pow_pos (by decide);have e1:2^(k+1)=2*2^k:=by rw[cC];omega
  obtain⟨m,hm,q⟩:=meets k x (t%2^k) (gC _ hp)
  by_cases hs:qS m x%2^(k+1)=t
  ·exact⟨m,by omega,hs⟩
  ·refine⟨m+2^k,by omega,?_⟩;rw[Fp,JH];rw[e1] at hs h ⊢;generalize hy:qS m x=y at *
   generalize hz:2^k=z at *
   have a1:y%(2*z)=y%z\/y%(2*z)=y%z+z:=by
    have:=Nat.mod_mul_left_div_self y z 2;have h1:=Nat.div_add_mod (y%(2*z)) z;have h2:y%(2*z)%z=y%z:=Nat.mod_mul_left_mod y 2 z;have h3:y%(2*z)<2*z:=gC _ (by omega);have h4:y%(2*z)/z<2:=(iK hp).mpr h3;rw[h2] at h1;have h5:y%(2*z)/z=0\/y%(2*z)/z=1:=by omega
    rcases h5 with h5 | h5<;>rw[h5] at h1<;>omega
   have a2:t=t%z\/t=t%z+z:=by
    have h1:=Nat.div_add_mod t z;have h4:t/z<2:=(iK hp).mpr h;have h5:t/z=0\/t/z=1:=by generalize t/z=v at h4;omega
    rcases h5 with h5 | h5<;>rw[h5] at h1<;>omega
   have a3:(y+z)%(2*z)=(y%(2*z)+z)%(2*z):=by rw[Nat.mod_add_mod]
   have lt:=gC t hp;rw[a3]
   rcases a1 with a1 | a1
   ·rw[a1,q]
    rcases a2 with a2 | a2
    ·exfalso;apply hs;omega
    ·rw[dG (by omega)];omega
   ·rw[a1,q]
    rcases a2 with a2 | a2
    ·rw[show t%z+z+z=t%z+2*z by omega,Nat.add_mod_right,dG (by omega)];omega
    ·exfalso;apply hs;omega
theorem AG{k x t:Nat}(hx:x<2^k)(h:t<2^k):∃m,m<2^k/\BZ (2^k) m x=t:=by
 obtain⟨m,hm,q⟩:=meets k x t h
 refine⟨m,hm,?_⟩
 have:=Fo (M:=2^k) m x
 rw[dG hx,q,dG (ON (Nat.pow_pos (by decide)) m x hx)] at this
 exact this
end St
end
noncomputable section
namespace St
open PySem PySem.SetTable
def Up(xs:Array Nat):Prop:=∀(i j a b:Nat),xs[i]? = some a->xs[j]? = some b->i<j->a<b
theorem Up.inj{xs:Array Nat}(u:Up xs){i j a:Nat}(h1:xs[i]? = some a)(h2:xs[j]? = some a):i=j:=by
 rcases dZ i j with h | h | h
 ·exact absurd (u i j a a h1 h2 h) (bI _)
 ·exact h
 ·exact absurd (u j i a a h2 h1 h) (bI _)
theorem CA{xs:Array Nat}(u:Up xs)(j:Nat):∀(fuel lo hi:Nat),lo<=hi->hi<=xs.size->hi-lo<=fuel ->
  (∀i a,xs[i]? = some a->i<lo->a<j)->(∀i a,xs[i]? = some a->hi<=i->j<=a) ->
  below.go xs j fuel lo hi<=xs.size/\∀i a,xs[i]? = some a->(i<below.go xs j fuel lo hi↔a<j)
 |0,lo,hi,h1,h2,h3,l,r=>by
  have e:lo=hi:=by omega
  subst e;refine⟨h2,λ i a e=>⟨λ q=>l i a e q,λ q=>?_⟩⟩;show i<lo
  by_cases z:i<lo
  ·exact z
  ·have:=r i a e (by omega);omega
 |fuel+1,lo,hi,h1,h2,h3,l,r=>by
  unfold below.go
  by_cases hlt:lo<hi
  ·rw[if_pos hlt];have hm:(lo+hi)/2<xs.size:=by omega
   have em:xs[(lo+hi)/2]? = some xs[(lo+hi)/2]:=bB hm;have ed:xs.getD ((lo+hi)/2) j=xs[(lo+hi)/2]:=by simp[Array.getD,hm]
   simp only[ed]
   by_cases hc:xs[(lo+hi)/2]<j
   ·rw[if_pos hc];refine CA u j fuel _ _ (by omega) h2 (by omega) (λ i a e q=>?_) r
    rcases fM i ((lo+hi)/2) with z | z
    ·exact jk (u i _ a _ e em z) hc
    ·have:i=(lo+hi)/2:=by omega
     subst this;rw[em] at e;cases e;exact hc
   ·rw[if_neg hc];refine CA u j fuel _ _ (by omega) (by omega) (by omega) l (λ i a e q=>?_)
    rcases fM ((lo+hi)/2) i with z | z
    ·have:=u _ i _ a em e z;omega
    ·have:i=(lo+hi)/2:=by omega
     subst this;rw[em] at e;cases e;omega
  ·rw[if_neg hlt];have e:lo=hi:=by omega
   subst e;refine⟨h2,λ i a e=>⟨λ q=>l i a e q,λ q=>?_⟩⟩
   by_cases z:i<lo
   ·exact z
   ·have:=r i a e (by omega);omega
theorem vc{xs:Array Nat}(u:Up xs)(j:Nat):below xs j<=xs.size/\∀i a,xs[i]? = some a->(i<below xs j↔a<j):=by
 unfold below
 refine CA u j _ 0 _ (bq _) (au _) (by omega) (λ i a _ q=>absurd q (by omega)) (λ i a e q=>?_)
 obtain⟨h,_⟩:=bE.mp e
 omega
theorem below_at{xs:Array Nat}(u:Up xs){i j:Nat}(h:xs[i]? = some j):below xs j=i:=by
 obtain⟨h1,h2⟩:=vc u j
 have a1:=h2 i j h
 obtain⟨hi,_⟩:=bE.mp h
 rcases dZ (below xs j) i with z | z | z
 ·have eb:xs[below xs j]? = some xs[below xs j]:=bB (by omega)
  have:=(h2 _ _ eb)
  have lt:=u _ i _ j eb h z;omega
 ·exact z
 ·omega
theorem Vu{xs:Array Nat}(u:Up xs){j:Nat}(h:∀i:Nat,xs[i]?≠some j):(xs[below xs j]? == some j)=false:=by
 cases e:xs[below xs j]? with
 |none=>rfl
 |some a=>
  have:a≠j:=λ z=>h _ (by rw[e,z])
  simpa using this
structure ED(t:SetTable)(n:Nat):Prop where
 size:t.place.size=n
 up:Up t.place
 le:∀(i j:Nat),t.place[i]? = some j->j<=t.mask
 Xz:t.dummies = #[]
 pow:∃k,3<=k/\t.mask+1=2^k
theorem ED.live{t:SetTable}{n:Nat}(o:ED t n){i j:Nat}(h:t.place[i]? = some j):t.slot j=.live i:=by
 unfold SetTable.slot
 simp only[below_at o.up h,h,beq_self_eq_true,if_true]
theorem ED.empty{t:SetTable}{n:Nat}(o:ED t n){j:Nat}(h:∀i:Nat,t.place[i]?≠some j):t.slot j=.empty:=by
 unfold SetTable.slot
 simp only[Vu o.up h,has,o.Xz]
 rfl
theorem ED.JI{t:SetTable}{n:Nat}(o:ED t n)(j:Nat):(∃i,t.place[i]? = some j/\t.slot j=.live i)\/((∀i:Nat,t.place[i]?≠some j)/\t.slot j=.empty):=by
 by_cases h:∃i:Nat,t.place[i]? = some j
 ·obtain⟨i,h⟩:=h
  exact .inl ⟨i,h,o.live h⟩
 ·have h':∀i:Nat,t.place[i]?≠some j:=λ i e=>h ⟨i,e⟩
  exact .inr ⟨h',o.empty h'⟩
theorem ED.fits{t:SetTable}{n:Nat}(o:ED t n):t.fill=n:=by
 unfold SetTable.fill;rw[o.size,o.Xz];rfl
theorem kR{α:Type}(xs:Array α)(p:Nat)(x:α)(hp:p<=xs.size)(i:Nat) :
  (insertAt xs p x)[i]? = if i<p then xs[i]? else if i=p then some x else xs[i-1]?:=by
 unfold insertAt
 have s1:((xs.extract 0 p).push x).size=p+1:=by simp;omega
 by_cases h1:i<p
 ·rw[if_pos h1,gE (by omega),Array.getElem?_push_lt (by simp;omega)]
  simp[bB (show i<xs.size by omega)]
 ·rw[if_neg h1]
  by_cases h2:i=p
  ·subst h2;rw[if_pos rfl,gE (by omega)];have:(xs.extract 0 i).size=i:=by simp;omega
   rw[Array.getElem?_push,if_pos this.symm]
  ·rw[if_neg h2,Array.getElem?_append_right (by omega),s1];rw[Array.getElem?_extract]
   by_cases h3:i-(p+1)<xs.size-p
   ·rw[if_pos (by simp;omega)]
    congr 1;omega
   ·rw[if_neg (by simp;omega)];exact (Array.getElem?_eq_none (by omega)).symm
theorem yc{α:Type}(xs:Array α)(p:Nat)(x:α)(hp:p<=xs.size):(insertAt xs p x).size=xs.size+1:=by
 unfold insertAt;simp;omega
theorem Mu{xs:Array Nat}(u:Up xs){j:Nat}(h:∀i:Nat,xs[i]?≠some j):Up (insertAt xs (below xs j) j):=by
 obtain⟨hp,hs⟩:=vc u j
 intro a b x y ea eb hab
 rw[kR _ _ _ hp] at ea eb
 have ge:∀i c,xs[i]? = some c->¬i<below xs j->j<c:=λ i c e q=>by
  have h1:¬c<j:=λ z=>q ((hs i c e).mpr z)
  have h2:c≠j:=λ z=>h i (by rw[e,z])
  omega
 split at ea
 ·split at eb
  ·exact u a b x y ea eb hab
  ·split at eb
   ·cases eb;exact (hs a x ea).mp (by assumption)
   ·have h1:=(hs a x ea).mp (by assumption);have h2:=ge (b-1) y eb (by omega);omega
 ·split at ea
  ·cases ea;rw[if_neg (by omega),if_neg (by omega)] at eb;exact ge (b-1) y eb (by omega)
  ·rw[if_neg (by omega),if_neg (by omega)] at eb;exact u (a-1) (b-1) x y ea eb (by omega)
theorem mem_insert{xs:Array Nat}{p j c:Nat}(hp:p<=xs.size):(∃i:Nat,(insertAt xs p j)[i]? = some c)↔c=j\/∃i:Nat,xs[i]? = some c:=by
 constructor
 ·rintro⟨i,e⟩
  rw[kR _ _ _ hp] at e
  split at e
  ·exact .inr ⟨_,e⟩
  ·split at e
   ·cases e;exact .inl rfl
   ·exact .inr ⟨_,e⟩
 ·rintro (rfl | ⟨i,e⟩)
  ·exact⟨p,by rw[kR _ _ _ hp,if_neg (by omega),if_pos rfl]⟩
  ·by_cases h:i<p
   ·exact⟨i,by rw[kR _ _ _ hp,if_pos h];exact e⟩
   ·exact⟨i+1,by rw[kR _ _ _ hp,if_neg (by omega),if_neg (by omega)];exact e⟩
theorem ED.put{t:SetTable}{n j:Nat}(o:ED t n)(h:∀i:Nat,t.place[i]?≠some j)(hj:j<=t.mask) :
  (t.put j).2=below t.place j/\ED (t.put j).1 (n+1)/\(t.put j).1.place=insertAt t.place (below t.place j) j/\(t.put j).1.mask=t.mask/\(t.put j).1.plain=t.plain/\(t.put j).1.led=t.led/\(t.put j).1.moves=t.moves:=by
 obtain⟨hp,_⟩:=vc o.up j
 have hd:has t.dummies j=false:=by rw[o.Xz];rfl
 have ep:t.put j=({ t with place:=insertAt t.place (below t.place j) j },below t.place j):=by
  unfold SetTable.put;rw[hd];rfl
 rw[ep]
 refine⟨rfl,⟨?_,Mu o.up h,λ i c e=>?_,o.Xz,o.pow⟩,rfl,rfl,rfl,rfl,rfl⟩
 ·show (insertAt t.place (below t.place j) j).size=n+1
  rw[yc _ _ _ hp,o.size]
 ·rcases (mem_insert hp).mp ⟨i,e⟩ with rfl | ⟨i',e'⟩
  ·exact hj
  ·exact o.le i' c e'
end St
end
noncomputable section
namespace St
open PySem PySem.SetTable
def pr(t:SetTable)(h:Int):Nat->Probe
 |0=>t.probeStart h
 |m+1=>t.advance (pr t h m)
def lp(mask:Nat)(h:Int):Nat->Nat×Nat
 |0=>(bits h%(mask+1),bits h)
 |l+1=>leap mask (lp mask h l).1 (lp mask h l).2
def mw(mask i:Nat):Nat:=runEnd mask i-i
theorem Mv(mask i:Nat):mw mask i<=9:=by unfold mw runEnd;split<;>omega
theorem GA{mask i d:Nat}(hi:i<=mask)(hd:d<=mw mask i):i+d<=mask:=by unfold mw runEnd at hd;split at hd<;>omega
def idx(mask:Nat)(h:Int):Nat->Nat
 |0=>0
 |l+1=>idx mask h l+mw mask (lp mask h l).1+1
theorem JJ(mask:Nat)(h:Int):∀l,idx mask h l<=10*l
 |0=>au _
 |l+1=>by
  have:=JJ mask h l;have:=Mv mask (lp mask h l).1;unfold idx;omega
theorem GB(t:SetTable)(h:Int):∀l d,d<=mw t.mask (lp t.mask h l).1 ->
  pr t h (idx t.mask h l+d) = { j:=(lp t.mask h l).1+d,more:=mw t.mask (lp t.mask h l).1-d,i:=(lp t.mask h l).1,perturb:=(lp t.mask h l).2,dummy:=none }:=by
 intro l
 induction l with
 |zero=>
  intro d
  induction d with
  |zero=>intro _;rfl
  |succ d ih=>
   intro hd;have q:=ih (by omega);rw[<-Nat.add_assoc];show t.advance (pr t h (idx t.mask h 0+d))=_;rw[q];unfold SetTable.advance;simp only
   rw[if_pos (by omega)];simp only[Probe.mk.injEq,true_and,and_true]
   omega
 |succ l il=>
  intro d
  induction d with
  |zero=>
   intro _;have q:=il (mw t.mask (lp t.mask h l).1) (au _);show pr t h (idx t.mask h l+mw t.mask (lp t.mask h l).1+1)=_;show t.advance (pr t h (idx t.mask h l+mw t.mask (lp t.mask h l).1))=_;rw[q];unfold SetTable.advance;simp only
   rw[if_neg (by omega)];rfl
  |succ d ih=>
   intro hd;have q:=ih (by omega);rw[<-Nat.add_assoc];show t.advance (pr t h (idx t.mask h (l+1)+d))=_;rw[q];unfold SetTable.advance;simp only
   rw[if_pos (by omega)];simp only[Probe.mk.injEq,true_and,and_true]
   omega
theorem OO(mask:Nat)(h:Int):∀m,∃l d,d<=mw mask (lp mask h l).1/\m=idx mask h l+d
 |0=>⟨0,0,bq _,rfl⟩
 |m+1=>by
  obtain⟨l,d,hd,e⟩:=OO mask h m
  by_cases q:d<mw mask (lp mask h l).1
  ·exact⟨l,d+1,q,by omega⟩
  ·refine⟨l+1,0,bq _,?_⟩;show m+1=idx mask h l+mw mask (lp mask h l).1+1+0;omega
theorem HM{mask:Nat}(h:Int):∀l,(lp mask h l).1<=mask
 |0=>ef (gC _ (Nat.succ_pos _))
 |l+1=>ef (gC _ (Nat.succ_pos _))
theorem K9(t:SetTable)(h:Int)(m:Nat):(pr t h m).j<=t.mask/\(pr t h m).dummy=none:=by
 obtain⟨l,d,hd,rfl⟩:=OO t.mask h m
 rw[GB t h l d hd]
 exact⟨GA (HM h l) hd,rfl⟩
theorem R8(h:Int):bits h<2^64:=by
 unfold bits
 have h1:(0:Int)<=h%2^64:=Int.emod_nonneg _ (by decide)
 have h2:h%2^64<2^64:=Int.emod_lt_of_pos _ (by decide)
 omega
theorem Lb{mask:Nat}{h:Int}:∀l,(lp mask h l).2=bits h/32^l
 |0=>by show bits h=_;simp
 |l+1=>by
  show (lp mask h l).2/32=_;rw[Lb l,iA,cC]
theorem GC(mask:Nat)(h:Int):∀m,(lp mask h (12+m)).1=BZ (mask+1) m (lp mask h 12).1
 |0=>rfl
 |m+1=>by
  have z:(lp mask h (12+m)).2/32=0:=by
   rw[Lb,iA,<-cC];refine Nat.div_eq_of_lt (aM (R8 h) ?_);exact bf (show 2^64<=32^13 by decide) (eG (by decide) (by omega))
  show ((lp mask h (12+m)).1*5+1+(lp mask h (12+m)).2/32)%(mask+1)=_;rw[z,iB,GC mask h m,zo (mask+1) m 1,BZ,BZ]
theorem Mw{t:SetTable}{n:Nat}(o:ED t n)(hn:n<=t.mask):∃j,j<=t.mask/\∀i:Nat,t.place[i]?≠some j:=by
 refine az λ z=>?_
 have all:∀j,j<=t.mask->∃i,t.place[i]? = some j:=λ j hj=>az λ q=>z ⟨j,hj,λ i e=>q ⟨i,e⟩⟩
 have key:∀j,j<=t.mask->∀i,t.place[i]? = some j->j<=i:=by
  intro j
  induction j with
  |zero=>intro _ i _;exact bq _
  |succ j ih=>
   intro hj i e;obtain⟨i',e'⟩:=all j (by omega);have h1:=ih (by omega) i' e'
   rcases dZ i' i with q | q | q
   ·omega
   ·subst q;rw[e] at e';cases e'
   ·have:=o.up _ _ _ _ e e' q;omega
 obtain⟨i,e⟩:=all t.mask (au _)
 have h1:=key _ (au _) i e
 obtain⟨h2,_⟩:=bE.mp e
 have:=o.size
 omega
def qL(t:SetTable)(j:Nat):Prop:=∀i:Nat,t.place[i]?≠some j
theorem zp{p:Nat->Prop}:∀m,p m->∃f,f<=m/\p f/\∀i,i<f->¬p i:=by
 intro m
 induction m using iI with
 |ind m ih=>
  intro h
  by_cases q:∃i,i<m/\p i
  ·obtain⟨i,hi,hp⟩:=q;obtain⟨f,h1,h2,h3⟩:=ih i hi hp;exact⟨f,by omega,h2,h3⟩
  ·exact⟨m,au _,h,λ i hi hp=>q ⟨i,hi,hp⟩⟩
theorem JK{t:SetTable}{n:Nat}(o:ED t n)(hn:n<=t.mask)(h:Int):∃T,T<=10*(12+t.mask)/\qL t (pr t h T).j/\∀m,m<T->¬qL t (pr t h m).j:=by
 obtain⟨j,hj,fj⟩:=Mw o hn
 obtain⟨k,hk,ek⟩:=o.pow
 have hx:(lp t.mask h 12).1<2^k:=by rw[<-ek];exact eu (HM h 12)
 obtain⟨m,hm,e⟩:=AG hx (show j<2^k by omega)
 rw[<-ek,<-GC] at e
 have hpr:=GB t h (12+m) 0 (bq _)
 have hfree:qL t (pr t h (idx t.mask h (12+m)+0)).j:=by
  rw[hpr];show qL t ((lp t.mask h (12+m)).1+0);rw[e];exact fj
 obtain⟨T,h1,h2,h3⟩:=zp (p:=λ m=>qL t (pr t h m).j) _ hfree
 have:=JJ t.mask h (12+m)
 exact⟨T,by omega,h2,h3⟩
theorem CB{t:SetTable}{n:Nat}(o:ED t n)(hashAt:Nat->Int)(h:Int){T:Nat}(hT:qL t (pr t h T).j)(hl:∀m,m<T->¬qL t (pr t h m).j):∀(fuel m:Nat),m<=T->T-m<fuel ->
  ((∀c,m<=c->c<T->∀i,t.place[i]? = some (pr t h c).j->hashAt i≠h)/\probe.go t hashAt h fuel (pr t h m)=some (.empty (pr t h T).j none)) \/
  (∃c i,m<=c/\c<T/\t.place[i]? = some (pr t h c).j/\hashAt i=h/\(∀c',m<=c'->c'<c->∀i,t.place[i]? = some (pr t h c').j->hashAt i≠h) /\
   probe.go t hashAt h fuel (pr t h m)=some (.candidate (pr t h c).j i (pr t h (c+1))))
 |0,m,_,h2=>by omega
 |fuel+1,m,h1,h2=>by
  rcases o.JI (pr t h m).j with ⟨i,e,es⟩ | ⟨e,es⟩
  ·have hm:m<T:=by
    rcases fM m T with q | q
    ·exact q
    ·have:m=T:=by omega
     subst this;exact absurd e (hT i)
   by_cases hh:hashAt i=h
   ·right
    refine⟨m,i,au _,hm,e,hh,λ c' a b=>by omega,?_⟩;unfold probe.go;simp only[es,hh,beq_self_eq_true,if_true]
    rfl
   ·have hs:probe.go t hashAt h (fuel+1) (pr t h m)=probe.go t hashAt h fuel (pr t h (m+1)):=by
     conv=>lhs;unfold probe.go
     have:(hashAt i==h)=false:=by simpa using hh
     simp only[es,this,aN,if_false]
     rfl
    have Mq:∀i',t.place[i']? = some (pr t h m).j->hashAt i'≠h:=λ i' e'=>by rw[o.up.inj e' e];exact hh
    rw[hs]
    rcases CB o hashAt h hT hl fuel (m+1) hm (by omega) with ⟨a,b⟩ | ⟨c,i2,a1,a2,a3,a4,a5,a6⟩
    ·left
     refine⟨λ c h3 h4 i' e'=>?_,b⟩
     rcases gF h3 with q | q
     ·subst q;exact Mq i' e'
     ·exact a c q h4 i' e'
    ·right
     refine⟨c,i2,by omega,a2,a3,a4,λ c' h3 h4 i' e'=>?_,a6⟩
     rcases gF h3 with q | q
     ·subst q;exact Mq i' e'
     ·exact a5 c' q h4 i' e'
  ·have hm:m=T:=by
    rcases fM m T with q | q
    ·exact absurd e (hl m q)
    ·omega
   subst hm
   left
   refine⟨λ c a b=>by omega,?_⟩;unfold probe.go;simp only[es,(K9 t h m).2]
theorem OP{t:SetTable}{n:Nat}(o:ED t n)(hashAt:Nat->Int)(h:Int){T:Nat}(hT:qL t (pr t h T).j)(hl:∀m,m<T->¬qL t (pr t h m).j)(hb:T<=10*(12+t.mask)){m:Nat}(hm:m<=T) :
  ((∀c,m<=c->c<T->∀i,t.place[i]? = some (pr t h c).j->hashAt i≠h)/\t.probe hashAt h (pr t h m)=some (.empty (pr t h T).j none)) \/
  (∃c i,m<=c/\c<T/\t.place[i]? = some (pr t h c).j/\hashAt i=h/\(∀c',m<=c'->c'<c->∀i,t.place[i]? = some (pr t h c').j->hashAt i≠h) /\
   t.probe hashAt h (pr t h m)=some (.candidate (pr t h c).j i (pr t h (c+1)))):=by
 unfold SetTable.probe
 exact CB o hashAt h hT hl _ m hm (by unfold turns;omega)
end St
end
noncomputable section
namespace St
open PySem PySem.SetTable
def tb(mask:Nat):SetTable:={ mask,place:=#[],dummies:=#[],finger:=0,led:=false,moves:=0,plain:=false }
def pj(mask:Nat)(h:Int)(m:Nat):Nat:=(pr (tb mask) h m).j
theorem Us(t:SetTable)(h:Int):∀m,pr t h m=pr (tb t.mask) h m
 |0=>rfl
 |m+1=>by
  show t.advance (pr t h m)=(tb t.mask).advance (pr (tb t.mask) h m);rw[Us t h m];rfl
theorem HN(t:SetTable)(h:Int)(m:Nat):(pr t h m).j=pj t.mask h m:=by rw[Us];rfl
theorem CC(mask:Nat)(h:Int)(l d:Nat)(hd:d<=mw mask (lp mask h l).1):pj mask h (idx mask h l+d)=(lp mask h l).1+d:=by
 exact congrArg Probe.j (GB (tb mask) h l d hd)
theorem XA(mask:Nat)(h:Int)(m:Nat):pj mask h m<=mask:=(K9 (tb mask) h m).1
def Vv(mask:Nat)(Jm:Nat->Prop)(h:Int)(j:Nat):Prop:=∃c,pj mask h c=j/\∀m,m<c->Jm (pj mask h m)
theorem Vv.mono{mask:Nat}{Jm XC:Nat->Prop}{h:Int}{j:Nat}(r:Vv mask Jm h j)(i:∀x,Jm x->XC x):Vv mask XC h j:=
 let ⟨c,e,a⟩:=r;⟨c,e,λ m hm=>i _ (a m hm)⟩
theorem HP(mask:Nat)(h:Int):∀{a b:Nat},a<=b->idx mask h a<=idx mask h b:=by
 intro a b hab
 induction hab with
 |refl=>exact au _
 |step _ ih=>exact bf ih (by show _<=idx mask h _+_+1;omega)
theorem Vw(mask:Nat)(h:Int){a b:Nat}(hab:a<b):idx mask h a<idx mask h b:=
 aM (show idx mask h a<idx mask h (a+1) by show _<idx mask h a+_+1;omega) (HP mask h hab)
theorem HQ{mask k:Nat}(hk:mask+1=2^k)(Jm:Nat->Prop)(hf:∃j,j<=mask/\¬Jm j)(h:Int):∃T,T<=idx mask h (12+mask)/\¬Jm (pj mask h T)/\∀m,m<T->Jm (pj mask h m):=by
 obtain⟨j,hj,fj⟩:=hf
 have hx:(lp mask h 12).1<2^k:=by rw[<-hk];exact eu (HM h 12)
 obtain⟨m,hm,e⟩:=AG hx (show j<2^k by omega)
 rw[<-hk,<-GC] at e
 have hfree:¬Jm (pj mask h (idx mask h (12+m)+0)):=by
  rw[CC mask h _ 0 (bq _),iB,e];exact fj
 obtain⟨T,h1,h2,h3⟩:=zp (p:=λ m=>¬Jm (pj mask h m)) _ hfree
 have:=HP mask h (show 12+m<=12+mask by omega)
 exact⟨T,by omega,h2,λ m hm=>az (h3 m hm)⟩
def oc(owner:Array (Option Nat))(j:Nat):Prop:=∃k,owner[j]? = some (some k)
theorem Ft{mask:Nat}{owner:Array (Option Nat)}(hs:owner.size=mask+1)(h:Int){T:Nat}(hT:¬oc owner (pj mask h T)):∀(fuel l:Nat),idx mask h l<=T->T<idx mask h (l+fuel) ->
  (∀m,idx mask h l<=m->m<T->oc owner (pj mask h m))->layClean.free mask owner fuel (lp mask h l).1 (lp mask h l).2=some (pj mask h T)
 |0,l,h1,h2,_=>by rw[iB] at h2;omega
 |fuel+1,l,h1,h2,h3=>by
  have CD:∀j,j<=mask->((owner.getD j (some 0)).isNone=true↔¬oc owner j):=λ j hj=>by
   have hj':j<owner.size:=by omega
   have e1:owner.getD j (some 0)=owner[j]:=by simp[Array.getD,hj']
   have e2:owner[j]? = some owner[j]:=bB hj';rw[e1];unfold oc;rw[e2];generalize owner[j]=q
   cases q<;>simp
  have hle:=HM (mask:=mask) h l;unfold layClean.free;have er:runEnd mask (lp mask h l).1+1-(lp mask h l).1=mw mask (lp mask h l).1+1:=by
   unfold mw runEnd;split<;>omega
  simp only[er]
  by_cases q:T<=idx mask h l+mw mask (lp mask h l).1
  ·obtain⟨d,hd⟩:∃d,T=idx mask h l+d:=⟨T-idx mask h l,by omega⟩
   have hdl:d<=mw mask (lp mask h l).1:=by omega
   have e:(ay (mw mask (lp mask h l).1+1)).find? (λ k=>(owner.getD ((lp mask h l).1+k) (some 0)).isNone)=some d:=by
    rw[g5];refine⟨(CD _ (GA hle hdl)).mpr ?_,aF.mpr (by omega),λ k hk=>?_⟩
    ·rw[<-CC mask h l d hdl,<-hd];exact hT
    ·have:=h3 (idx mask h l+k) (by omega) (by omega);rw[CC mask h l k (by omega)] at this;have nn:¬(owner.getD ((lp mask h l).1+k) (some 0)).isNone=true:=λ z=>(CD _ (GA hle (by omega))).mp z this
     rw[ia] at nn;rw[nn];rfl
   rw[e];show some ((lp mask h l).1+d)=_;rw[<-CC mask h l d hdl,<-hd]
  ·have e:(ay (mw mask (lp mask h l).1+1)).find? (λ k=>(owner.getD ((lp mask h l).1+k) (some 0)).isNone)=none:=by
    rw[List.find?_eq_none];intro k hk z;have hk:=aF.mp hk;have:=h3 (idx mask h l+k) (by omega) (by omega);rw[CC mask h l k (by omega)] at this;exact (CD _ (GA hle (by omega))).mp z this
   rw[e];show layClean.free mask owner fuel (lp mask h (l+1)).1 (lp mask h (l+1)).2=_;have ei:idx mask h (l+1)=idx mask h l+mw mask (lp mask h l).1+1:=rfl;refine Ft hs h hT fuel (l+1) (by omega) (by rw[show l+1+fuel=l+(fuel+1) by omega];exact h2) λ m a b=>h3 m (by omega) b
structure Own(mask:Nat)(hs:Array Int)(owner:Array (Option Nat))(k:Nat):Prop where
 size:owner.size=mask+1
 lt:∀(j i:Nat),owner[j]? = some (some i)->i<k
 has:∀i,i<k->∃j:Nat,owner[j]? = some (some i)
 inj:∀(j j' i:Nat),owner[j]? = some (some i)->owner[j']? = some (some i)->j=j'
 NX:∀(j i:Nat) (h:Int),owner[j]? = some (some i)->hs[i]? = some h->Vv mask (oc owner) h j
theorem vY:∀(l m:List Nat),l.Nodup->(∀x,x∈l->x∈m)->l.length<=m.length
 |[],_,_,_=>bq _
 |x::l,m,hn,hs=>by
  have hx:=hs x aQ;have h1:=vY l (m.erase x) (dh.mp hn).2 λ y hy=>by
   have ne:y≠x:=λ e=>(dh.mp hn).1 (e ▸ hy)
   exact (iP ne).mpr (hs y (aO _ hy))
  rw[g6 hx] at h1;have:=iC hx;simp only[aK];omega
theorem Own.free{mask k:Nat}{hs:Array Int}{owner:Array (Option Nat)}(o:Own mask hs owner k)(hk:k<=mask):∃j,j<=mask/\¬oc owner j:=by
 refine az λ z=>?_
 have all:∀j,j<=mask->oc owner j:=λ j hj=>az λ q=>z ⟨j,hj,q⟩
 have:=vY ((ay (mask+1)).map λ j=>((owner[j]?).bind id).getD 0) (ay k) (by
  rw[List.Nodup,di];refine fh (λ {a b} ha hb (hab:a≠b) e=>?_) ic;obtain⟨i,ei⟩:=all a (ef (aF.mp ha));obtain⟨i',ei'⟩:=all b (ef (aF.mp hb));rw[ei,ei'] at e;have e:i=i':=e;subst e;exact hab (o.inj a b i ei ei')) (λ x hx=>by
  obtain⟨j,hj,rfl⟩:=aB.mp hx;obtain⟨i,ei⟩:=all j (ef (aF.mp hj));rw[ei];exact aF.mpr (o.lt j i ei))
 simp at this
 omega
theorem Own.step{mask k:Nat}{hs:Array Int}{owner:Array (Option Nat)}{h:Int}(hp:∃r,mask+1=2^r)(o:Own mask hs owner k)(hk:k<=mask)(hh:hs[k]? = some h) :
  ∃j,layClean.free mask owner (turns mask) (bits h%(mask+1)) (bits h)=some j/\Own mask hs (owner.setIfInBounds j (some k)) (k+1):=by
 obtain⟨r,er⟩:=hp
 obtain⟨T,h1,h2,h3⟩:=HQ er (oc owner) (o.free hk) h
 have hjm:=XA mask h T
 have hjs:pj mask h T<owner.size:=by rw[o.size];omega
 have get:∀j':Nat,(owner.setIfInBounds (pj mask h T) (some k))[j']? = if pj mask h T=j' then some (some k) else owner[j']?:=λ j'=>by
  rw[Array.getElem?_setIfInBounds]
  split
  ·rename_i e;subst e;first | rfl | rw[if_pos hjs]
  ·rfl
 have OQ:∀x,oc owner x->oc (owner.setIfInBounds (pj mask h T) (some k)) x:=λ x ⟨i,e⟩=>by
  by_cases q:pj mask h T=x
  ·exact⟨k,by rw[get,if_pos q]⟩
  ·exact⟨i,by rw[get,if_neg q];exact e⟩
 refine⟨pj mask h T,Ft o.size h h2 (turns mask) 0 (bq _) ?_ λ m _ hm=>h3 m hm,?_⟩
 ·rw[jj]
  exact bJ h1 (Vw mask h (by unfold turns;omega))
 ·refine⟨by rw[Array.size_setIfInBounds];exact o.size,λ j i e=>?_,λ i hi=>?_,λ j j' i e e'=>?_,λ j i h' e eh=>?_⟩
  ·rw[get] at e
   split at e
   ·cases e;omega
   ·have:=o.lt j i e;omega
  ·by_cases q:i=k
   ·exact⟨pj mask h T,by rw[get,if_pos rfl,q]⟩
   ·obtain⟨j,e⟩:=o.has i (by omega);refine⟨j,?_⟩;rw[get,if_neg]
    ·exact e
    ·rintro rfl;exact h2 ⟨i,e⟩
  ·rw[get] at e e'
   split at e
   ·cases e
    split at e'
    ·omega
    ·have:=o.lt j' _ e';omega
   ·split at e'
    ·cases e';have:=o.lt j _ e;omega
    ·exact o.inj j j' i e e'
  ·rw[get] at e
   split at e
   ·rename_i ej
    cases e;rw[hh] at eh;cases eh;exact⟨T,ej,λ m hm=>OQ _ (h3 m hm)⟩
   ·exact (o.NX j i h' e eh).mono OQ
end St
end
noncomputable section
namespace St
open PySem PySem.SetTable
theorem HR{mask:Nat}(hp:∃r,mask+1=2^r)(hs:Array Int)(hn:hs.size<=mask)(F:Option (Array (Option Nat)×Nat)->Int->Option (Array (Option Nat)×Nat))
  (hF:∀(owner:Array (Option Nat)) (k:Nat) (h:Int),F (some (owner,k)) h=(layClean.free mask owner (turns mask) (bits h%(mask+1)) (bits h)).bind λ j=>some (owner.setIfInBounds j (some k),k+1)) :
  ∀(l:List Int) (k:Nat) (owner:Array (Option Nat)),Own mask hs owner k->k+l.length=hs.size->hs.toList.drop k=l->∃owner',l.foldl F (some (owner,k))=some (owner',hs.size)/\Own mask hs owner' hs.size
 |[],k,owner,o,hl,e=>by
  have:k=hs.size:=by simpa using hl
  subst this;exact⟨owner,rfl,o⟩
 |h::l,k,owner,o,hl,e=>by
  have hk:k<hs.size:=by simp at hl;omega
  have hh:hs[k]? = some h:=by
   have:hs.toList[k]? = some h:=by
    have q:=congrArg (λ m=>m[0]?) e
    simpa using q
   simpa using this
  obtain⟨j,e1,o'⟩:=o.step hp (by omega) hh;obtain⟨ow,e2,o2⟩:=HR hp hs hn F hF l (k+1) _ o' (by simp at hl;omega) (by
   have q:=congrArg List.tail e;rw[List.tail_drop] at q;exact q)
  refine⟨ow,?_,o2⟩;rw[dR,hF,e1];exact e2
theorem Mx{mask:Nat}(hp:∃r,mask+1=2^r)(hs:Array Int)(hn:hs.size<=mask):∃owner,layClean mask hs=some owner/\Own mask hs owner hs.size:=by
 have o0:Own mask hs (Array.replicate (mask+1) none) 0:=by
  have no:∀(j i:Nat),(Array.replicate (mask+1) (none:Option Nat))[j]?≠some (some i):=λ j i e=>by
   rw[Array.getElem?_replicate] at e
   split at e<;>cases e
  exact⟨by simp,λ j i e=>absurd e (no j i),λ i h=>by omega,λ j _ i e=>absurd e (no j i),λ j i _ e=>absurd e (no j i)⟩
 unfold layClean
 rw[<-Array.foldl_toList]
 obtain⟨ow,e,o⟩:=HR hp hs hn (λ acc h=>do
  let (owner,k) <-acc
  let j <-layClean.free mask owner (turns mask) (bits h%(mask+1)) (bits h)
  pure (owner.setIfInBounds j (some k),k+1)) (λ owner k h=>rfl) hs.toList 0 _ o0 (by simp) rfl
 exact⟨ow,congrArg (Option.map (·.1)) e,o⟩
def l9(mask:Nat)(owner:Array (Option Nat)):List (Nat×Nat):=(ay (mask+1)).filterMap λ j=>(owner.getD j none).map (j,·)
theorem rM{mask:Nat}{owner:Array (Option Nat)}(hs:owner.size=mask+1){j i:Nat}:(j,i)∈l9 mask owner↔owner[j]? = some (some i):=by
 have gd:∀j,owner.getD j none=(owner[j]?).getD none:=λ j=>by
  rw[Array.getD_eq_getD_getElem?]
 unfold l9
 rw[fy]
 constructor
 ·rintro⟨j',h1,h2⟩
  rw[gd] at h2
  cases e:owner[j']? with
  |none=>rw[e] at h2;cases h2
  |some v=>
   rw[e] at h2
   cases v with
   |none=>cases h2
   |some i'=>
    have h2:some (j',i')=some (j,i):=h2
    cases h2;exact e
 ·intro e
  obtain⟨h,_⟩:=bE.mp e;exact⟨j,aF.mpr (by omega),by rw[gd,e];rfl⟩
theorem Fv(mask:Nat)(owner:Array (Option Nat)):(l9 mask owner).Pairwise λ a b=>a.1<b.1:=by
 unfold l9
 rw[List.pairwise_filterMap]
 refine dj (λ {a b} hab=>?_) iD
 intro x hx y hy
 cases e:owner.getD a none with
 |none=>rw[e] at hx;cases hx
 |some v=>
  cases e':owner.getD b none with
  |none=>rw[e'] at hy;cases hy
  |some v'=>
   rw[e] at hx;rw[e'] at hy
   cases hx;cases hy;exact hab
theorem OR{mask n:Nat}{hs:Array Int}{owner:Array (Option Nat)}(o:Own mask hs owner n):(l9 mask owner).length=n:=by
 have nd:((l9 mask owner).map (·.2)).Nodup:=by
  rw[List.Nodup,di];refine fh (λ {a b} ha hb hab e=>?_) (Fv mask owner);obtain⟨a1,a2⟩:=a;obtain⟨b1,b2⟩:=b;have e:a2=b2:=e;subst e;have:=o.inj a1 b1 a2 ((rM o.size).mp ha) ((rM o.size).mp hb);have hab:a1<b1:=hab;omega
 have h1:=vY _ (ay n) nd (λ x hx=>by
  obtain⟨⟨j,i⟩,hm,rfl⟩:=aB.mp hx;exact aF.mpr (o.lt j i ((rM o.size).mp hm)))
 have h2:=vY (ay n) ((l9 mask owner).map (·.2)) ic (λ x hx=>by
  obtain⟨j,e⟩:=o.has x (aF.mp hx);exact aB.mpr ⟨(j,x),(rM o.size).mpr e,rfl⟩)
 simp only[ah,cD] at h1 h2
 omega
theorem Sa{mask:Nat}(hp:∃r,3<=r/\mask+1=2^r)(finger moves:Nat)(led plain:Bool)(hs:Array Int)(hn:hs.size<=mask) :
  ∃t order,laid mask finger moves led plain hs=some (t,order)/\ED t hs.size/\t.mask=mask/\t.led=led/\t.plain=plain/\t.moves=moves/\order.size=hs.size /\
   (∀(r o:Nat),order[r]? = some o->o<hs.size)/\(∀(r r' o:Nat),order[r]? = some o->order[r']? = some o->r=r')/\(∀o,o<hs.size->∃r:Nat,order[r]? = some o) /\
   (∀(r o j:Nat) (h:Int),order[r]? = some o->t.place[r]? = some j->hs[o]? = some h->Vv mask (λ x=>∃i:Nat,t.place[i]? = some x) h j):=by
 obtain⟨r,hr,er⟩:=hp
 obtain⟨owner,e,o⟩:=Mx ⟨r,er⟩ hs hn
 have len:=OR o
 have pl:∀i:Nat,(((l9 mask owner).map (·.1)).toArray)[i]? = ((l9 mask owner)[i]?).map (·.1):=λ i=>by simp
 have od:∀i:Nat,(((l9 mask owner).map (·.2)).toArray)[i]? = ((l9 mask owner)[i]?).map (·.2):=λ i=>by simp
 have rise:∀(i i':Nat) (a b:Nat×Nat),(l9 mask owner)[i]? = some a->(l9 mask owner)[i']? = some b->i<i'->a.1<b.1:=λ i i' a b ea eb hlt=>by
  obtain⟨h1,e1⟩:=ao.mp ea;obtain⟨h2,e2⟩:=ao.mp eb;have:=List.pairwise_iff_getElem.mp (Fv mask owner) i i' h1 h2 hlt;rw[e1,e2] at this;exact this
 have Jm:∀x,oc owner x->∃i:Nat,(((l9 mask owner).map (·.1)).toArray)[i]? = some x:=λ x ⟨k,ek⟩=>by
  obtain⟨i,hi,ei⟩:=bQ ((rM o.size).mpr ek);exact⟨i,by rw[pl,af hi,ei];rfl⟩
 have at_:∀(i:Nat) (a:Nat×Nat),(l9 mask owner)[i]? = some a->owner[a.1]? = some (some a.2):=λ i a ea=>(rM o.size).mp (aq ea)
 refine⟨{ mask,place:=((l9 mask owner).map (·.1)).toArray,dummies:=#[],finger,led,moves,plain },((l9 mask owner).map (·.2)).toArray,?_,⟨by simpa using len,λ i i' a b ea eb hlt=>?_,λ i j ej=>?_,rfl,⟨r,hr,er⟩⟩,rfl,rfl,rfl,rfl,by simpa using len,λ i v ev=>?_,λ i i' v ev ev'=>?_,λ v hv=>?_,λ i v j h ev ej eh=>?_⟩
 ·unfold laid
  rw[e];rfl
 ·simp only[pl] at ea eb
  cases q:(l9 mask owner)[i]? with
  |none=>rw[q] at ea;cases ea
  |some x=>
   cases q':(l9 mask owner)[i']? with
   |none=>rw[q'] at eb;cases eb
   |some y=>
    rw[q] at ea;rw[q'] at eb
    cases ea;cases eb;exact rise i i' x y q q' hlt
 ·simp only[pl] at ej
  cases q:(l9 mask owner)[i]? with
  |none=>rw[q] at ej;cases ej
  |some x=>
   rw[q] at ej;cases ej;obtain⟨h,_⟩:=bE.mp (at_ i x q);have:=o.size;show x.1<=mask;omega
 ·rw[od] at ev
  cases q:(l9 mask owner)[i]? with
  |none=>rw[q] at ev;cases ev
  |some x=>
   rw[q] at ev;cases ev;exact o.lt _ _ (at_ i x q)
 ·rw[od] at ev ev'
  cases q:(l9 mask owner)[i]? with
  |none=>rw[q] at ev;cases ev
  |some x=>
   cases q':(l9 mask owner)[i']? with
   |none=>rw[q'] at ev';cases ev'
   |some y=>
    rw[q] at ev;rw[q'] at ev';have ev:some x.2=some v:=ev;have ev':some y.2=some v:=ev'
    cases ev;have e2:y.2=x.2:=aW ev';have h1:=at_ i x q;have h2:=at_ i' y q';rw[e2] at h2;have:=o.inj _ _ _ h1 h2
    rcases dZ i i' with z | z | z
    ·have:=rise i i' x y q q' z;omega
    ·exact z
    ·have:=rise i' i y x q' q z;omega
 ·obtain⟨j,ej⟩:=o.has v hv
  obtain⟨i,hi,ei⟩:=bQ ((rM o.size).mpr ej);exact⟨i,by rw[od,af hi,ei];rfl⟩
 ·rw[od] at ev
  simp only[pl] at ej
  cases q:(l9 mask owner)[i]? with
  |none=>rw[q] at ev;cases ev
  |some x=>
   rw[q] at ev ej
   cases ev;cases ej;exact (o.NX _ _ h (at_ i x q) eh).mono Jm
end St
end
noncomputable section
namespace St
open PySem PySem.SetTable
def Sd(x:Nat):Nat:=x/2^0%2+x/2^1%2+x/2^2%2+x/2^3%2+x/2^4%2+x/2^5%2+x/2^6%2+x/2^7%2+x/2^8%2+x/2^9%2
def walk(M:Nat):Nat->Nat->Nat->Nat->Nat×Nat
 |0,c,_,n=>(c,n)
 |s+1,c,W,n=>if c+10<=M then walk M s ((c*5+1)%M) (W ||| (1023 <<< c)) (n+(10-Sd ((W >>> c)%1024))) else walk M s ((c*5+1)%M) W n
def GD(M bound:Nat):Nat->Nat->Bool
 |0,_=>true
 |t+1,c=>Nat.blt bound (walk M 4096 c 0 0).2&&GD M bound t (walk M 4096 c 0 0).1
theorem HS(M:Nat):∀s c W n,(walk M s c W n).1=BZ M s c
 |0,_,_,_=>rfl
 |s+1,c,W,n=>by
  unfold walk
  split<;>rw[HS M s]<;>rfl
theorem yd(W c d:Nat)(hd:d<10):(W >>> c)%1024/2^d%2=(W.testBit (c+d)).toNat:=by
 rw[<-Nat.toNat_testBit,show 1024=2^10 from rfl,Nat.testBit_mod_two_pow,Nat.testBit_shiftRight,decide_eq_true hd,b9]
theorem XD(f:Nat->Bool):∀l:List Nat,(l.filter λ d=>!f d).length+(l.map λ d=>(f d).toNat).sum=l.length
 |[]=>rfl
 |d::l=>by
  have:=XD f l
  cases e:f d<;>simp[e]<;>omega
theorem Se(W c:Nat):((ay 10).filter λ d=>!W.testBit (c+d)).length=10-Sd ((W >>> c)%1024):=by
 have h:=XD (λ d=>W.testBit (c+d)) (ay 10)
 have e:ay 10=[0,1,2,3,4,5,6,7,8,9]:=by decide
 have e2:((ay 10).map λ d=>(W.testBit (c+d)).toNat).sum=Sd ((W >>> c)%1024):=by
  unfold Sd;rw[yd W c 0 (by decide),yd W c 1 (by decide),yd W c 2 (by decide),yd W c 3 (by decide),yd W c 4 (by decide),yd W c 5 (by decide),yd W c 6 (by decide),yd W c 7 (by decide),yd W c 8 (by decide),yd W c 9 (by decide),e];simp only[aS,bV,dB,List.sum_nil]
  omega
 rw[e2] at h
 simp only[cD] at h
 omega
theorem Vx(W c j:Nat):(W ||| (1023 <<< c)).testBit j=(W.testBit j||(decide (c<=j)&&decide (j<c+10))):=by
 rw[Nat.testBit_or,Nat.testBit_shiftLeft,show 1023=2^10-1 from rfl,Nat.testBit_two_pow_sub_one]
 congr 1
 by_cases h:c<=j
 ·simp only[ge_iff_le,h,decide_true,b9]
  congr 1
  exact propext ⟨λ _=>by omega,λ _=>by omega⟩
 ·simp[h]
theorem GF{M:Nat}(L:Nat->Prop):∀(s c W n:Nat) (l:List Nat),l.Nodup->(∀j,j∈l->L j)->n<=l.length->(∀j,W.testBit j=true↔j∈l) ->
  (∀r,r<s->BZ M r c+10<=M->∀d,d<10->L (BZ M r c+d))->∃l':List Nat,l'.Nodup/\(∀j,j∈l'->L j)/\(walk M s c W n).2<=l'.length
 |0,_,_,_,l,h1,h2,h3,_,_=>⟨l,h1,h2,h3⟩
 |s+1,c,W,n,l,h1,h2,h3,h4,h5=>by
  have h5':∀r,r<s->BZ M r ((c*5+1)%M)+10<=M->∀d,d<10->L (BZ M r ((c*5+1)%M)+d):=λ r hr=>h5 (r+1) (by omega)
  unfold walk
  split
  ·rename_i hc
   have hw:=h5 0 (by omega) hc;refine GF L s _ _ _ (l++((ay 10).filter λ d=>!W.testBit (c+d)).map (c + ·)) ?_ (λ j hj=>?_) ?_ (λ j=>?_) h5'
   ·rw[dm];refine⟨h1,?_,λ a ha b hb e=>?_⟩
    ·rw[List.Nodup,di];exact dj (λ {a b} (hab:a≠b)=>by omega) (List.Pairwise.filter _ ic)
    ·subst e;obtain⟨d,hd,rfl⟩:=aB.mp hb;have hd:=(aH.mp hd).2;have:=(h4 (c+d)).mpr ha;rw[this] at hd;cases hd
   ·rcases aY.mp hj with hj | hj
    ·exact h2 j hj
    ·obtain⟨d,hd,rfl⟩:=aB.mp hj;exact hw d (aF.mp (aH.mp hd).1)
   ·rw[aG,ah,Se];omega
   ·rw[Vx,Bool.or_eq_true,h4,aY,aU,decide_eq_true_eq,decide_eq_true_eq]
    constructor
    ·rintro (h | ⟨a,b⟩)
     ·exact .inl h
     ·by_cases q:j∈l
      ·exact .inl q
      ·refine .inr (aB.mpr ⟨j-c,aH.mpr ⟨aF.mpr (by omega),?_⟩,by omega⟩);have e:c+(j-c)=j:=by omega
       rw[e];have:W.testBit j=false:=by
        cases z:W.testBit j with
        |false=>rfl
        |true=>exact absurd ((h4 j).mp z) q
       rw[this];rfl
    ·rintro (h | h)
     ·exact .inl h
     ·obtain⟨d,hd,rfl⟩:=aB.mp h;have:=aF.mp (aH.mp hd).1;exact .inr ⟨by omega,by omega⟩
  ·exact GF L s _ _ _ l h1 h2 h3 h4 h5'
theorem Lc{M bound:Nat}:∀{n c:Nat},GD M bound n c=true->∀t,t<n->bound<(walk M 4096 (BZ M (4096*t) c) 0 0).2
 |0,_,_,t,ht=>by omega
 |n+1,c,h,t,ht=>by
  unfold GD at h;rw[aU] at h
  cases t with
  |zero=>exact Nat.blt_eq.mp h.1
  |succ t=>
   have:=Lc h.2 t (by omega);rw[HS,<-zo,show 4096+4096*t=4096*(t+1) by omega] at this;exact this
theorem Sf{t:SetTable}{n:Nat}(o:ED t n)(l:List Nat)(h1:l.Nodup)(h2:∀j,j∈l->¬qL t j):l.length<=n:=by
 have:=vY l t.place.toList h1 λ j hj=>by
  have:=h2 j hj;obtain⟨i,e⟩:∃i:Nat,t.place[i]? = some j:=az λ z=>this λ i e=>z ⟨i,e⟩
  exact aq (i:=i) (by simpa using e)
 have hs:=o.size
 simp only[dF] at this
 omega
theorem early{t:SetTable}{n N K k:Nat}(o:ED t n)(hn:n<=N)(hK:t.mask+1=4096*K)(hk:t.mask+1=2^k)(hs:GD (t.mask+1) N (K+1) 0=true)(h:Int){T:Nat}(hl:∀m,m<T->¬qL t (pr t h m).j):T<=10*8204:=by
 refine Nat.le_of_not_lt λ big=>?_
 have hM:0<2^k:=by omega
 obtain⟨m0,hm0,e0⟩:=AG (k:=k) (x:=0) (t:=(lp t.mask h 12).1) hM (by rw[<-hk];exact eu (HM h 12))
 rw[<-hk] at e0 hm0
 have ht:(m0+4095)/4096<K+1:=by omega
 have hr:m0<=4096*((m0+4095)/4096)/\4096*((m0+4095)/4096)<m0+4096:=by omega
 generalize (m0+4095)/4096=q at ht hr
 have hseg:=Lc hs q ht
 obtain⟨l',n1,n2,n3⟩:=GF (M:=t.mask+1) (λ j=>¬qL t j) 4096 (BZ (t.mask+1) (4096*q) 0) 0 0 [] iQ (λ _ h=>absurd h (by simp)) (au _) (λ j=>by simp) (λ r hr' hc d hd=>by
  have e:BZ (t.mask+1) r (BZ (t.mask+1) (4096*q) 0)=(lp t.mask h (12+(4096*q-m0+r))).1:=by
   rw[GC,<-e0,<-zo,<-zo]
   congr 1;omega
  rw[e] at hc ⊢;have hrl:mw t.mask (lp t.mask h (12+(4096*q-m0+r))).1=9:=by
   unfold mw runEnd;rw[if_pos (by omega)];omega
  have hp:=GB t h (12+(4096*q-m0+r)) d (by omega);have hi:=JJ t.mask h (12+(4096*q-m0+r));have:=hl (idx t.mask h (12+(4096*q-m0+r))+d) (by omega);rw[hp] at this;exact this)
 have:=Sf o l' n1 n2
 omega
def Sz(mask n:Nat):Prop:=(mask=7/\n<=4)\/(mask=31/\n<=18)\/(mask=127/\n<=76)\/(mask=511/\n<=306)\/(mask=2047/\n<=1228)\/(mask=8191/\n<=4914)\/(mask=32767/\n<=19660)\/(mask=131071/\n<=32768)
set_option maxRecDepth 1000000
theorem jG{M b t c c' n:Nat}(h:walk M 4096 c 0 0=(c',n))(hb:Nat.blt b n=true)(hr:GD M b t c'=true):GD M b (t+1) c=true:=by
 unfold GD
 rw[h,hb,hr];rfl
theorem OS:walk 32768 4096 0 0 0=(28672,24292):=by decide +kernel
theorem OT:walk 32768 4096 28672 0 0=(24576,23986):=by decide +kernel
theorem OU:walk 32768 4096 24576 0 0=(20480,24282):=by decide +kernel
theorem OV:walk 32768 4096 20480 0 0=(16384,23984):=by decide +kernel
theorem OW:walk 32768 4096 16384 0 0=(12288,24281):=by decide +kernel
theorem OX:walk 32768 4096 12288 0 0=(8192,23984):=by decide +kernel
theorem OY:walk 32768 4096 8192 0 0=(4096,24292):=by decide +kernel
theorem OZ:walk 32768 4096 4096 0 0=(0,23986):=by decide +kernel
theorem O0:walk 32768 4096 0 0 0=(28672,24292):=by decide +kernel
theorem Vy:GD 32768 19660 9 0=true:=jG OS rfl (jG OT rfl (jG OU rfl (jG OV rfl (jG OW rfl (jG OX rfl (jG OY rfl (jG OZ rfl (jG O0 rfl (rfl)))))))))
theorem O1:walk 131072 4096 0 0 0=(126976,35837):=by decide +kernel
theorem O2:walk 131072 4096 126976 0 0=(122880,35608):=by decide +kernel
theorem O3:walk 131072 4096 122880 0 0=(118784,35717):=by decide +kernel
theorem O4:walk 131072 4096 118784 0 0=(114688,35557):=by decide +kernel
theorem O5:walk 131072 4096 114688 0 0=(110592,35807):=by decide +kernel
theorem O6:walk 131072 4096 110592 0 0=(106496,35532):=by decide +kernel
theorem O7:walk 131072 4096 106496 0 0=(102400,35655):=by decide +kernel
theorem O8:walk 131072 4096 102400 0 0=(98304,35622):=by decide +kernel
theorem O9:walk 131072 4096 98304 0 0=(94208,35827):=by decide +kernel
theorem Pa:walk 131072 4096 94208 0 0=(90112,35598):=by decide +kernel
theorem My:walk 131072 4096 90112 0 0=(86016,35707):=by decide +kernel
theorem Mz:walk 131072 4096 86016 0 0=(81920,35557):=by decide +kernel
theorem MA:walk 131072 4096 81920 0 0=(77824,35807):=by decide +kernel
theorem MB:walk 131072 4096 77824 0 0=(73728,35542):=by decide +kernel
theorem MD:walk 131072 4096 73728 0 0=(69632,35655):=by decide +kernel
theorem ME:walk 131072 4096 69632 0 0=(65536,35622):=by decide +kernel
theorem MF:walk 131072 4096 65536 0 0=(61440,35837):=by decide +kernel
theorem MG:walk 131072 4096 61440 0 0=(57344,35608):=by decide +kernel
theorem MH:walk 131072 4096 57344 0 0=(53248,35717):=by decide +kernel
theorem MI:walk 131072 4096 53248 0 0=(49152,35557):=by decide +kernel
theorem MJ:walk 131072 4096 49152 0 0=(45056,35807):=by decide +kernel
theorem MK:walk 131072 4096 45056 0 0=(40960,35542):=by decide +kernel
theorem ML:walk 131072 4096 40960 0 0=(36864,35655):=by decide +kernel
theorem MM:walk 131072 4096 36864 0 0=(32768,35622):=by decide +kernel
theorem MN:walk 131072 4096 32768 0 0=(28672,35837):=by decide +kernel
theorem MO:walk 131072 4096 28672 0 0=(24576,35608):=by decide +kernel
theorem MP:walk 131072 4096 24576 0 0=(20480,35717):=by decide +kernel
theorem MQ:walk 131072 4096 20480 0 0=(16384,35547):=by decide +kernel
theorem MR:walk 131072 4096 16384 0 0=(12288,35790):=by decide +kernel
theorem MT:walk 131072 4096 12288 0 0=(8192,35542):=by decide +kernel
theorem MU:walk 131072 4096 8192 0 0=(4096,35655):=by decide +kernel
theorem MV:walk 131072 4096 4096 0 0=(0,35614):=by decide +kernel
theorem MX:walk 131072 4096 0 0 0=(126976,35837):=by decide +kernel
theorem Vz:GD 131072 32768 33 0=true:=jG O1 rfl (jG O2 rfl (jG O3 rfl (jG O4 rfl (jG O5 rfl (jG O6 rfl (jG O7 rfl (jG O8 rfl (jG O9 rfl (jG Pa rfl (jG My rfl (jG Mz rfl (jG MA rfl (jG MB rfl (jG MD rfl (jG ME rfl (jG MF rfl (jG MG rfl (jG MH rfl (jG MI rfl (jG MJ rfl (jG MK rfl (jG ML rfl (jG MM rfl (jG MN rfl (jG MO rfl (jG MP rfl (jG MQ rfl (jG MR rfl (jG MT rfl (jG MU rfl (jG MV rfl (jG MX rfl (rfl)))))))))))))))))))))))))))))))))
theorem JL{t:SetTable}{n:Nat}(o:ED t n)(z:Sz t.mask n)(h:Int) :
  ∃T,T<99999/\T<=10*(12+t.mask)/\qL t (pr t h T).j/\∀m,m<T->¬qL t (pr t h m).j:=by
 have hnm:n<=t.mask:=by rcases z with ⟨e,h⟩ | ⟨e,h⟩ | ⟨e,h⟩ | ⟨e,h⟩ | ⟨e,h⟩ | ⟨e,h⟩ | ⟨e,h⟩ | ⟨e,h⟩<;>omega
 have hc:t.mask<=8191\/(t.mask=32767/\n<=19660)\/(t.mask=131071/\n<=32768):=by
  rcases z with ⟨e,h⟩ | ⟨e,h⟩ | ⟨e,h⟩ | ⟨e,h⟩ | ⟨e,h⟩ | ⟨e,h⟩ | ⟨e,h⟩ | ⟨e,h⟩
  ·left;omega
  ·left;omega
  ·left;omega
  ·left;omega
  ·left;omega
  ·left;omega
  ·exact .inr (.inl ⟨e,h⟩)
  ·exact .inr (.inr ⟨e,h⟩)
 obtain⟨T,h1,h2,h3⟩:=JK o hnm h
 refine⟨T,?_,h1,h2,h3⟩
 rcases hc with q | ⟨e,hn⟩ | ⟨e,hn⟩
 ·omega
 ·have:=early (N:=19660) (K:=8) (k:=15) o hn (by omega) (by omega) (by rw[e];exact Vy) h h3
  omega
 ·have:=early (N:=32768) (K:=32) (k:=17) o hn (by omega) (by omega) (by rw[e];exact Vz) h h3
  omega
theorem Sz.pow{mask n:Nat}(z:Sz mask n):∃k,3<=k/\mask+1=2^k:=by
 rcases z with ⟨rfl,_⟩ | ⟨rfl,_⟩ | ⟨rfl,_⟩ | ⟨rfl,_⟩ | ⟨rfl,_⟩ | ⟨rfl,_⟩ | ⟨rfl,_⟩ | ⟨rfl,_⟩
 ·exact⟨3,by decide,rfl⟩
 ·exact⟨5,by decide,rfl⟩
 ·exact⟨7,by decide,rfl⟩
 ·exact⟨9,by decide,rfl⟩
 ·exact⟨11,by decide,rfl⟩
 ·exact⟨13,by decide,rfl⟩
 ·exact⟨15,by decide,rfl⟩
 ·exact⟨17,by decide,rfl⟩
theorem Sz.more{mask n:Nat}(z:Sz mask n)(hn:n+1<=32768):(¬(n+1)*5>=mask*3/\Sz mask (n+1)) \/
  ((n+1)*5>=mask*3/\sizeAbove (grown (n+1))<=131072/\Sz (sizeAbove (grown (n+1))-1) (n+1)):=by
 rcases z with ⟨rfl,h⟩ | ⟨rfl,h⟩ | ⟨rfl,h⟩ | ⟨rfl,h⟩ | ⟨rfl,h⟩ | ⟨rfl,h⟩ | ⟨rfl,h⟩ | ⟨rfl,h⟩
 ·by_cases q:(n+1)*5>=7*3
  ·obtain rfl:n=4:=by omega
   exact .inr ⟨q,by decide +kernel,.inr (.inl ⟨by decide +kernel,by decide⟩)⟩
  ·exact .inl ⟨q,.inl ⟨rfl,by omega⟩⟩
 ·by_cases q:(n+1)*5>=31*3
  ·obtain rfl:n=18:=by omega
   exact .inr ⟨q,by decide +kernel,.inr (.inr (.inl ⟨by decide +kernel,by decide⟩))⟩
  ·exact .inl ⟨q,.inr (.inl ⟨rfl,by omega⟩)⟩
 ·by_cases q:(n+1)*5>=127*3
  ·obtain rfl:n=76:=by omega
   exact .inr ⟨q,by decide +kernel,.inr (.inr (.inr (.inl ⟨by decide +kernel,by decide⟩)))⟩
  ·exact .inl ⟨q,.inr (.inr (.inl ⟨rfl,by omega⟩))⟩
 ·by_cases q:(n+1)*5>=511*3
  ·obtain rfl:n=306:=by omega
   exact .inr ⟨q,by decide +kernel,.inr (.inr (.inr (.inr (.inl ⟨by decide +kernel,by decide⟩))))⟩
  ·exact .inl ⟨q,.inr (.inr (.inr (.inl ⟨rfl,by omega⟩)))⟩
 ·by_cases q:(n+1)*5>=2047*3
  ·obtain rfl:n=1228:=by omega
   exact .inr ⟨q,by decide +kernel,.inr (.inr (.inr (.inr (.inr (.inl ⟨by decide +kernel,by decide⟩)))))⟩
  ·exact .inl ⟨q,.inr (.inr (.inr (.inr (.inl ⟨rfl,by omega⟩))))⟩
 ·by_cases q:(n+1)*5>=8191*3
  ·obtain rfl:n=4914:=by omega
   exact .inr ⟨q,by decide +kernel,.inr (.inr (.inr (.inr (.inr (.inr (.inl ⟨by decide +kernel,by decide⟩))))))⟩
  ·exact .inl ⟨q,.inr (.inr (.inr (.inr (.inr (.inl ⟨rfl,by omega⟩)))))⟩
 ·by_cases q:(n+1)*5>=32767*3
  ·obtain rfl:n=19660:=by omega
   exact .inr ⟨q,by decide +kernel,.inr (.inr (.inr (.inr (.inr (.inr (.inr (⟨by decide +kernel,by decide⟩)))))))⟩
  ·exact .inl ⟨q,.inr (.inr (.inr (.inr (.inr (.inr (.inl ⟨rfl,by omega⟩))))))⟩
 ·by_cases q:(n+1)*5>=131071*3
  ·omega
  ·exact .inl ⟨q,.inr (.inr (.inr (.inr (.inr (.inr (.inr (⟨rfl,by omega⟩)))))))⟩
end St
end
noncomputable section
namespace St
open PySem PySem.SetTable
section
variable{prog:Program}{w:World}{K:Type}[DecidableEq K](knd:KeyKind prog w K)
structure Body(h:Heap)(es:Array (Int×Value))(t:SetTable)(ks:List (List K)):Prop where
 tok:ED t es.size
 sz:Sz t.mask es.size
 ent:∀(i:Nat) (e:Int×Value),es[i]? = some e->∃k b,k∈ks/\e.2=.ref b/\IsTupleKey knd h k b/\e.1=tupleKeyHash knd k
 has:∀k,k∈ks->∃(i:Nat) (b:Addr),es[i]? = some (tupleKeyHash knd k,.ref b)/\IsTupleKey knd h k b
 len:ks.length=es.size
 NX:∀(i:Nat) (e:Int×Value) (j:Nat),es[i]? = some e->t.place[i]? = some j->Vv t.mask (λ x=>¬qL t x) e.1 j
def rO(h:Heap)(a:Addr)(ks:List (List K)):Prop:=
 ∃o es ep t,h.get? a=some o/\o.ExactSet/\o.data=.set es ep t/\Body knd h es t ks
variable{knd}
theorem Body.fits{h:Heap}{es:Array (Int×Value)}{t:SetTable}{ks:List (List K)}(b:Body knd h es t ks):t.fits es.size=true:=by
 have h1:=b.tok.fits
 have h2:es.size<=t.mask:=by rcases b.sz with ⟨e,z⟩ | ⟨e,z⟩ | ⟨e,z⟩ | ⟨e,z⟩ | ⟨e,z⟩ | ⟨e,z⟩ | ⟨e,z⟩ | ⟨e,z⟩<;>omega
 simp only[SetTable.fits,aU,beq_iff_eq,decide_eq_true_eq]
 exact⟨b.tok.size,by omega⟩
theorem Body.odd{h:Heap}{es:Array (Int×Value)}{t:SetTable}{ks:List (List K)}(b:Body knd h es t ks):t.gaveWay=false:=by
 unfold SetTable.gaveWay
 rcases b.sz with ⟨e,z⟩ | ⟨e,z⟩ | ⟨e,z⟩ | ⟨e,z⟩ | ⟨e,z⟩ | ⟨e,z⟩ | ⟨e,z⟩ | ⟨e,z⟩<;>rw[e]<;>rfl
variable{A:Around}{E:Value->Shared->Prop}{s:Shared}
theorem EE(d:Nat){v:Value}(h:carriedByValue v=true):ofAClassStatement d v=pure false:=by
 cases v with
 |ref a=>simp[carriedByValue] at h
 |_=>first | rfl | (unfold ofAClassStatement;rfl)
theorem ye{ks:List K}{a:Addr}{Q:Bool->Shared->Prop}(hk:IsTupleKey knd s.heap ks a)(h:Q false s):wpAny (model prog w) A (ofAClassStatement 8 (.ref a)) Q E s:=by
 have hT:=hk.typeIs
 obtain⟨o,items,n,ho,hc,hd,hi⟩:=hk
 unfold ofAClassStatement
 refine wpAny_bind (wpAny_typeOf_ref ho ?_)
 rw[hc]
 show wpAny _ _ ((if ("tuple" == "tuple")=true then pure true else isSubtype (.type "tuple") (.type "tuple")) >>= _) _ _ s
 rw[if_pos (by decide)]
 refine wpAny_bind (wpAny_pure ?_)
 simp only[f7,aN,if_false]
 refine wpAny_bind (wpAny_seqItems ho hd ?_)
 show wpAny _ _ (forIn items _ _ >>= _) _ _ s
 refine wpAny_bind ?_
 rw[<-je]
 refine wpAny_forIn_list _ (λ rest r s'=>r.1=none/\s'=s/\∀v∈rest,carriedByValue v=true) _ ?_ ?_ _ _ ⟨rfl,rfl,hi.byValue⟩
 ·rintro v rest r s' ⟨hr,rfl,hall⟩
  rw[EE _ (hall v aQ)];refine wpAny_bind (wpAny_pure ?_);simp only[aN,if_false]
  exact wpAny_pure ⟨rfl,rfl,λ u VA=>hall u (aO _ VA)⟩
 ·rintro⟨r1,r2⟩ s' ⟨hr,rfl,_⟩
  simp only at hr
  subst hr;exact wpAny_pure h
theorem VB{ks:List K}{a:Addr}{ys:List Value}{Q:Bool->Shared->Prop}(hk:IsTupleKey knd s.heap ks a)(hy:∀y,y∈ys->∃k b,y=.ref b/\IsTupleKey knd s.heap k b)(h:Q false s) :
  wpAny (model prog w) A (searchCouldBeSeen (.ref a) ys) Q E s:=by
 unfold searchCouldBeSeen
 refine wpAny_bind ?_
 refine wpAny_forIn_list _ (λ rest r s'=>r.1=none/\s'=s/\∀v∈rest,v∈ys) _ ?_ ?_ _ _ ⟨rfl,rfl,λ _ h=>h⟩
 ·rintro v rest r s' ⟨hr,rfl,hall⟩
  obtain⟨k,b,rfl,hb⟩:=hy v (hall v aQ);have hrest:∀u∈rest,u∈ys:=λ u hu=>hall u (aO _ hu)
  show wpAny _ _ (if ((a==b)||(carriedByValue (.ref a)&&carriedByValue (.ref b)))=true then _ else _) _ _ s'
  by_cases hab:(a==b)=true
  ·rw[if_pos (by rw[hab];rfl)];exact wpAny_pure ⟨rfl,rfl,hrest⟩
  ·rw[if_neg (by rw[ia] at hab;rw[hab];simp[carriedByValue])];refine wpAny_bind (wpAny_eqIsQuiet_tuple hk ?_);simp only[f7,aN,if_false]
   refine wpAny_bind (wpAny_eqIsQuiet_tuple hb ?_);simp only[f7,aN,if_false]
   refine wpAny_bind (ye hk ?_);simp only[aN,if_false]
   refine wpAny_bind (ye hb ?_);simp only[aN,if_false]
   exact wpAny_pure ⟨rfl,rfl,hrest⟩
 ·rintro⟨r1,r2⟩ s' ⟨hr,rfl,_⟩
  simp only at hr
  subst hr;exact wpAny_pure h
theorem Pb(t:SetTable)(h:Int)(m:Nat):(if m=0 then none else some (pr t h m):Option Probe).getD (t.probeStart h)=pr t h m:=by
 by_cases q:m=0
 ·subst q;rfl
 ·rw[if_neg q];rfl
theorem Sg{t:SetTable}{i j:Nat}(h:t.place[i]? = some j):¬qL t j:=λ f=>f i h
theorem Fw{a b:Addr}{o:Obj}{es:Array (Int×Value)}{ep:Nat}{t:SetTable}{ks:List (List K)}{k:List K}{T:Nat}{Q:SetFound->Shared->Prop}(hu:A.units<cLine)
  (ho:s.heap.get? a=some o) (hd:o.data=.set es ep t) (B:Body knd s.heap es t ks) (hb:IsTupleKey knd s.heap k b)
  (hT:qL t (pr t (tupleKeyHash knd k) T).j) (hl:∀m,m<T->¬qL t (pr t (tupleKeyHash knd k) m).j) (hB:T<=10*(12+t.mask))
  (h1:k∈ks->Q (.there none) s) (h2:k ∉ ks->Q (.free (pr t (tupleKeyHash knd k) T).j false) s) :
  ∀(fuel m:Nat),m<=T->T-m<fuel->(k∈ks->∃(i c:Nat) (d:Addr),es[i]? = some (tupleKeyHash knd k,.ref d)/\IsTupleKey knd s.heap k d/\m<=c/\c<T/\t.place[i]? = some (pr t (tupleKeyHash knd k) c).j) ->
   wpAny (model prog w) A (setSearchFrom a (.ref b) (tupleKeyHash knd k) true fuel (if m=0 then none else some (pr t (tupleKeyHash knd k) m))) Q E s
 |0,m,_,hf,_=>by omega
 |fuel+1,m,hm,hf,hin=>by
  unfold setSearchFrom;refine wpAny_bind (wpAny_setState_of ho hd B.fits ?_);simp only[B.odd,aN,if_false]
  rw[Pb]
  rcases OP B.tok (λ i=>(es[i]?.map (·.1)).getD 0) (tupleKeyHash knd k) hT hl hB hm with ⟨q1,q2⟩ | ⟨c,i,c1,c2,c3,c4,c5,c6⟩
  ·have nin:k ∉ ks:=λ hk=>by
    obtain⟨i,c,d,e1,_,e3,e4,e5⟩:=hin hk;exact q1 c e3 e4 i e5 (by rw[e1];rfl)
   have q2':t.probe _ (tupleKeyHash knd k) (pr t (tupleKeyHash knd k) m)=some (.empty (pr t (tupleKeyHash knd k) T).j none):=q2
   erw [q2']
   exact wpAny_pure (h2 nin)
  ·have c6':t.probe _ (tupleKeyHash knd k) (pr t (tupleKeyHash knd k) m)=some (.candidate (pr t (tupleKeyHash knd k) c).j i (pr t (tupleKeyHash knd k) (c+1))):=c6
   erw [c6']
   obtain⟨hi,_⟩:=bE.mp c3;have hie:i<es.size:=by rw[<-B.tok.size];exact hi
   have ee:es[i]? = some es[i]:=bB hie;obtain⟨k',b',hk',e2,hb',e1⟩:=B.ent i _ ee;have rest:wpAny (model prog w) A (do
     let some (_,y):=es[i]? | unsupported "internal:set-entry"
     let equal <-holding [y] (eqBool y (.ref b))
     let (es',_,t') <-setState a
     if (true&&equal)=true then return .there none
     let some same:=t'.sameMemory t.moves t.mask | unsupported "set.changed-during-lookup:is-the-new-block-at-the-old-address"
     let XE <-match (if same=true then t'.slot (pr t (tupleKeyHash knd k) c).j else .empty) with
      |.live i'=>match es'[i']? with
       |some (_,y')=>do pure (if <-isSame y' y then some i' else none)
       |none=>pure none
      |_=>pure none
     match XE with
     |none=>rule "set.search.anew";setSearchFrom a (.ref b) (tupleKeyHash knd k) true fuel none
     |some i'=>if equal=true then return .there (some i') else setSearchFrom a (.ref b) (tupleKeyHash knd k) true fuel (some (pr t (tupleKeyHash knd k) (c+1)))) Q E s:=by
    rw[ee];generalize es[i]=ent at e1 e2 ee
    obtain⟨eh,ev⟩:=ent;simp only at e1 e2
    subst e1 e2;refine wpAny_bind (wpAny_holding (wpAny_eqBool_tuple hu hb' hb ?_));refine wpAny_bind (wpAny_setState_of ho hd B.fits ?_)
    by_cases hkk:k'=k
    ·subst hkk;simp only[decide_true,g7,if_true]
     exact wpAny_pure (h1 hk')
    ·simp only[hkk,decide_false,iN,aN,if_false]
     have hsm:t.sameMemory t.moves t.mask=some true:=by unfold SetTable.sameMemory;rw[beq_self_eq_true,if_pos rfl]
     rw[hsm];simp only[if_true,B.tok.live c3,ee]
     refine wpAny_bind ?_;have hs:isSame (.ref b') (.ref b')=pure true:=by unfold isSame;simp only[beq_self_eq_true,if_true]
     rw[hs];refine wpAny_pure ?_;simp only[if_true]
     refine wpAny_bind (wpAny_pure ?_);have ih:=Fw hu ho hd B hb hT hl hB h1 h2 fuel (c+1) c2 (by omega) (λ hk=>by
      obtain⟨i2,cc,d,f1,f2,f3,f4,f5⟩:=hin hk;refine⟨i2,cc,d,f1,f2,?_,f4,f5⟩
      rcases dZ cc c with z | z | z
      ·exact absurd (by rw[f1];rfl) (c5 cc f3 z i2 f5)
      ·subst z;have:i2=i:=B.tok.up.inj f5 c3;subst this;rw[ee] at f1;have f1:=aW f1;have:b'=d:=by injection f1 with _ z2;injection z2
       subst this;exact absurd (hb'.inj f2) hkk
      ·omega)
     rw[if_neg (by omega)] at ih;exact ih
   by_cases Sh:t.led=true
   ·simp only[Sh,f7,aN,if_false]
    exact rest
   ·have Sh:t.led=false:=by simpa using Sh
    simp only[Sh,gG,if_true]
    refine wpAny_bind (VB hb (λ y hy=>?_) ?_)
    ·obtain⟨e,he,rfl⟩:=aB.mp hy;have he:e∈es:=by
      have q:=he;simp at q
      exact q.1
     obtain⟨j,hj,ej⟩:=Array.getElem_of_mem he;obtain⟨k2,b2,_,e3,e4,_⟩:=B.ent j e (by rw[bB hj,ej]);exact⟨k2,b2,e3,e4⟩
    ·simp only[aN,if_false]
     exact rest
end
end St
end
noncomputable section
namespace St
open PySem PySem.SetTable
theorem Ld{α:Type}(es:Array α):∀(l:List Nat),(∀o,o∈l->o<es.size)->(l.filterMap λ i=>es[i]?).length=l.length/\∀r:Nat,(l.filterMap λ i=>es[i]?)[r]? = (l[r]?).bind λ i=>es[i]?
 |[],_=>⟨rfl,λ r=>by simp⟩
 |o::l,h=>by
  have ho:=h o aQ;obtain⟨h1,h2⟩:=Ld es l λ x hx=>h x (aO _ hx)
  have e:(es[o]?:Option α)=some es[o]:=bB ho;rw[eY,e];refine⟨by simp[h1],λ r=>?_⟩
  cases r with
  |zero=>simp[e]
  |succ r=>simpa using h2 r
section
variable{prog:Program}{w:World}{K:Type}[DecidableEq K]{knd:KeyKind prog w K}
structure Pre(knd:KeyKind prog w K)(h:Heap)(es:Array (Int×Value))(t:SetTable)(ks:List (List K)):Prop where
 tok:ED t es.size
 ent:∀(i:Nat) (e:Int×Value),es[i]? = some e->∃k b,k∈ks/\e.2=.ref b/\IsTupleKey knd h k b/\e.1=tupleKeyHash knd k
 has:∀k,k∈ks->∃(i:Nat) (b:Addr),es[i]? = some (tupleKeyHash knd k,.ref b)/\IsTupleKey knd h k b
 len:ks.length=es.size
 NX:∀(i:Nat) (e:Int×Value) (j:Nat),es[i]? = some e->t.place[i]? = some j->Vv t.mask (λ x=>¬qL t x) e.1 j
theorem Pre.body{h:Heap}{es:Array (Int×Value)}{t:SetTable}{ks:List (List K)}(p:Pre knd h es t ks)(z:Sz t.mask es.size):Body knd h es t ks:=⟨p.tok,z,p.ent,p.has,p.len,p.NX⟩
theorem Pre.plain{h:Heap}{es:Array (Int×Value)}{t:SetTable}{ks:List (List K)}(p:Pre knd h es t ks)(c:Bool):Pre knd h es { t with plain:=c } ks:=
 ⟨⟨p.tok.size,p.tok.up,p.tok.le,p.tok.Xz,p.tok.pow⟩,p.ent,p.has,p.len,p.NX⟩
theorem Fx{h h':Heap}{a b:Addr}{o:Obj}{es:Array (Int×Value)}{ep:Nat}{t:SetTable}{k:List K}(ho:h.get? a=some o)(hd:o.data=.set es ep t)(hs:Heap.SameBut a h h')(x:IsTupleKey knd h k b):IsTupleKey knd h' k b:=by
 obtain⟨o',items,n,ho',hc,hd',hi⟩:=x
 have hne:b≠a:=by
  rintro rfl;rw[ho] at ho';cases ho';rw[hd] at hd';cases hd'
 exact⟨o',items,n,(hs.2 b hne).trans ho',hc,hd',hi⟩
theorem Pre.keeps{h h':Heap}{a:Addr}{o:Obj}{es0:Array (Int×Value)}{ep:Nat}{t0:SetTable}{es:Array (Int×Value)}{t:SetTable}{ks:List (List K)}(p:Pre knd h es t ks)
  (ho:h.get? a=some o) (hd:o.data=.set es0 ep t0) (hs:Heap.SameBut a h h'):Pre knd h' es t ks:=
 ⟨p.tok,λ i e q=>let ⟨k,b,a1,a2,a3,a4⟩:=p.ent i e q;⟨k,b,a1,a2,Fx ho hd hs a3,a4⟩,λ k hk=>let ⟨i,b,a1,a2⟩:=p.has k hk;⟨i,b,a1,Fx ho hd hs a2⟩,p.len,p.NX⟩
theorem Body.insert{h:Heap}{es:Array (Int×Value)}{t:SetTable}{ks:List (List K)}{k:List K}{b:Addr}{T:Nat}(B:Body knd h es t ks)(hb:IsTupleKey knd h k b)
  (hT:qL t (pr t (tupleKeyHash knd k) T).j) (hl:∀m,m<T->¬qL t (pr t (tupleKeyHash knd k) m).j) :
  Pre knd h (insertAt es (t.put (pr t (tupleKeyHash knd k) T).j).2 (tupleKeyHash knd k,.ref b)) (t.put (pr t (tupleKeyHash knd k) T).j).1 (ks++[k]):=by
 have hj:=(K9 t (tupleKeyHash knd k) T).1
 obtain⟨e2,tok,XF,em,_⟩:=B.tok.put hT hj
 obtain⟨hp,_⟩:=vc B.tok.up (pr t (tupleKeyHash knd k) T).j
 have JM:below t.place (pr t (tupleKeyHash knd k) T).j<=es.size:=by rw[<-B.tok.size];exact hp
 rw[e2]
 have Jm:∀x,¬qL t x->¬qL (t.put (pr t (tupleKeyHash knd k) T).j).1 x:=λ x hx f=>hx λ i e=>by
  obtain⟨i',e'⟩:=(mem_insert (c:=x) (j:=(pr t (tupleKeyHash knd k) T).j) hp).mpr (.inr ⟨i,e⟩);rw[<-XF] at e';exact f i' e'
 have sz:(insertAt es (below t.place (pr t (tupleKeyHash knd k) T).j) (tupleKeyHash knd k,Value.ref b)).size=es.size+1:=yc _ _ _ JM
 refine⟨by rw[sz];exact tok,λ i e q=>?_,λ k' hk'=>?_,by rw[sz,aG,B.len];rfl,λ i e j q qj=>?_⟩
 ·rw[kR _ _ _ JM] at q
  have old:∀i',es[i']? = some e->∃k1 b1,k1∈ks++[k]/\e.2=.ref b1/\IsTupleKey knd h k1 b1/\e.1=tupleKeyHash knd k1:=λ i' q'=>
   let ⟨k1,b1,a1,a2,a3,a4⟩:=B.ent i' e q';⟨k1,b1,f9 _ a1,a2,a3,a4⟩
  split at q
  ·exact old _ q
  ·split at q
   ·cases q;exact⟨k,b,bK _ aQ,rfl,hb,rfl⟩
   ·exact old _ q
 ·rcases aY.mp hk' with hk' | hk'
  ·obtain⟨i,b',a1,a2⟩:=B.has k' hk'
   by_cases hi:i<below t.place (pr t (tupleKeyHash knd k) T).j
   ·exact⟨i,b',by rw[kR _ _ _ JM,if_pos hi];exact a1,a2⟩
   ·exact⟨i+1,b',by rw[kR _ _ _ JM,if_neg (by omega),if_neg (by omega)];exact a1,a2⟩
  ·have:k'=k:=by simpa using hk'
   subst this;exact⟨below t.place (pr t (tupleKeyHash knd k') T).j,b,by rw[kR _ _ _ JM,if_neg (by omega),if_pos rfl],hb⟩
 ·rw[XF,kR _ _ _ hp] at qj
  rw[kR _ _ _ JM] at q;rw[em]
  by_cases h1:i<below t.place (pr t (tupleKeyHash knd k) T).j
  ·rw[if_pos h1] at q qj;exact (B.NX i e j q qj).mono Jm
  ·rw[if_neg h1] at q qj
   by_cases h2:i=below t.place (pr t (tupleKeyHash knd k) T).j
   ·rw[if_pos h2] at q qj
    cases q;cases qj;exact⟨T,(HN t _ T).symm,λ m hm=>Jm _ (by rw[<-HN];exact hl m hm)⟩
   ·rw[if_neg h2] at q qj;exact (B.NX (i-1) e j q qj).mono Jm
theorem Pre.XG{h:Heap}{es:Array (Int×Value)}{t:SetTable}{ks:List (List K)}(p:Pre knd h es t ks){wanted:Nat}(z:Sz (sizeAbove wanted-1) es.size) :
  ∃t' order,t.relaid (es.map (·.1)) wanted=some (t',order)/\(order.filterMap λ i=>es[i]?).size=es.size/\Body knd h (order.filterMap λ i=>es[i]?) t' ks:=by
 have hn:(es.map (·.1)).size<=sizeAbove wanted-1:=by
  rw[Array.size_map]
  rcases z with ⟨e,z⟩ | ⟨e,z⟩ | ⟨e,z⟩ | ⟨e,z⟩ | ⟨e,z⟩ | ⟨e,z⟩ | ⟨e,z⟩ | ⟨e,z⟩<;>omega
 obtain⟨t',order,e,tok,em,_,_,_,os,o1,o2,o3,o4⟩:=Sa z.pow t.finger (t.movedTo (sizeAbove wanted-1)) t.led t.plain (es.map (·.1)) hn
 rw[Array.size_map] at os tok
 have lt:∀o,o∈order.toList->o<es.size:=λ o ho=>by
  obtain⟨r,hr⟩:=cQ ho;have:=o1 r o (by simpa using hr)
  simpa using this
 obtain⟨f1,f2⟩:=Ld es order.toList lt
 have gt:∀r:Nat,(order.filterMap λ i=>es[i]?)[r]? = (order[r]?).bind λ i=>es[i]?:=λ r=>by
  have:=f2 r;rw[<-iL,iE,this,iL]
 have sz:(order.filterMap λ i=>es[i]?).size=es.size:=by
  rw[<-dF,iE,f1,dF,os]
 refine⟨t',order,e,sz,⟨by rw[sz];exact tok,by rw[em,sz];exact z,λ i x q=>?_,λ k hk=>?_,by rw[sz];exact p.len,λ i x j q qj=>?_⟩⟩
 ·rw[gt] at q
  cases eo:order[i]? with
  |none=>rw[eo] at q;cases q
  |some o=>rw[eo] at q;exact p.ent o x q
 ·obtain⟨i,b,a1,a2⟩:=p.has k hk
  obtain⟨hi,_⟩:=bE.mp a1;obtain⟨r,hr⟩:=o3 i (by simpa using hi);exact⟨r,b,by rw[gt,hr];exact a1,a2⟩
 ·rw[gt] at q
  cases eo:order[i]? with
  |none=>rw[eo] at q;cases q
  |some o=>
   rw[eo] at q;have:=o4 i o j x.1 eo qj (by
    have q':es[o]? = some x:=q;rw[Array.getElem?_map,q'];rfl)
   rw[em];exact this.mono λ y ⟨i',e'⟩=>Sg e'
variable{A:Around}{E:Value->Shared->Prop}{s:Shared}
theorem hbv{ks:List K}{a:Addr}{Q:Bool->Shared->Prop}(hk:IsTupleKey knd s.heap ks a)(h:∀c,Q c s):wpAny (model prog w) A (hashByValue 8 (.ref a)) Q E s:=by
 have hT:=hk.typeIs
 obtain⟨o,items,n,ho,hc,hd,hi⟩:=hk
 unfold hashByValue
 refine wpAny_bind (wpAny_specialOf hT F.slot_tuple_hash.lookup ?_)
 show wpAny _ _ (seqItems? (.ref a) >>= _) _ _ s
 refine wpAny_bind (wpAny_seqItems ho hd ?_)
 show wpAny _ _ (forIn items _ _ >>= _) _ _ s
 refine wpAny_bind ?_
 rw[<-je]
 refine wpAny_forIn_list _ (λ rest r s'=>(r.1=none\/r.1=some false)/\s'=s/\∀v∈rest,carriedByValue v=true) _ ?_ ?_ _ _ ⟨.inl rfl,rfl,hi.byValue⟩
 ·rintro v rest r s' ⟨hr,rfl,hall⟩
  have hv:∃c,hashByValue 7 v=pure c:=by
   have:=hall v aQ
   cases v with
   |ref a=>simp[carriedByValue] at this
   |_=>exact⟨_,rfl⟩
  obtain⟨c,hc⟩:=hv;rw[hc];refine wpAny_bind (wpAny_pure ?_)
  cases c with
  |true=>
   simp only[f7,aN,if_false]
   exact wpAny_pure ⟨.inl rfl,rfl,λ u hu=>hall u (aO _ hu)⟩
  |false=>
   simp only[gG,if_true]
   exact wpAny_pure (wpAny_pure (h false))
 ·rintro⟨r1,r2⟩ s' ⟨hr,rfl,_⟩
  rcases hr with hr | hr
  ·simp only at hr
   subst hr;exact wpAny_pure (h true)
  ·simp only at hr
   subst hr;exact wpAny_pure (h false)
theorem Fy{h:Heap}{a:Addr}{o:Obj}{es:Array (Int×Value)}{ep:Nat}{t:SetTable}(es':Array (Int×Value))(t':SetTable)(ho:h.get? a=some o)(hx:o.ExactSet)(hd:o.data=.set es ep t) :
  ∃o',(h.update a (Obj.putSet es' t')).get? a=some o'/\o'.ExactSet/\o'.data=.set es' (ep+1) t'/\Heap.SameBut a h (h.update a (Obj.putSet es' t')):=by
 refine⟨{ o with data:=.set es' (ep+1) t' },?_,hx,rfl,?_⟩
 ·have q:=Heap.get?_update_self (Obj.putSet es' t') ho (by rw[putSet_of es' t' hd];rfl)
  rw[putSet_of es' t' hd] at q;exact q
 ·exact Heap.SameBut.update _ _ _
theorem HU{n:Nat}(h:n<=32769):n<=sizeLine:=by rw[sizeLine_eq];omega
theorem JN{a b:Addr}{o:Obj}{es:Array (Int×Value)}{ep:Nat}{t:SetTable}{ks:List (List K)}{k:List K}{T fuel:Nat}{Q:SetFound->Shared->Prop}(hu:A.units<cLine)
  (ho:s.heap.get? a=some o) (hd:o.data=.set es ep t) (B:Body knd s.heap es t ks) (hb:IsTupleKey knd s.heap k b)
  (hT:qL t (pr t (tupleKeyHash knd k) T).j) (hl:∀m,m<T->¬qL t (pr t (tupleKeyHash knd k) m).j) (hB:T<=10*(12+t.mask))
  (h1:k∈ks->Q (.there none) s) (h2:k ∉ ks->Q (.free (pr t (tupleKeyHash knd k) T).j false) s) (hf:T<fuel)
  (hin:k∈ks->∃(i c:Nat) (d:Addr),es[i]? = some (tupleKeyHash knd k,.ref d)/\IsTupleKey knd s.heap k d/\0<=c/\c<T/\t.place[i]? = some (pr t (tupleKeyHash knd k) c).j) :
  wpAny (model prog w) A (setSearchFrom a (.ref b) (tupleKeyHash knd k) true fuel none) Q E s:=by
 have q:=Fw (A:=A) (E:=E) hu ho hd B hb hT hl hB h1 h2 fuel 0 (bq _) (by omega) hin
 rw[if_pos rfl] at q
 exact q
set_option maxHeartbeats 1000000 in
theorem VC{a b:Addr}{ks:List (List K)}{k:List K}{Q:Bool->Shared->Prop}(hu:A.units<cLine)(hS:rO knd s.heap a ks)(hb:IsTupleKey knd s.heap k b)(hn:ks.length<32768)
  (h:∀(c:Bool) (h':Heap) (tk:Nat),Heap.SameBut a s.heap h'->rO knd h' a (if k∈ks then ks else ks++[k])->Q c { s with heap:=h',toks:=tk }) :
  wpAny (model prog w) A (setAdd a (.ref b)) Q E s:=by
 unfold setAdd
 refine wpAny_holding (wpAny_bind (wpAny_pyHash_tuple hu hb ?_))
 unfold setAddHashed
 refine wpAny_holding ?_
 obtain⟨o,es,ep,t,ho,hx,hd,B⟩:=hS
 unfold setAddHashedIn
 refine wpAny_bind (wpAny_setState_of (s:={ s with toks:=s.toks+(k.length+1) }) ho hd B.fits ?_)
 have hbs:byScan (.ref b) es=false:=by unfold byScan;rfl
 simp only[hbs,aN,if_false]
 obtain⟨T,t1,t2,t3,t4⟩:=JL B.tok B.sz (tupleKeyHash knd k)
 unfold setSearch
 have hin:k∈ks->∃(i c:Nat) (d:Addr),es[i]? = some (tupleKeyHash knd k,.ref d)/\IsTupleKey knd s.heap k d/\0<=c/\c<T/\t.place[i]? = some (pr t (tupleKeyHash knd k) c).j:=λ hk=>by
  obtain⟨i,d,e1,e2⟩:=B.has k hk;obtain⟨hi,_⟩:=bE.mp e1;have hip:i<t.place.size:=by rw[B.tok.size];exact hi
  have U6:t.place[i]? = some t.place[i]:=bB hip;obtain⟨c,c1,c2⟩:=B.NX i _ _ e1 U6;refine⟨i,c,d,e1,e2,bq _,?_,by rw[U6,HN,c1]⟩
  rcases fM c T with z | z
  ·exact z
  ·exfalso
   rcases gF z with z | z
   ·subst z;rw[HN,c1] at t3;exact t3 i U6
   ·have:=c2 T z;rw[<-HN] at this;exact this t3
 refine wpAny_bind (JN (s:={ s with toks:=s.toks+(k.length+1) }) hu ho hd B hb t3 t4 t2 (λ hk=>?_) (λ hk=>?_) (by omega) hin)
 ·refine wpAny_pure ?_
  have hz:=h false s.heap (s.toks+(k.length+1)) (Heap.SameBut.refl _ _);rw[if_pos hk] at hz;exact hz ⟨o,es,ep,t,ho,hx,hd,B⟩
 ·show wpAny _ _ (setState a >>= _) _ _ _
  refine wpAny_bind (wpAny_setState_of (s:={ s with toks:=s.toks+(k.length+1) }) ho hd B.fits ?_);have pre:=B.insert hb t3 t4;obtain⟨e2,tok,XF,em,epp,_⟩:=B.tok.put t3 (K9 t (tupleKeyHash knd k) T).1;have hsz:(insertAt es (t.put (pr t (tupleKeyHash knd k) T).j).2 (tupleKeyHash knd k,Value.ref b)).size=es.size+1:=by rw[<-pre.len,aG,B.len];rfl
  have hle:es.size+1<=32768:=by rw[<-B.len];omega
  generalize hput:t.put (pr t (tupleKeyHash knd k) T).j=tp at pre e2 tok XF em epp hsz
  obtain⟨t',p⟩:=tp;simp only at pre e2 tok XF em epp hsz
  have goal:∀c:Bool,wpAny (model prog w) A (do
    storeSet a (insertAt es p (tupleKeyHash knd k,Value.ref b)) (if c=true then t' else { t' with plain:=false })
    if (!false&&(if c=true then t' else { t' with plain:=false }).tooFull)=true then setRelay a (SetTable.grown (es.size+1))
    return true) Q E { s with toks:=s.toks+(k.length+1) }:=λ c=>by
   have Si:Pre knd s.heap (insertAt es p (tupleKeyHash knd k,Value.ref b)) (if c=true then t' else { t' with plain:=false }) (ks++[k]):=by
    cases c
    ·exact pre.plain false
    ·exact pre
   have Y3:(if c=true then t' else { t' with plain:=false }:SetTable).mask=t.mask:=by cases c<;>exact em
   generalize (if c=true then t' else { t' with plain:=false }:SetTable)=t2 at Si Y3
   obtain⟨o2,g1,g2,g3,g4⟩:=Fy (insertAt es p (tupleKeyHash knd k,Value.ref b)) t2 ho hx hd;refine wpAny_bind (wpAny_storeSet_of (s:={ s with toks:=s.toks+(k.length+1) }) ho hd ?_ (by rw[hsz];exact HU (by omega)));have XH:=Si.keeps ho hd g4;have fill:t2.fill=es.size+1:=by rw[Si.tok.fits,hsz]
   have full:t2.tooFull=decide ((es.size+1)*5>=t.mask*3):=by unfold SetTable.tooFull;rw[fill,Y3]
   rw[full]
   rcases B.sz.more hle with ⟨q1,q2⟩ | ⟨q1,q2,q3⟩
   ·rw[decide_eq_false q1];simp only[gG,iN,aN,if_false]
    refine wpAny_bind (wpAny_pure (wpAny_pure ?_));have hz:=h true _ (s.toks+(k.length+1)) g4;rw[if_neg hk] at hz;exact hz ⟨o2,_,_,t2,g1,g2,g3,XH.body (by rw[Y3,hsz];exact q2)⟩
   ·rw[decide_eq_true q1];simp only[gG,g7,if_true]
    refine wpAny_bind ?_;unfold setRelay;have fit:t2.fits (insertAt es p (tupleKeyHash knd k,Value.ref b)).size=true:=by
     simp only[SetTable.fits,aU,beq_iff_eq,decide_eq_true_eq]
     refine⟨Si.tok.size,?_⟩;rw[fill,Y3]
     rcases B.sz with ⟨e,z⟩ | ⟨e,z⟩ | ⟨e,z⟩ | ⟨e,z⟩ | ⟨e,z⟩ | ⟨e,z⟩ | ⟨e,z⟩ | ⟨e,z⟩<;>omega
    refine wpAny_bind (wpAny_setState_of (s:={ s with heap:=s.heap.update a (Obj.putSet (insertAt es p (tupleKeyHash knd k,Value.ref b)) t2),toks:=s.toks+(k.length+1) }) g1 g3 fit ?_);dsimp only;rw[if_neg (show ¬sizeAbove (grown (es.size+1))>sizeLine by rw[sizeLine_eq];omega)];obtain⟨t3',order,r1,r2,r3⟩:=XH.XG (wanted:=SetTable.grown (es.size+1)) (by rw[hsz];exact q3);rw[r1];show wpAny _ _ ((do
     let es':=order.filterMap ((insertAt es p (tupleKeyHash knd k,Value.ref b))[·]?)
     if (es'.size != (insertAt es p (tupleKeyHash knd k,Value.ref b)).size)=true then unsupported "internal:set-table-lost-an-element"
     pure (es',t3')) >>= _) _ _ _
    dsimp only;rw[if_neg (by rw[r2];simp)];refine wpAny_bind (wpAny_bind (wpAny_pure (wpAny_pure ?_)));obtain⟨o4,k1,k2,k3,k4⟩:=Fy (order.filterMap ((insertAt es p (tupleKeyHash knd k,Value.ref b))[·]?)) t3' g1 g2 g3;refine wpAny_storeSet_of (s:={ s with heap:=s.heap.update a (Obj.putSet (insertAt es p (tupleKeyHash knd k,Value.ref b)) t2),toks:=s.toks+(k.length+1) }) g1 g3 ?_ (by rw[r2,hsz];exact HU (by omega));refine wpAny_pure ?_;have hz:=h true _ (s.toks+(k.length+1)) (g4.trans k4);rw[if_neg hk] at hz;have ZW:Pre knd _ _ t3' (ks++[k]):=(Pre.keeps ⟨r3.tok,r3.ent,r3.has,r3.len,r3.NX⟩ g1 g3 k4)
    exact hz ⟨o4,_,_,t3',k1,k2,k3,ZW.body r3.sz⟩
  by_cases hpl:t'.plain=true
  ·simp only[hpl,if_true]
   refine wpAny_bind (hbv (s:={ s with toks:=s.toks+(k.length+1) }) hb λ c=>?_);exact goal c
  ·have hpl:t'.plain=false:=by simpa using hpl
   simp only[hpl,aN,if_false]
   refine wpAny_bind (wpAny_pure ?_);exact goal true
end
end St
end
noncomputable section
namespace St
open PySem PySem.SetTable
section
variable{prog:Program}{w:World}{K:Type}[DecidableEq K]{knd:KeyKind prog w K}
def JO(acc:List (List K))(k:List K):List (List K):=if k∈acc then acc else acc++[k]
def dd(l:List (List K)):List (List K):=l.foldl JO []
theorem Sj(l:List (List K))(k:List K):dd (l++[k])=JO (dd l) k:=by unfold dd;rw[dw];rfl
theorem JP:∀(l acc:List (List K)),acc.Nodup->(l.foldl JO acc).Nodup/\(l.foldl JO acc).length<=acc.length+l.length/\((l.foldl JO acc).length=acc.length+l.length↔(acc++l).Nodup)
 |[],acc,h=>⟨h,au _,by simp[h]⟩
 |k::l,acc,h=>by
  rw[dR]
  by_cases hk:k∈acc
  ·have e:JO acc k=acc:=if_pos hk;rw[e];obtain⟨h1,h2,h3⟩:=JP l acc h;refine⟨h1,by simp;omega,⟨λ z=>by simp at z;omega,λ z=>?_⟩⟩;rw[dm] at z;exact absurd rfl (z.2.2 k hk k aQ)
  ·have e:JO acc k=acc++[k]:=if_neg hk;have hn:(acc++[k]).Nodup:=by
    rw[dm];exact⟨h,by simp,λ a ha b hb e2=>hk (by simp at hb;rw[<-hb,<-e2];exact ha)⟩
   rw[e];obtain⟨h1,h2,h3⟩:=JP l (acc++[k]) hn;refine⟨h1,by simp at h2 ⊢;omega,?_⟩;rw[cR] at h3;simp only[aG,aK,List.length_nil] at h3 ⊢
   rw[<-show (acc++([k]++l)).Nodup↔(acc++k::l).Nodup from Iff.rfl,<-h3];omega
theorem JQ(l:List (List K)):(dd l).length<=l.length/\((dd l).length=l.length↔l.Nodup):=by
 obtain⟨_,h2,h3⟩:=JP l [] iQ
 unfold dd
 simpa using And.intro h2 h3
theorem rO.fresh{h:Heap}{a:Addr}(led:Bool)(e:h.get? a=some { cls:=.type "set",dict:=none,data:=.set #[] 0 (.fresh 0 0 led) }):rO knd h a []:=
 ⟨_,#[],0,.fresh 0 0 led,e,⟨rfl,rfl,rfl⟩,rfl,
  ⟨⟨rfl,λ i j a b e1=>by simp[SetTable.fresh] at e1,λ i j e1=>by simp[SetTable.fresh] at e1,rfl,⟨3,by decide,rfl⟩⟩,.inl ⟨rfl,by decide⟩,
   λ i e q=>by simp at q,λ k hk=>absurd hk (by simp),rfl,λ i e j q=>by simp at q⟩⟩
theorem rO.keep{h h':Heap}{a:Addr}{ks:List (List K)}(S:rO knd h a ks)(k1:∀o,h.get? a=some o->h'.get? a=some o)(k2:∀k b,IsTupleKey knd h k b->IsTupleKey knd h' k b):rO knd h' a ks:=by
 obtain⟨o,es,ep,t,ho,hx,hd,B⟩:=S
 exact⟨o,es,ep,t,k1 o ho,hx,hd,⟨B.tok,B.sz,λ i e q=>let ⟨k,b,a1,a2,a3,a4⟩:=B.ent i e q;⟨k,b,a1,a2,k2 k b a3,a4⟩,λ k hk=>let ⟨i,b,a1,a2⟩:=B.has k hk;⟨i,b,a1,k2 k b a2⟩,B.len,B.NX⟩⟩
theorem tup_ne{h:Heap}{k:List K}{b c:Addr}{o:Obj}{vs:Array Value}(x:IsTupleKey knd h k b)(e:h.get? c=some o)(d:o.data=.fields vs):b≠c:=by
 rintro rfl
 obtain⟨o',items,n,ho,_,hd,_⟩:=x
 rw[e] at ho;cases ho
 rw[d] at hd;cases hd
theorem VD{h:Heap}{k:List K}{b a:Addr}{ks:List (List K)}(x:IsTupleKey knd h k b)(S:rO knd h a ks):b≠a:=by
 rintro rfl
 obtain⟨o',items,n,ho,_,hd,_⟩:=x
 obtain⟨o,es,ep,t,e,_,d,_⟩:=S
 rw[e] at ho;cases ho
 rw[d] at hd;cases hd
theorem CF{h h':Heap}{k:List K}{b:Addr}(x:IsTupleKey knd h k b)(e:∀o,h.get? b=some o->h'.get? b=some o):IsTupleKey knd h' k b:=
 let ⟨o,items,n,ho,r⟩:=x;⟨o,items,n,e o ho,r⟩
variable{A:Around}{s:Shared}{I S:Addr}{fp:List Addr}{n:Nat}{P:Nat->Value->Prop}{St:Nat->Heap->Prop}
theorem Fz{R:Result->Shared->Prop}(W:Walks prog w A.in1 I fp [I] n P St)(hSf:S ∉ fp)(hu:A.in1.units<cLine)(kl:List (List K))(hlen:kl.length=n)(hn:n<=32768)
  (hit:∀i h,St i h->∃o vs,h.get? I=some o/\o.data=.fields vs) :
  ∀(k i:Nat) (s:Shared),n-i=k->i<=n->St i s.heap->rO knd s.heap S (dd (kl.take i)) ->
   (∀j v,i<=j->P j v->∃b q,v=.ref b/\kl[j]? = some q/\IsTupleKey knd s.heap q b) ->
   (∀(h':Heap) (tk:Nat),(∀b o,b≠S->b≠I->s.heap.get? b=some o->h'.get? b=some o)->rO knd h' S (dd kl)->R (.ok (.ret .none)) { s with heap:=h',toks:=tk }) ->
   codeAny (model prog w) A (.builtin "set.update.loop" ⟨[.ref S,.ref I],[]⟩) R s
 |k,i,s,hk,hi,st,hS,hP,hR=>by
  refine codeAny_builtin PyProof.Rows.F.entry_set_update_loop ?_;rw[Around.under_plainId PyProof.Rows.F.plain_set_update_loop _];show wpAny _ A.in1 (pyNext (.ref I) >>= _) _ _ s;obtain⟨oI,vsI,eI,dI⟩:=hit i s.heap st
  rcases fM i n with hlt | hge
  ·obtain⟨k,rfl⟩:∃k',k=k'+1:=⟨k-1,by omega⟩
   refine wpAny_bind (W.item i s _ _ hlt st λ v h' tk hv st' hm=>?_);obtain⟨b,q,rfl,eq,hb⟩:=hP i v (au _) hv;have tk':∀k b,IsTupleKey knd s.heap k b->IsTupleKey knd h' k b:=λ k b x=>CF x λ o e=>hm b o (λ z=>tup_ne x eI dI (by simpa using z)) e
   have hSI:S≠I:=λ z=>hSf (by rw[z];exact W.sub I (by simp))
   have hS':=hS.keep (h':=h') (λ o e=>hm S o (by simpa using hSI) e) tk';show wpAny _ A.in1 (holding [Value.ref b] (setAdd S (.ref b)) >>= _) _ _ _;refine wpAny_bind (wpAny_holding (VC (s:={ s with heap:=h',toks:=tk }) hu hS' (tk' q b hb) ?_ λ c h2 ZX sb ZY=>?_))
   ·have:=(JQ (kl.take i)).1;rw[aR] at this;omega
   ·have et:kl.take (i+1)=kl.take i++[q]:=by
     rw[gW,eq];rfl
    have ZZ:rO knd h2 S (dd (kl.take (i+1))):=by rw[et,Sj];exact ZY
    refine wpAny_pure ⟨plainId_quiet PyProof.Rows.F.plain_set_update_loop _,?_⟩;refine Fz W hSf hu kl hlen hn hit k (i+1) _ (by omega) hlt (W.frame (i+1) h' h2 st' λ b hb o e=>?_) ZZ (λ j v hj hv=>?_) λ h3 Z0 hm3 hS3=>?_
    ·rw[sb.2 b (λ z=>hSf (by rw[<-z];exact hb))];exact e
    ·obtain⟨b2,q2,f1,f2,f3⟩:=hP j v (by omega) hv;refine⟨b2,q2,f1,f2,?_⟩;have f4:=tk' q2 b2 f3;exact CF f4 λ o e=>by rw[sb.2 b2 (VD f4 hS')];exact e
    ·refine hR h3 Z0 (λ b o h1 h2' e=>hm3 b o h1 h2' ?_) hS3;show h2.get? b=some o;rw[sb.2 b h1];exact hm b o (by simpa using h2') e
  ·have hin:i=n:=by omega
   subst hin;refine wpAny_bind (W.done s _ _ st λ h' tk hm=>?_);show wpAny _ A.in1 (ret Value.none) _ _ _;refine wpAny_pure (hR h' tk (λ b o _ h2 e=>hm b o (by simpa using h2) e) ?_);have hSI:S≠I:=λ z=>hSf (by rw[z];exact W.sub I (by simp))
   have:=hS.keep (h':=h') (λ o e=>hm S o (by simpa using hSI) e) λ k b x=>CF x λ o e=>hm b o (λ z=>tup_ne x eI dI (by simpa using z)) e
   rw[aA (by omega)] at this;exact this
 termination_by k=>k
theorem MY{l o:Addr}{items:Array Value}{led:Bool}{E:Value->Shared->Prop}{Q:Value->Shared->Prop}{kl:List (List K)}(hh:A.handled=none)(hu:A.units+8<cLine)
  (hl:s.heap.IsList l items) (ho:s.heap.get? o=some { cls:=.type "set",dict:=none,data:=.set #[] 0 (.fresh 0 0 led) }) (hlen:kl.length=items.size) (hn:items.size<=32768)
  (hk:∀(i:Nat) (v:Value),items[i]? = some v->∃b q,v=.ref b/\kl[i]? = some q/\IsTupleKey knd s.heap q b)
  (h:∀(h':Heap) (tk:Nat),rO knd h' o (dd kl)->(∀b u,b≠o->s.heap.get? b=some u->h'.get? b=some u)->Q .none { s with heap:=h',toks:=tk }) :
  codeAny (model prog w) A (.call (.builtin "set.__init__") ⟨[.ref o,.ref l],[]⟩) (wants Q E) s:=by
 have hT:s.TypeIs (.ref o) "set":=⟨_,ho,rfl⟩
 refine codeAny_call_builtin F.called_set.init.plain F.entry_set_init (check_set_init_1 hT ?_)
 obtain⟨ol,e1,e2,nl,e3⟩:=id hl
 cases ol with
 |mk ocls odict odata Z1=>
 simp only at e2 e3
 subst e2 e3
 have h1:=F.sub_list_set
 have h2:=F.sub_list_frozenset
 have h3:(Value.type "list" == Value.type "dict")=false:=by decide
 have nol:l≠o:=by
  rintro rfl;rw[e1] at ho;have z:=congrArg Obj.cls (aW ho);simp at z
 have lo:o<s.heap.objs.size:=Heap.lt_size ho
 have ll:l<s.heap.objs.size:=Heap.lt_size e1
 unfold Builtin.«set.__init__» noKeywords Builtin.Frozenset.updateFrom
 generalize hq:pyIter=it
 wp_walk
 subst hq
 refine wpAny_pyIter_list hl (wpAny_bind (wpAny_runValue ?_))
 have W:=Walks.list (prog:=prog) (w:=w) (A:=A.in1.in1) (by simp[hh]) s.heap.objs.size l (aZ ll) items
 refine Fz (knd:=knd) W (S:=o) (λ z=>?_) ?_ kl hlen hn (λ i h3 st=>?_) items.size 0 _ (by omega) (bq _) ?_ ?_ ?_ ?_
 ·simp only[aC,dH,or_false] at z
  rcases z with z | z
  ·exact absurd z (aZ lo)
  ·exact nol z.symm
 ·show A.units+1+1<cLine
  omega
 ·obtain⟨⟨oi,f1,_,f3⟩,_⟩:=st
  exact⟨oi,_,f1,f3⟩
 ·exact⟨⟨_,Heap.get?_push_size _ rfl,rfl,rfl⟩,hl.push _⟩
 ·exact rO.fresh led (Heap.get?_push_of_some _ ho)
 ·intro j v _ hv
  obtain⟨b,q,g1,g2,g3⟩:=hk j v hv;exact⟨b,q,g1,g2,CF g3 λ u e=>Heap.get?_push_of_some _ e⟩
 ·intro h' tk k1 k2
  refine wpAny_pure (wpAny_pure ?_);exact h h' tk k2 λ b u hb e=>k1 b u hb (aZ (Heap.lt_size e)) (Heap.get?_push_of_some _ e)
theorem Pc{l:Addr}{items:Array Value}{E:Value->Shared->Prop}{Q:Value->Shared->Prop}{kl:List (List K)}(hh:A.handled=none)(hu:A.units+16<cLine)
  (hl:s.heap.IsList l items) (hlen:kl.length=items.size) (hn:items.size<=32768)
  (hk:∀(i:Nat) (v:Value),items[i]? = some v->∃b q,v=.ref b/\kl[i]? = some q/\IsTupleKey knd s.heap q b)
  (h:∀(h':Heap) (tk:Nat),rO knd h' s.heap.objs.size (dd kl)->(∀b u,s.heap.get? b=some u->h'.get? b=some u)->Q (.ref s.heap.objs.size) { s with heap:=h',toks:=tk }) :
  wpAny (model prog w) A (call (.type "set") [.ref l]) Q E s:=by
 have F0:=F.called_set
 obtain⟨c,tl,hm⟩:=F0.mro
 have f1:=F0.made
 have f2:=F0.sub
 have f3:=F0.notType
 have f4:=F0.canCreate
 have f5:=F.typeCall_set_1 (.ref l)
 refine wpAny_call (codeAny_of_tree ?_)
 show wpAny _ _ (callAny (.type "set") ⟨[.ref l],[]⟩) _ _ _
 refine wpAny_pure ⟨Code.quiet_builtin _ (by decide +kernel),codeAny_builtin F.entry_type_call ?_⟩
 rw[Around.under_plain (weight_type_call_type "set" [.ref l] []) rfl]
 (repeat (any_goals (first | assumption | wp_step)));skip
 refine codeAny_mono (code_set_new_1 (.ref l) (E:=E) (Q₁:=λ v s1=>∃led:Bool,v=.ref s.heap.objs.size /\
  s1 = { s with heap:=s.heap.push { cls:=.type "set",dict:=none,data:=.set #[] 0 (.fresh 0 0 led) } }) λ led=>⟨led,rfl,rfl⟩) λ r s1 hr=>?_
 cases r with
 |error e=>exact hr
 |ok fl=>
  cases fl with
  |ret v=>
   obtain⟨led,rfl,rfl⟩:=hr;have g0:=Heap.get?_push_size s.heap (o:={ cls:=.type "set",dict:=none,data:=.set #[] 0 (.fresh 0 0 led) }) rfl;have g1:Shared.TypeIs { s with heap:=s.heap.push { cls:=.type "set",dict:=none,data:=.set #[] 0 (.fresh 0 0 led) } } (.ref s.heap.objs.size) "set":=⟨_,g0,rfl⟩
   have g2:=F0.init.lookup;have g3:=F0.init.bind (.ref s.heap.objs.size)
   (repeat (any_goals (first | assumption | wp_step)));skip
   refine codeAny_mono (MY (knd:=knd) (Q:=λ v s2=>v=.none/\∃h' tk,s2 = { s with heap:=h',toks:=tk }/\rO knd h' s.heap.objs.size (dd kl)/\∀b u,s.heap.get? b=some u->h'.get? b=some u)
    (E:=E) (by simpa using hh) (by simp only[Around.in1];omega) (hl.push _) g0 hlen hn (λ i v hv=>?_) λ h' tk a1 a2=>?_) λ r2 s2 hr2=>?_
   ·obtain⟨b,q,q1,q2,q3⟩:=hk i v hv;exact⟨b,q,q1,q2,CF q3 λ u e=>Heap.get?_push_of_some _ e⟩
   ·exact⟨rfl,h',tk,rfl,a1,λ b u e=>a2 b u (aZ (Heap.lt_size e)) (Heap.get?_push_of_some _ e)⟩
   ·cases r2 with
    |error e=>exact hr2
    |ok Z2=>
     cases Z2 with
     |ret r=>
      obtain⟨rfl,h',tk,rfl,a1,a2⟩:=hr2
      (repeat (any_goals (first | assumption | wp_step)));skip
      exact h h' tk a1 a2
     |_=>exact hr2.elim
  |_=>exact hr.elim
end
end St
end
noncomputable section
namespace L2
open PySem PySem.Spec PyProof.Rows
def yT(P:Program)(w:World):RN:=λ outer H s E e s'=>
 ∃(a C:Addr) (a0:Value) (B h1:Heap) (H1:Hp),e=.ref a/\s'.os=s.os/\AllBare s'.gens/\Heap.FlyingW B outer a (.ref C) a0 s'.heap /\
  Un (frs outer) [] H H1 s.heap h1/\Ax P w H1 h1/\h1.UpToSlots s'.heap /\
  (∀b o,h1.get? b=some o->(b<s.heap.objs.size\/H1 b≠none)->b ∉ frs outer->B.get? b=some o)/\E (.ref C) none H1
theorem jU{P:Program}{w:World}{X:Cx}:qK (yT P w) X E0:=λ _ _ _ _ _ _ _ h=>by
 obtain⟨_,_,_,_,_,_,_,_,_,_,_,_,_,_,z⟩:=h
 exact z.elim
structure XL(X:Cx)(E:XK):Prop where
 Ry:X.stack=X.env::X.outer
 fr:X.env.frame=some X.env.locals
 ex:X.ex=[]
 calm:X.calm=true
 to:∀e s',wpAny (model X.prog X.w) X.A (leaving X.env e) (λ _ s''=>yT X.prog X.w X.outer X.Ub X.Ey E e s'') (λ e' s''=>yT X.prog X.w X.outer X.Ub X.Ey E e' s'') s'->X.xe e s'
theorem jT{X:Cx}{E:XK}(L:XL X E):qK (yT X.prog X.w) X E:=by
 intro pins σ H s e s' I h
 obtain⟨a,C,a0,B,h1,H1,rfl,os,bare,fl,un,hok,sl,cond,hE⟩:=h
 have J:=I.call (h':=h1) (g':=s.gens) (t':=s.toks) (d':=s.drawn) (ch:=[]) un hok I.bare (λ b z=>absurd z (by simp))
 refine L.to _ _ ?_
 rw[L.Ry] at fl
 refine wpAny_leaves_onW (I.ok.frames.trans (congrArg some L.Ry)) L.fr fl λ h' fl' YS=>?_
 refine⟨a,C,a0,B,h1,H1,rfl,os.trans I.os,bare,fl',?_,hok,sl.trans YS,λ b o e hb hn=>cond b o e ?_ λ hm=>?_,hE⟩
 ·have u:=J.base
  rw[L.ex] at u;exact u
 ·rcases hb with hb | hb
  ·exact .inl (aM hb I.sz)
  ·exact .inr hb
 ·rcases aC.mp (I.Ce b hm) with z | z
  ·rcases hb with hb | hb
   ·exact absurd (aM hb I.ok.above) (by rw[z];exact bI _)
   ·rw[z] at hb;exact hb J.free
  ·exact hn z
theorem uq{K:aj}{h:Heap}{mg:Str->Option Value}{x:Str}{C:Addr}{bmB:List Value}{newId:String}(KX:K.In h)(hm:mg x=some (.ref C))
  (q:ja K C bmB newId=true):OwnCls x C bmB newId mg h:=by
 constructor
 ·exact hm
 ·revert q
  rw[ja]
  split
  ·rename_i dd cd sl ho
   split
   ·rename_i C' bm k0 k1 k2 k3 n k5 e1 e2
    intro q;simp only[beq_iff_eq,aU,Bool.not_eq_true'] at q
    obtain⟨⟨⟨⟨⟨q1,q2⟩,q3⟩,q4⟩,q5⟩,q6⟩:=q;subst q1 q2;obtain⟨nm,bs,mro,ns,qn,hd,sn,sub,ab,col,del⟩:=cd;dsimp only at e1 q3 q5 q6;subst e1 q3;obtain rfl:sl = #[k0,k1,k2,k3,some (.builtin n),k5]:=by
     cases sl;exact congrArg Array.mk e2
    exact⟨bm,ns,nm,qn,bs,hd,sn,sub,ab,col,dd,k0,k1,k2,k3,k5,_,KX _ _ ho,.of_isNs (PySem.W.isNs_of_in KX q5),
     PySem.W.nsMap_none_of_in KX q5 q6,PySem.W.tail_of_in KX q4⟩
   ·intro z;cases z
  ·intro z;cases z
theorem vZ{X:Cx}{x:Str}{C:Addr}{B newId initId:String}{bm:List Value}{np cpos pos:Pos}{E:XK}(L:XL X E)(hg:Gl X x)(O:OwnCls x C bm newId X.mg X.base)
  (FB:ExcBaseFacts B newId initId bm) (hd:(x==("__debug__":Str))=false:=by decide) :
  PS X (.Raise (some (.Call (.Name x np) [] [] cpos)) none pos) (λ _ _ H=>E (.ref C) none H):=by
 intro pins s σ H D I hE
 obtain⟨tl,N,nm,q,bs,hdct,sn,sub,ab,col,dd,k0,k1,k2,k3,k5,mN,hC,hN,hni,T⟩:=O.obj
 refine wpAny_Raise_call_subT (nm:=nm) (q:=q) (C:=C) (N:=N) (bs:=bs) (bm:=tl) (hdct:=hdct) (sn:=sn) (sub:=sub) (ab:=ab) (col:=col) (dd:=dd) (k0:=k0)
  (k1:=k1) (k2:=k2) (k3:=k3) (k5:=k5) FB (mN:=mN) (T.hasType FB.hasBase) (I.ok.hd L.calm) rfl hni (u3 I hg O.bound ⟨rfl,?_⟩ hd)
 refine evalArgs_empty ⟨rfl,bq _,I.bk _ _ hC,hN.keeps I.bk,T.keeps I.bk,λ h' e hm=>?_⟩
 refine L.to _ _ ?_
 have hin:∀env∈X.stack,∀a,env.frame=some a->a∈frs X.stack:=λ env he a ha=>fy.mpr ⟨env,he,ha⟩
 have ff:=PySem.W.funFrames_hide I.stack hin
 rw[L.Ry] at ff
 refine wpAny_leaves_madeW (I.ok.frames.trans (congrArg some L.Ry)) L.fr (λ b o z=>jb _ z) ff hm λ h'' t fl _ _ sl=>?_
 refine⟨e,C,.ref t,_,s.heap,H,rfl,I.os,I.bare,fl,?_,I.hok,(Heap.UpToSlots.of_keeps hm.keeps).trans sl,λ b o eb hb hn=>iW _ eb λ z=>?_,hE⟩
 ·have u:=I.base
  rw[L.ex] at u;exact u
 ·rw[<-L.Ry] at z
  rcases aC.mp (I.Ce b z) with y | y
  ·rcases hb with hb | hb
   ·exact absurd (aM hb I.ok.above) (by rw[y];exact bI _)
   ·rw[y] at hb;exact hb I.free
  ·exact hn y
end L2
end
noncomputable section
namespace L2
open PySem PySem.Spec PyProof.Rows
def Pd(a:Addr)(n:Nat)(h:Heap):Prop:=∃o es ep t,h.get? a=some o/\o.ExactSet/\o.data=.set es ep t/\t.fits es.size=true/\es.size=n/\n<=32768
structure rj(K:aj)(H:Hp)(as:List Addr)(kl:List (List Int)):Prop where
 len:as.length=kl.length
 at_:∀(i:Nat) (a:Addr) (k:List Int),as[i]? = some a->kl[i]? = some k->sQ K H a (k.map V.int)
def ky(k:List Int):List Key:=k.map Sum.inl
theorem GG:∀{a b:List Int},ky a=ky b->a=b
 |[],[],_=>rfl
 |[],_::_,h=>by cases h
 |_::_,[],h=>by cases h
 |x::a,y::b,h=>by
  have h':Sum.inl x::ky a=(Sum.inl y::ky b:List Key):=h
  injection h' with h1 h2
  injection h1 with h1
  rw[h1,GG h2]
section
variable{X:Cx}{pins:List (Addr×Obj)}{σ:St}{H:Hp}{s:Shared}
theorem zq{a:Addr}{k:List Int}(I:Inv X pins σ H s)(h:sQ X.K H a (k.map V.int)):IsTupleKey (lZ X.prog X.w) s.heap (ky k) a:=by
 obtain⟨its,r,⟨o,ho,hc,n,hd⟩,_⟩:=I.tuple h
 refine⟨o,_,n,ho,hc,hd,?_⟩
 have q:Vals ((ky k).map kV) its:=by
  unfold ky;rw[dO];exact r
 simpa using Fi q
theorem MZ(hc:X.calm=true)(hu:X.A.units+64<cLine):uf X (.type "set") (λ vs H Q=>∃(l:Addr) (as:List Addr) (kl:List (List Int)),vs=[.ref l]/\jO X.K H l (as.map V.ref)/\rj X.K H as kl/\kl.length<=32768 /\
  ∀p,H p=none->Q (.ref p) (upd H p (.ext (Pd p (St.dd (kl.map ky)).length)))):=by
 intro pins s σ H xs us Q I r h
 obtain⟨l,as,kl,rfl,hq,T,hn,q⟩:=h
 obtain rfl:=Vals.JG r
 obtain⟨its,r',pl,hz⟩:=I.list hq
 have hlen:=r'.length
 rw[ah] at hlen
 refine St.Pc (knd:=lZ X.prog X.w) (kl:=kl.map ky) (items:=its.toArray) (I.ok.hd hc) (by omega) pl.isList (by simp;rw[<-T.len,hlen]) (by simp;rw[<-hlen,T.len];exact hn) (λ i v hv=>?_) λ h' tk S kp=>?_
 ·have hv:its[i]? = some v:=by simpa using hv
  have hi:i<its.length:=(ao.mp hv).1;have ea:as[i]? = some as[i]:=af (by omega);obtain⟨u,e1,e2⟩:=r'.get (x:=V.ref as[i]) (by rw[ai,ea];rfl);rw[hv] at e1
  cases e1;have hik:i<kl.length:=by rw[<-T.len];omega
  have ek:kl[i]? = some kl[i]:=af hik;exact⟨as[i],ky kl[i],e2,by rw[ai,ek];rfl,zq I (T.at_ i _ _ ea ek)⟩
 ·have hf:H s.heap.objs.size=none:=I.fresh
  have ob:Pd s.heap.objs.size (St.dd (kl.map ky)).length h':=by
   obtain⟨o,es,ep,t,ho,hx,hd,B⟩:=S;refine⟨o,es,ep,t,ho,hx,hd,B.fits,B.len.symm,?_⟩;have:=(St.JQ (kl.map ky)).1;simp at this;omega
  refine⟨.ref s.heap.objs.size,_,I.laid (t':=tk) kp (au _) (o:=.ext (Pd s.heap.objs.size (St.dd (kl.map ky)).length)) ?_,rfl,q _ hf⟩;refine⟨ob,?_,λ h1 h2 a b=>?_⟩
  ·obtain⟨o,_,_,_,ho,_⟩:=ob;exact⟨o,ho⟩
  ·obtain⟨o,es,ep,t,ho,rest⟩:=a;exact⟨o,es,ep,t,b o ho,rest⟩
theorem HV:uf X (.builtin "len") (λ vs H Q=>∃p n,vs=[.ref p]/\H p=some (.ext (Pd p n))/\Q (.int n) H):=by
 intro pins s σ H xs us Q I r h
 obtain⟨p,n,rfl,e,q⟩:=h
 obtain rfl:=Vals.JG r
 obtain⟨⟨o,es,ep,t,ho,hx,hd,hf,en,hn⟩,_⟩:=I.hok p _ e
 subst en
 refine call_len_set ho hx hd hf (by omega) ⟨.int es.size,H,I.tok _,⟨_,rfl⟩,q⟩
end
end L2
end
noncomputable section
namespace L2
open PySem PySem.Spec PyProof.Rows
theorem FA{P P':Program}{w w':World}:∀{ks:List Key}{vs:List Value},ItemsAre (lZ P w) ks vs->ItemsAre (lZ P' w') ks vs
 |_,_,.nil=>.nil
 |_,_,.cons h t=>.cons h (FA t)
theorem Le{P P':Program}{w w':World}{h:Heap}{k:List Key}{a:Addr}(x:IsTupleKey (lZ P w) h k a):IsTupleKey (lZ P' w') h k a:=
 let ⟨o,items,n,a1,a2,a3,a4⟩:=x;⟨o,items,n,a1,a2,a3,FA a4⟩
open Classical in
def WH(P:Program)(w:World)(h:Heap)(k:List Key)(u:Value):Bool:=decide (∃b,u=.ref b/\IsTupleKey (lZ P w) h k b)
theorem CG{P:Program}{w:World}{h:Heap}{k k':List Key}{b:Addr}(x:IsTupleKey (lZ P w) h k' b):WH P w h k (.ref b)=decide (k'=k):=by
 rw[aX]
 simp only[WH,decide_eq_true_eq]
 constructor
 ·rintro⟨b',q,y⟩
  cases q;exact x.inj y
 ·rintro rfl
  exact⟨b,rfl,x⟩
theorem HW{P:Program}{w:World}{A:Around}{s:Shared}{a b:Addr}{k k':List Key}(hu:A.units<cLine)(x:IsTupleKey (lZ P w) s.heap k' b)(y:IsTupleKey (lZ P w) s.heap k a) :
  SeqAt.EqAt A s (.ref b) (.ref a) (WH P w s.heap k (.ref b)):=by
 intro prog w' E Q q
 rw[CG x] at q
 exact wpAny_eqBool_tuple (knd:=lZ prog w') hu (Le x) (Le y) q
section
variable{X:Cx}{pins:List (Addr×Obj)}{σ:St}{H:Hp}{s:Shared}
theorem ur{as:List Addr}{kl:List (List Int)}{its:List Value}(I:Inv X pins σ H s)(T:rj X.K H as kl)(r:Vals (as.map V.ref) its){i:Nat}{u:Value}(h:its[i]? = some u) :
  ∃b k,u=.ref b/\as[i]? = some b/\kl[i]? = some k/\IsTupleKey (lZ X.prog X.w) s.heap (ky k) b:=by
 have hlen:=r.length
 rw[ah] at hlen
 have hi:i<its.length:=(ao.mp h).1
 have ha:i<as.length:=by omega
 have hk:i<kl.length:=by rw[<-T.len];exact ha
 have ea:as[i]? = some as[i]:=af ha
 have ek:kl[i]? = some kl[i]:=af hk
 obtain⟨u',e1,e2⟩:=r.get (x:=V.ref as[i]) (by rw[ai,ea];rfl)
 rw[h] at e1
 cases e1
 exact⟨as[i],kl[i],e2,ea,ek,zq I (T.at_ i _ _ ea ek)⟩
theorem VE(hu:X.A.units+64<cLine):xN X (compareOp .In) (λ x y H Q=>∃(a l:Addr) (k:List Int) (as:List Addr) (kl:List (List Int)),x=.ref a/\sQ X.K H a (k.map V.int)/\y=.ref l/\jO X.K H l (as.map V.ref)/\rj X.K H as kl /\
  Q (.bl (decide (k∈kl))) H):=by
 intro pins s σ H x y v u Q I rx ry h
 obtain⟨a,l,k,as,kl,rfl,ha,rfl,hl,T,q⟩:=h
 cases rx
 cases ry
 have hk:=zq I ha
 obtain⟨its,r,pl,hz⟩:=I.list hl
 have hlen:=r.length
 rw[ah] at hlen
 refine SeqAt.in_listAt (WH X.prog X.w s.heap (ky k)) pl.isList (λ w hw=>?_) ⟨.bl _,H,I,rfl,?_⟩
 ·have hw:w∈its:=by simpa using hw
  obtain⟨i,hi⟩:=cQ hw;obtain⟨b,k',rfl,_,_,z⟩:=ur I T r hi;exact HW (by simp only[Around.in1];omega) z hk
 ·have e:its.toArray.any (WH X.prog X.w s.heap (ky k))=decide (k∈kl):=by
   rw[aX,decide_eq_true_eq];simp only[List.any_toArray,cN]
   constructor
   ·rintro⟨u,VA,e⟩;obtain⟨i,hi⟩:=cQ VA;obtain⟨b,k',rfl,_,ek,z⟩:=ur I T r hi;rw[CG z,decide_eq_true_eq] at e;rw[<-GG e];exact aq ek
   ·intro hm;obtain⟨i,hi⟩:=cQ hm;have hil:i<its.length:=by rw[<-hlen,T.len];exact (ao.mp hi).1
    obtain⟨b,k',e1,_,ek,z⟩:=ur I T r (af hil);rw[hi] at ek
    cases ek;exact⟨its[i],aV hil,by rw[e1,CG z];exact decide_eq_true rfl⟩
  rw[e];exact q
theorem M0(hu:X.A.units+64<cLine):YY X "list.index" (λ x xs H Q=>∃(a l:Addr) (k:List Int) (as:List Addr) (kl:List (List Int)) (j:Nat),x=.ref l/\xs=[.ref a]/\sQ X.K H a (k.map V.int)/\jO X.K H l (as.map V.ref)/\rj X.K H as kl /\
  kl[j]? = some k/\(∀m,m<j->kl[m]?≠some k)/\Q (.int (j:Nat)) H):=by
 intro pins s σ H x xs v us Q I rx rxs h
 obtain⟨a,l,k,as,kl,j,rfl,rfl,ha,hl,T,ej,hno,q⟩:=h
 cases rx
 obtain rfl:=Vals.JG rxs
 have hk:=zq I ha
 obtain⟨its,r,⟨⟨cls,dct,data,sl⟩,n,ho,hc,hdn,hd⟩,hz⟩:=I.list hl
 simp only at hc hd
 subst hc hd
 have hlen:=r.length
 rw[ah] at hlen
 have hjk:j<kl.length:=(ao.mp ej).1
 have hji:j<its.length:=by rw[<-hlen,T.len];exact hjk
 have hsl:=sizeLine_eq
 rw[ah] at hz
 refine call_meets ig ⟨_,ho,rfl⟩ PySem.F.entry_list_index (PySem.F.args_list_index_2 _ _)
  (SeqAt.list_indexAt l its.toArray n dct sl (.ref a) (WH X.prog X.w s.heap (ky k)) j (by simpa using hji) (by omega) ?_ ?_) ⟨ho,λ u' VA=>?_,⟨.int (j:Nat),H,I.tok _,⟨_,rfl⟩,q⟩⟩
 ·obtain⟨b,k',e1,_,ek,z⟩:=ur I T r (af hji)
  rw[ej] at ek
  cases ek;have e2:its.toArray[j]'(by simpa using hji)=.ref b:=by simpa using e1
  rw[e2,CG z];exact decide_eq_true rfl
 ·intro m hm hmj
  have hml:m<its.length:=by simpa using hm
  obtain⟨b,k',e1,_,ek,z⟩:=ur I T r (af hml);have e2:its.toArray[m]'hm=.ref b:=by simpa using e1
  rw[e2,CG z];refine decide_eq_false λ e=>hno m hmj ?_
  rw[ek,GG e]
 ·have VA:u'∈its:=by simpa using VA
  obtain⟨i,hi⟩:=cQ VA;obtain⟨b,k',rfl,_,_,z⟩:=ur I T r hi;exact HW (by simp only[Around.in1];omega) z hk
end
end L2
end
noncomputable section
namespace L2
open PySem PySem.Spec PyProof.Rows
structure xY(K:aj)(mg:Str->Option Value)(x qual:Str)(st:Stmt)(ps:List Str)(f:Addr)(fd:FuncData):Prop where
 fn:Vt K x qual st f fd
 bd:Binds K fd ps []
 mg:mg x=some (.ref f)
structure Met(K:aj)(x qual:Str)(st:Stmt)(ps:List Str)(C f:Addr)(fd:FuncData):Prop where
 fn:Vt K x qual st f fd
 bd:Binds K fd ps []
 me:Meth K C x f
structure Ut(K:aj)(mg:Str->Option Value)(x:Str)(C:Addr):Prop where
 cl:NW K C
 mg:mg x=some (.ref C)
 makes:iH K C=true
 kp:eE K (.ref C)=true
structure Exc(K:aj)(mg:Str->Option Value)(x:Str)(C:Addr):Prop where
 mg:mg x=some (.ref C)
 ex:ja K C [.type "Exception",.type "BaseException",.type "object"] "Exception.__new__" = true
def yf(mg:Str->Option Value)(x:Str)(v:V):Prop:=∃u,mg x=some u/\RelV v u
def mz(K:aj)(C D:Addr):Prop:=∃c d cd sl,K.lookup C=some ⟨c,d,.cls cd,sl⟩/\cd.mro.contains (.ref D)=false
theorem xl_of{P:Program}{w:World}{K:aj}{mg:Str->Option Value}{base:Heap}{N:List Str}{qual:Str}{scope:Scope}{f:Addr}{cd:Value}{A:Around}{outer:List Env}{s:Shared}{H:Hp}{E:XK} :
  XL (Cu (yT P w) P w K mg base N qual scope f cd A outer s H E) E:=⟨rfl,rfl,rfl,rfl,λ _ _ h=>h⟩
theorem nj{P:Program}{w:World}{K:aj}{mg:Str->Option Value}{base:Heap}{N:List Str}{qual:Str}{scope:Scope}{f:Addr}{cd:Value}{A:Around}{outer:List Env}{s:Shared}{H:Hp}{E:XK} :
  PassesOwn (model P w) (A.deeper (envOfC qual scope s.heap.objs.size f cd)) (envOfC qual scope s.heap.objs.size f cd) (Cu (yT P w) P w K mg base N qual scope f cd A outer s H E).xe:=
 PassesOwn.leaving (Q₁:=λ e s''=>yT P w outer H s E e s'') (E₁:=λ e s''=>yT P w outer H s E e s'')
section
variable{P:Program}{w:World}{K:aj}{mg:Str->Option Value}{base:Heap}
theorem Vt.rm{x qual:Str}{st:Stmt}{f:Addr}{fd:FuncData}{N ps:List Str}{k:Nat}{sp:Sp}(F:Vt K x qual st f fd)(S:jJ N ps (jD st))(len:∀vs H Q E,sp vs H Q E->vs.length=ps.length)
  (hbody:∀(cdv:Value) (A:Around) (outer:List Env) (s:Shared) (H:Hp) (vs:List V) (Q:VK) (E:XK),nT k (A.deeper (envOfC qual (jD st) s.heap.objs.size f cdv))->sp vs H Q E ->
   ∃t,N7 (Cu (yT P w) P w K mg base N qual (jD st) f cdv A outer s H E) (sR st) t/\t { nx:=λ _ H'=>Q .qZ H',rt:=Q } (start N vs) H):AB P w K mg base (yT P w) (k+1) f fd ps sp:=by
 obtain⟨oc,od,kV,doc,pm,an,cdv,ct,osl,rfl,lk,hcd⟩:=F.ex
 exact Xj lk hcd S len λ A outer s H vs Q E hr YX=>hbody cdv A outer s H vs Q E hr YX
end
section
variable{X:Cx}{x:Str}{pos p:Pos}{C f:Addr}{fd:FuncData}{qual:Str}{st:Stmt}{ps:List Str}{k:Nat}{sp:Sp}{E:XK}{e o:Expr}{es:List Expr}{t:TA}{ta:TE}{apos:Pos}
theorem kO{v:V}(h:yf X.mg x v)(hg:Gl X x)(hd:(x==("__debug__":Str))=false:=by decide):PE X (.Name x pos) (tC v):=let ⟨_,a,b⟩:=h;RB hg a b hd
theorem j6(G:xY X.K X.mg x qual st ps f fd)(F:AB X.prog X.w X.K X.mg X.base (yT X.prog X.w) k f fd ps sp)(hr:nT k X.A)(hg:Gl X x)(hx:qK (yT X.prog X.w) X E)(ha:PA X (e::es) t)(hdb:(x==("__debug__":Str))=false:=by decide)
  (he:starEach (e::es) X.env=(false,eval e X.env)::starEach es X.env:=by rfl) (hpl:(backTo pos (starEach es X.env)).any (·.1)=false:=by rfl):PE X (.Call (.Name x p) (e::es) [] pos) (KQ sp [] E t):=
 RP F hr hg G.mg G.fn.kp G.bd .nil hx ha hdb he hpl
theorem rP{pl:Sem Bool}(L:Ut X.K X.mg x C){m:Str}(M:Met X.K m qual st ps C f fd)(F:AB X.prog X.w X.K X.mg X.base (yT X.prog X.w) k f fd ps sp)(hr:nT k X.A)(hx:qK (yT X.prog X.w) X E)(ho:PE X o ta)(ha:PA X (e::es) t)
  (hst:starEach (e::es) X.env=(false,eval e X.env)::starEach es X.env:=by rfl) (hpl:(backTo pos (starEach es X.env)).any (·.1)=false:=by rfl)
  (ht:eval (.Call (.Attribute o m apos) (e::es) [] pos) X.env=(do
   let ov <-eval o X.env
   standAt apos.atName
   let (f,first) <-holding [ov] (getMethod ov m pl)
   callWith pos f first (backTo pos (starEach (e::es) X.env)) (backToKw pos (keywordEach [] X.env))):=by rfl) :
  PE X (.Call (.Attribute o m apos) (e::es) [] pos) (KR C m sp [] E ta t):=RQ ho L.cl M.me F hr M.bd .nil hx ha hst hpl ht
theorem mh{pl:Sem Bool}(L:Ut X.K X.mg x C){m:Str}(M:Met X.K m qual st ps C f fd)(F:AB X.prog X.w X.K X.mg X.base (yT X.prog X.w) k f fd ps sp)(hr:nT k X.A)(hx:qK (yT X.prog X.w) X E)(ho:PE X o ta)
  (ht:eval (.Call (.Attribute o m apos) [] [] pos) X.env=(do
   let ov <-eval o X.env
   standAt apos.atName
   let (f,first) <-holding [ov] (getMethod ov m pl)
   callWith pos f first (backTo pos (starEach [] X.env)) (backToKw pos (keywordEach [] X.env))):=by rfl) :
  PE X (.Call (.Attribute o m apos) [] [] pos) (KR C m sp [] E ta Hz):=OA ho L.cl M.me F hr M.bd .nil hx ht
theorem CH(L:Ut X.K X.mg x C)(M:Met X.K "__init__" qual st ps C f fd)(F:AB X.prog X.w X.K X.mg X.base (yT X.prog X.w) k f fd ps sp)(hr:nT (k+1) X.A)(hg:Gl X x)(hx:qK (yT X.prog X.w) X E)(ha:PA X (e::es) t)
  (hdb:(x==("__debug__":Str))=false:=by decide) (he:starEach (e::es) X.env=(false,eval e X.env)::starEach es X.env:=by rfl) (hpl:(backTo pos (starEach es X.env)).any (·.1)=false:=by rfl) :
  PE X (.Call (.Name x p) (e::es) [] pos) (Uo C sp [] E t):=RS ⟨L.makes,M.me.at_,M.me.fn,L.kp⟩ F hr hg L.mg M.bd .nil hx ha hdb he hpl
end
end L2
end
noncomputable section
namespace L2
open PySem PySem.Spec PyProof.Rows
open PySem.W (kla_fn envX)
def HX(P:Program)(w:World)(K:aj)(mg:Str->Option Value)(base:Heap)(N:List Str)(qual:Str)(scope:Scope)(f:Addr)(cd:Value)(cl:List (Str×Addr))(A:Around)(outer:List Env)(s:Shared)(H:Hp)(E:XK):Cx where
 prog:=P
 w:=w
 K:=K
 mg:=mg
 base:=base
 A:=A.deeper (envX qual scope s.heap.objs.size f cd cl)
 N:=N
 Ey:=s
 Ub:=H
 env:=envX qual scope s.heap.objs.size f cd cl
 outer:=outer
 stack:=envX qual scope s.heap.objs.size f cd cl::outer
 ex:=[]
 calm:=true
 fn:=λ _=>false
 pn:=[]
 xe:=λ e s'=>wpAny (model P w) (A.deeper (envX qual scope s.heap.objs.size f cd cl)) (leaving (envX qual scope s.heap.objs.size f cd cl) e) (λ _ s''=>yT P w outer H s E e s'') (λ e' s''=>yT P w outer H s E e' s'') s'
theorem VF{P:Program}{w:World}{K:aj}{mg:Str->Option Value}{base:Heap}{N:List Str}{qual:Str}{scope:Scope}{f:Addr}{cd:Value}{cl:List (Str×Addr)}{A:Around}{outer:List Env}{s:Shared}{H:Hp}{E:XK} :
  XL (HX P w K mg base N qual scope f cd cl A outer s H E) E:=⟨rfl,rfl,rfl,rfl,λ _ _ h=>h⟩
structure XI(scope:Scope)(cl:List (Str×Addr))(H:Hp)(h:Heap)(N:List Str)(vs:List V):Prop where
 kind:scope.kind=.function
 Pe:∀x∈scope.names,x.2≠.cell
 inj:∀x y c,cl.lookup x=some c->cl.lookup y=some c->x=y
 has:∀x,scope.names.lookup x=some .free->∃c,cl.lookup x=some c
 cell:∀x c,cl.lookup x=some c->(∃v,h.IsCell c v)/\H c=none
 len:vs.length=N.length
 val:∀(i:Nat) (x:Str) (v:V),N[i]? = some x->vs[i]? = some v->scope.names.lookup x=some .free/\∃u c,RelV v u/\cl.lookup x=some c/\h.IsCell c (some u)
section
variable{P:Program}{w:World}{K:aj}{mg:Str->Option Value}{base:Heap}
theorem Sl{N:List Str}{qual:Str}{scope:Scope}{f:Addr}{cd:Value}{cl:List (Str×Addr)}{A:Around}{outer:List Env}{s:Shared}{H:Hp}{E:XK}{vs:List V}{h1:Heap}{tk:Tok}
  (C:XI scope cl H s.heap N vs) (hd:A.handled=none) (e0:AA P w K mg base A outer s H) (hns:h1.Ns s.heap.objs.size λ _=>none) (hk:∀b o,s.heap.get? b=some o->h1.get? b=some o) :
  Inv (HX P w K mg base N qual scope f cd cl A outer s H E) [] (vs.map some) H { s with heap:=h1,toks:=tk }:=by
 have RT:∀b:Addr,b ∉ (HX P w K mg base N qual scope f cd cl A outer s H E).ex:=λ b z=>absurd (show b∈([]:List Addr) from z) (by simp)
 have ck:∀c v,s.heap.IsCell c v->h1.IsCell c v:=λ c v ⟨o,ho,hd⟩=>⟨o,hk _ _ ho,hd⟩
 refine⟨⟨e0.mod,C.kind,rfl,rfl,au _,λ y z c h1 h2=>C.inj y z c h1 h2,λ y hy=>?_,λ y c h=>absurd (show false=true from h) aP,λ _=>hd,Around.frames_deeper e0.frames,.inr ⟨rfl,rfl⟩,λ b z=>absurd z (RT b),e0.bs,e0.Rn,λ b _ _=>RT b,λ b z=>absurd z (RT b),e0.BI,e0.U4⟩,
  rfl,e0.bare,Un.kept hk,⟨_,hns,λ i y v h1 h2 h3=>?_⟩,λ y c h=>?_,e0.hok.fresh (au _),λ y c h=>(C.cell y c h).2,λ p hp=>absurd (show p∈([]:List (Addr×Obj)) from hp) (by simp),e0.hok.kept hk,?_⟩
 ·have hy:scope.names.lookup y=some .cell\/scope.names.lookup y=some .free:=hy
  rcases hy with hy | hy
  ·exact absurd rfl (C.Pe _ (aT hy))
  ·exact C.has y hy
 ·rw[ai] at h2
  cases e:vs[i]? with
  |none=>rw[e] at h2;cases h2
  |some v'=>
   rw[e] at h2
   cases h2;obtain⟨a,u,c,r,b,d⟩:=C.val i y v h1 e;exact⟨u,r,.inr ⟨.inr a,c,b,ck _ _ d⟩⟩
 ·obtain⟨⟨v,z⟩,_⟩:=C.cell y c h
  exact⟨v,ck _ _ z⟩
 ·rw[ah];exact C.len
theorem Sm{N:List Str}{name qual:Str}{params:Arguments}{body:Expr}{scope:Scope}{f:Addr}{pm cd ct:Value}{cl:List (Str×Addr)}{A:Around}{outer:List Env}{s:Shared}{H:Hp}{Q:VK}{E:XK}{vs:List V}{k:Nat}{o:Obj}{t:TE}
  (hr:nT (k+1) A) (C:XI scope cl H s.heap N vs) (e0:AA P w K mg base A outer s H) (ho:s.heap.get? f=some o) (hdt:o.data=.func (kla_fn name qual params body scope cl pm cd ct)) (hcd:s.heap.CodeRec cd qual)
  (hco:scope.isCoroutine=false) (hgen:scope.isGenerator=false) (hbind:bindArgs (kla_fn name qual params body scope cl pm cd ct) ⟨[],[]⟩=pure [])
  (ht:nT k (A.deeper (envX qual scope s.heap.objs.size f cd cl))->PE (HX P w K mg base N qual scope f cd cl A outer s H E) body t) (hq:t (vs.map some) H Q) :
  codeAny (model P w) A (.call (.ref f) ⟨[],[]⟩) (CR (yT P w) outer P w H s Q E) s:=by
 have lim:s.heap.NoLimit:=e0.mod.nolimit.keeps λ b o e=>(e0.bs b o e).1
 refine PySem.W.kla_callFunE hr.depth ho hdt hco hgen rfl hcd ?_
 rw[hbind]
 refine wpAny_pure (wpAny_newFunctionEnv C.Pe (λ x hx=>nomatch hx) (λ h1 hns hsb=>⟨lim.fresh _ hsb,?_⟩) C.kind)
 have hk:∀b o,s.heap.get? b=some o->h1.get? b=some o:=λ b o e=>hsb.extBut b o (aZ (Heap.lt_size e)) (Heap.get?_push_of_some _ e)
 have I:Inv (HX P w K mg base N qual scope f cd cl A outer s H E) [] (vs.map some) H { s with heap:=h1,toks:=s.toks+0 }:=Sl C hr.hd e0 hns hk
 exact PySem.W.kla_codeExpr (wpAny_mono (ht (hr.deeper _) [] _ _ H Q I hq) (λ v s' ⟨x,H',J,rv,q⟩=>⟨x,H',J.os,J.bare,J.base,J.hok,rv,q⟩) λ _ _ h=>h)
theorem Pf{k:Nat}{f:Addr}{name qual:Str}{params:Arguments}{body:List Stmt}{scope:Scope}{dV kV doc pm cdv ct oc:Value}{an od:Option Addr}{osl:Array (Option Value)}{N ps:List Str}
  {A:Around} {outer:List Env} {s:Shared} {H:Hp} {args:Args} {us:List Value} {vs:List V} {R:Result->Shared->Prop} {E:XK}
  (lk:K.lookup f=some ⟨oc,od,.func (dM name qual params body scope dV kV doc pm an cdv ct),osl⟩) (hcd:gB K cdv qual=true) (S:jJ N ps scope)
  (hl:vs.length=ps.length) (hr:nT (k+1) A) (e0:AA P w K mg base A outer s H) (hb:BindsTo s (dM name qual params body scope dV kV doc pm an cdv ct) args (ps.zip us)) (r:Vals vs us)
  (hbody:∀s1,nT k (A.deeper (envOfC qual scope s.heap.objs.size f cdv))->Inv (Cu (yT P w) P w K mg base N qual scope f cdv A outer s H E) [] (start N vs) H s1->(∀b o,s.heap.get? b=some o->s1.heap.get? b=some o) ->
   wpAny (model P w) (A.deeper (envOfC qual scope s.heap.objs.size f cdv)) (execs body (envOfC qual scope s.heap.objs.size f cdv)) (λ fl s'=>match fl with
    |.ret u=>R (.ok (.ret u)) s'
    |.next=>R (.ok (.ret .none)) s'
    |_=>False) (λ e s'=>wpAny (model P w) (A.deeper (envOfC qual scope s.heap.objs.size f cdv)) (leaving (envOfC qual scope s.heap.objs.size f cdv) e) (λ _ s''=>R (.error e) s'') (λ e' s''=>R (.error e') s'') s') s1) :
  codeAny (model P w) A (.call (.ref f) args) R s:=by
 have KX:K.In s.heap:=e0.mod.Ua.keeps λ b o e=>(e0.bs b o e).1
 have lim:s.heap.NoLimit:=e0.mod.nolimit.keeps λ b o e=>(e0.bs b o e).1
 have hkind:∀y∈ps.zip us,scope.names.lookup y.1=some .local\/(scope.names.lookup y.1=some .cell/\((cellsFrom (s.heap.objs.size+1) scope.names []).lookup y.1).isSome=true):=λ⟨n,v⟩ hy=>by
  rcases S.ZH n (gh hy).1 with q | q
  ·exact .inl q
  ·exact .inr ⟨q,fH _ _ _ (.inl q)⟩
 refine codeAny_call_function hr.depth (KX _ _ lk) rfl S.co S.gen rfl (jd KX hcd) (hb _ _ _ _ ?_)
 refine wpAny_newFunctionEnv_cells S.kind hkind λ env he s1 x=>?_
 subst he
 refine⟨lim.keeps x.toInCall.keep,codeAny_func ?_⟩
 have I:Inv (Cu (yT P w) P w K mg base N qual scope f cdv A outer s H E) [] (start N vs) H s1:=Fg S hr.hd e0 hl r x
 refine wpAny_mono (hbody s1 (hr.deeper _) I x.toInCall.keep) (λ fl s' hs=>?_) λ e s' hs=>hs
 cases fl with
 |ret u=>exact hs
 |next=>exact hs
 |brk=>exact False.elim hs
 |cont=>exact False.elim hs
end
end L2
end
noncomputable section
namespace L2
open PySem PySem.Spec PyProof.Rows
section
variable{M:Model}{A:Around}{E:Value->Shared->Prop}
theorem Pg{h:Heap}{g:Array GenState}{dr:Drawn}{tk:Nat}{os:OsState}{e C D N N':Addr}{oe:Obj}{nm q WI q':Str}{bs bm bs' bm' sub sub':List Value}{hdct Uu ab ab':Bool}{sn sn':List Str}{col col':Option Bool}{dd dd':Option Addr}{k0 k1 k2 k3 k5 l0 l1 l2 l3 l5:Option Value}{ni ni':String}{Q:Bool->Shared->Prop}{b:Bool}
  (hC:h.get? C=some (excClassObj nm q C N bs bm hdct sn sub ab col dd k0 k1 k2 k3 k5 ni)) (hD:h.get? D=some (excClassObj WI q' D N' bs' bm' Uu sn' sub' ab' col' dd' l0 l1 l2 l3 l5 ni'))
  (he:h.get? e=some oe) (hcls:oe.cls=.ref C) (hbase:bm'.contains (.type "BaseException")=true) (hb:(Value.ref C::bm).contains (.ref D)=b)
  (hq:Q b ⟨h,g,dr,tk,os⟩):wpAny M A (excMatches (.ref e) (.ref D)) Q E ⟨h,g,dr,tk,os⟩:=by
 have hB:(Value.ref D::bm').contains (.type "BaseException")=true:=by rw[List.contains_cons,hbase,Bool.or_true]
 have f:=tc_notTuple
 unfold excMatches
 repeat (first
  | (with_reducible refine wpAny_loadPart_at he ?_;rw[hcls])
  |with_reducible refine wpAny_loadPart_at hD ?_
  | (with_reducible refine wpAny_isSubtype_exc hD ?_;rw[hB])
  | (with_reducible refine wpAny_isSubtype_exc hC ?_;rw[hb])
  |wp_step)
 cases b<;>(wp_walk;exact hq)
end
section
variable{X:Cx}{pins:List (Addr×Obj)}{σ:St}{H H1:Hp}{s s':Shared}
theorem Inv.VG{a:Addr}{cls a0:Value}{B h1 h6:Heap}{tk:Tok}(I:Inv X pins σ H s)(os:s'.os=s.os)(bare:AllBare s'.gens)(fl:Heap.FlyingW B X.stack a cls a0 h6)
  (un:Un (frs X.stack) [] H H1 s.heap h1) (hok:Ax X.prog X.w H1 h1) (sl:h1.UpToSlots h6)
  (cond:∀b o,h1.get? b=some o->(b<s.heap.objs.size\/H1 b≠none)->b ∉ frs X.stack->B.get? b=some o):Inv X pins σ H1 { s' with heap:=h6,toks:=tk }:=by
 have fr:∀b o,b∈frs X.stack->s.heap.get? b=some o->∀vs,o.data≠.fields vs:=λ b o hb e=>by
  obtain⟨_,o',ho,hd⟩:=I.stack.mem hb;rw[e] at ho
  cases ho;exact hd
 have frn:∀b∈frs X.stack,H1 b=none:=λ b hb=>by
  obtain⟨_,o',ho,hd⟩:=I.stack.mem hb;exact un.free b o' ho (I.BW b hb) (by simp)
 have u6:Un (frs X.stack) [] H H1 s.heap h6:=by
  refine⟨λ b o e n hb hx=>?_,λ b o e n hb hx=>?_,un.free,λ b o e hx=>?_,un.tups,un.Ew,un.Ex⟩
  ·exact fl.1 b o (cond b o (un.keep b o e n hb hx) (.inl (Heap.lt_size e)) hb)
  ·obtain⟨sl1,e1⟩:=un.slot b o e n hb hx;obtain⟨sl2,e2⟩:=sl b _ e1 (fr b o hb e);exact⟨sl2,e2⟩
  ·by_cases hb:b∈frs X.stack
   ·obtain⟨sl1,e1⟩:=un.slot b o e (I.BW b hb) hb hx;obtain⟨sl2,e2⟩:=sl b _ e1 (fr b o hb e);exact⟨_,e2⟩
   ·obtain⟨o',e1⟩:=un.there b o e hx;exact⟨o',fl.1 b o' (cond b o' e1 (.inl (Heap.lt_size e)) hb)⟩
 have Z3:Ax X.prog X.w H1 h6:=λ b o e=>(hok b o e).stay (λ c v hc q=>by
  have nn:H1 c≠none:=by
   rcases hc with rfl | hc
   ·rw[e];simp
   ·rw[hc];simp
  exact fl.1 c v (cond c v q (.inr nn) λ hm=>nn (frn c hm))) (λ _ q=>q) λ _ _ q=>q
 have J:=I.call (h':=h6) (g':=s'.gens) (t':=tk) (d':=s'.drawn) (ch:=[]) u6 Z3 bare (λ b z=>absurd z (by simp))
 obtain⟨hh,g,d,t,os'⟩:=s'
 obtain rfl:os'=s.os:=os
 exact J
abbrev Cx.held(X:Cx)(e:Value)(E:Value->Shared->Prop):Cx:={ X with A:=X.A.mark (some e),calm:=false,xe:=E }
theorem Inv.held(I:Inv X pins σ H s)(e:Value)(E:Value->Shared->Prop):Inv (X.held e E) pins σ H s:=
 ⟨⟨I.ok.mod,I.ok.kind,I.ok.glob,I.ok.blt,I.ok.above,I.ok.inj,I.ok.has,I.ok.YQ,λ z=>absurd (show false=true from z) aP,I.ok.frames,I.ok.Ry,I.ok.Zo,I.ok.bs,I.ok.Rn,I.ok.Rz,I.ok.RA,I.ok.BI,I.ok.U4⟩,
  I.os,I.bare,I.base,I.loc,I.cell,I.free,I.vD,I.pin,I.hok,I.len⟩
theorem Inv.AH{e:Value}{E:Value->Shared->Prop}(ok:X.Ok)(I:Inv (X.held e E) pins σ H s):Inv X pins σ H s:=
 ⟨ok,I.os,I.bare,I.base,I.loc,I.cell,I.free,I.vD,I.pin,I.hok,I.len⟩
theorem SP.AH{e:Value}{E:Value->Shared->Prop}{D:Ends}{f:Flow}(ok:X.Ok)(h:SP (X.held e E) pins D f s'):SP X pins D f s':=by
 cases f with
 |next=>obtain⟨σ',H',I,q⟩:=h;exact⟨σ',H',I.AH ok,q⟩
 |brk=>obtain⟨σ',H',I,q⟩:=h;exact⟨σ',H',I.AH ok,q⟩
 |cont=>obtain⟨σ',H',I,q⟩:=h;exact⟨σ',H',I.AH ok,q⟩
 |ret u=>obtain⟨v,σ',H',I,rv,q⟩:=h;exact⟨v,σ',H',I.AH ok,rv,q⟩
theorem Sn{K:aj}{h:Heap}{C D N:Addr}{nm q:Str}{bs bm sub:List Value}{hdct ab:Bool}{sn:List Str}{col:Option Bool}{dd:Option Addr}{k0 k1 k2 k3 k5:Option Value}{ni:String}(KX:K.In h)(n:mz K C D)
  (hC:h.get? C=some (excClassObj nm q C N bs bm hdct sn sub ab col dd k0 k1 k2 k3 k5 ni)):(Value.ref C::bm).contains (.ref D)=false:=by
 obtain⟨c,d,cd,sl,e1,e2⟩:=n
 have e3:=KX _ _ e1
 rw[hC] at e3
 have e4:=aW e3
 unfold excClassObj at e4
 injection e4 with _ _ e5 _
 injection e5 with e6
 rw[<-e6] at e2
 exact e2
section
variable{e C D:Addr}{x y:Str}{np pos:Pos}{b0:Stmt}{suite:List Stmt}{rest:List ExceptHandler}{Ds:Ends}{B1 B2 n1 n2 i1 i2:String}{Z4 bm2:List Value}{B:Heap}{a0:Value}
theorem miss(I:Inv X pins σ H s)(fl:Heap.FlyingW B X.stack e (.ref C) a0 s.heap)(hg:Gl X x)(OC:OwnCls y C Z4 n1 X.mg X.base)(OD:OwnCls x D bm2 n2 X.mg X.base)(FD:ExcBaseFacts B2 n2 i2 bm2)(hn:mz X.K C D)
  (h:wpAny (model X.prog X.w) X.A (handleBy (.ref e) X.env rest) (SP X pins Ds) X.xe s) (hd:(x==("__debug__":Str))=false:=by decide) :
  wpAny (model X.prog X.w) X.A (handleBy (.ref e) X.env (.ExceptHandler (some (.Name x np)) none (b0::suite) pos::rest)) (SP X pins Ds) X.xe s:=by
 obtain⟨oe,he,hcls⟩:=fl.there
 obtain⟨tl,N,nm,q,bs,hdct,sn,sub,ab,col,dd,k0,k1,k2,k3,k5,mN,hC,_,_,_⟩:=OC.obj
 obtain⟨tl',N',WI,q',bs',Uu,sn',sub',ab',col',dd',l0,l1,l2,l3,l5,mN',hD,_,_,T'⟩:=OD.obj
 refine wpAny_handleBy_cons (codeAny_handlers_test ?_) (by intro z;cases z)
 refine u3 (I.held (.ref e) λ _ _=>True) hg OD.bound ?_ hd
 obtain⟨hp,g,dr,tk,os⟩:=s
 exact Pg (I.bk _ _ hC) (I.bk _ _ hD) he hcls (T'.hasType FD.hasBase) (Sn I.Jj hn (I.bk _ _ hC)) h
theorem hit{t:TS}(I:Inv X pins σ H s)(fl:Heap.FlyingW B X.stack e (.ref C) a0 s.heap)(hg:Gl X x)(OC:OwnCls x C Z4 n1 X.mg X.base)(FC:ExcBaseFacts B1 n1 i1 Z4)
  (hs:∀E,N7 (X.held (.ref e) E) (b0::suite) t) (h:t Ds σ H) (again:∀h6,Heap.FlyingW B X.stack e (.ref C) a0 h6->s.heap.UpToSlots h6->Inv X pins σ H { s with heap:=h6 }) (hd:(x==("__debug__":Str))=false:=by decide) :
  wpAny (model X.prog X.w) X.A (handleBy (.ref e) X.env (.ExceptHandler (some (.Name x np)) none (b0::suite) pos::rest)) (SP X pins Ds) X.xe s:=by
 obtain⟨oe,he,hcls⟩:=fl.there
 obtain⟨tl,N,nm,q,bs,hdct,sn,sub,ab,col,dd,k0,k1,k2,k3,k5,mN,hC,_,_,T⟩:=OC.obj
 refine wpAny_handleBy_cons (codeAny_handlers_test ?_) (by intro z;cases z)
 refine u3 (I.held (.ref e) λ _ _=>True) hg OC.bound ?_ hd
 obtain⟨hp,g,dr,tk,os⟩:=s
 refine Pg (b:=true) (I.bk _ _ hC) (I.bk _ _ hC) he hcls (T.hasType FC.hasBase) (by simp) (codeAny_handlers_suite (lands_againW fl λ h6 Z5 Z6=>?_))
 have J:=again h6 Z5 Z6
 exact wpAny_mono (hs _ pins _ σ H Ds (J.held (.ref e) _) h) (λ f s2 z=>z.AH I.ok) λ _ _ z=>z
end
theorem Sq{E:Value->Shared->Prop}{i:Nat}{x:Str}{v:V}{pos:Pos}{Q:Value->Shared->Prop}(I:Inv X pins σ H s)(hN:X.N[i]? = some x)(hv:Rw X.env.scope x)(hσ:σ[i]? = some (some v))(h:∀u,RelV v u->Q u s)
  (hd:(x==("__debug__":Str))=false) (hcd:(x==("__classdict__":Str))=false):wpAny (model X.prog X.w) X.A (eval (.Name x pos) X.env) Q E s:=by
 obtain⟨m,hn,hl⟩:=I.loc
 obtain⟨u,r,l⟩:=hl i x v hN hσ hv
 rcases l with ⟨k,hm⟩ | ⟨k | k,c,hc,z⟩
 ·exact wpAny_Name (wpAny_loadName_local I.ok.kind k hn hm (h u r)) hd
 ·exact wpAny_Name (wpAny_loadName_cell I.ok.kind k hc z (h u r)) hd
 ·exact wpAny_Name (wpAny_loadName_free I.ok.kind k hc z (h u r) hcd) hd
theorem Ph{Ds:Ends}{x:Str}{np cp rp pos:Pos}{h0:ExceptHandler}{hs:List ExceptHandler}{i:Nat}{p:Addr}{o:Obj}{fd:FuncData}{E:XK}(I:Inv X pins σ H s)(hL:X.stack=X.env::X.outer)(hfr:X.env.frame=some X.env.locals)(hN:X.N[i]? = some x)
  (hv:Rw X.env.scope x) (hσ:σ[i]? = some (some (.ref p))) (ho:s.heap.get? p=some o) (hd:o.data=.func fd)
  (run:codeAny (model X.prog X.w) X.A (.call (.ref p) ⟨[],[]⟩) (CR (yT X.prog X.w) X.stack X.prog X.w H s Ds.rt E) s)
  (land:∀(a C:Addr) (a0:Value) (B h3:Heap) (s':Shared) (H1:Hp),Heap.FlyingW B X.stack a (.ref C) a0 h3->(∀h6,Heap.FlyingW B X.stack a (.ref C) a0 h6->h3.UpToSlots h6->Inv X pins σ H1 { s' with heap:=h6 })->E (.ref C) none H1 ->
   wpAny (model X.prog X.w) X.A (handleBy (.ref a) X.env (h0::hs)) (SP X pins Ds) X.xe { s' with heap:=h3 })
  (hdb:(x==("__debug__":Str))=false:=by decide) (hcd:(x==("__classdict__":Str))=false:=by decide) :
  wpAny (model X.prog X.w) X.A (exec (.Try [.Return (some (.Call (.Name x np) [] [] cp)) rp] (h0::hs) [] [] pos) X.env) (SP X pins Ds) X.xe s:=by
 refine wpAny_Try_except (wpAny_execs_cons (wpAny_Return_some ?_))
 refine wpAny_Call_Name_kw ?_
 refine Sq I hN hv hσ (λ u ru=>?_) hdb hcd
 obtain rfl:u=Value.ref p:=ru
 refine callWith_meth0 hd ho (wpAny_call (codeAny_mono run λ r s' hq=>?_))
 cases r with
 |ok f=>
  cases f with
  |ret u=>
   obtain⟨v,H',I',rv,q⟩:=I.after hq;exact⟨v,σ,H',I',rv,q⟩
  |next=>exact False.elim hq
  |brk=>exact False.elim hq
  |cont=>exact False.elim hq
 |error e=>
  obtain⟨a,C,a0,B,h1,H1,rfl,os,bare,fl,un,hok,sl,cond,hE⟩:=hq;have hst:X.A.frames=some (X.env::X.outer):=I.ok.frames.trans (congrArg some hL);rw[hL] at fl;refine wpAny_looks_onW hst hfr fl λ h2 Z2 sl2=>wpAny_landsW Z2 λ h3 fl3 sl3=>?_
  rw[<-hL] at fl3;exact land a C a0 B h3 s' H1 fl3 (λ h6 Z5 Z6=>Inv.VG (tk:=s'.toks) I os bare Z5 un hok (((sl.trans sl2).trans sl3).trans Z6) cond) hE
end
end L2
end
noncomputable section
namespace L2
open PySem PySem.Spec PyProof.Rows
open PySem.W (kla_fn kla_obj envX CodeHd tabObj)
section
variable{X:Cx}{pins:List (Addr×Obj)}{σ:St}{H:Hp}{s:Shared}
theorem Inv.grown{T:Addr}{ps more:Array Value}{h':Heap}{tk:Tok}(I:Inv X pins σ H s)(hT:H T=some (.Gr ps))(ext:Heap.ExtBut T s.heap h')(new:h'.get? T=some (tabObj (ps++more))) :
  Inv X pins σ (upd H T (.Gr (ps++more))) { s with heap:=h',toks:=tk }:=by
 have ne:∀b,H b=none->b≠T:=λ b e z=>by rw[z,hT] at e;cases e
 have nx:∀b u,H b=some u->(∀q,u≠.Gr q)->b≠T:=λ b u e hu z=>by rw[z,hT] at e;cases e;exact hu _ rfl
 refine I.step (g':=s.gens) (d':=s.drawn) (ch:=[]) (λ _ z=>nomatch z) (λ b o _ _ _ e n=>ext b o (ne b n) e) (λ b o _ _ _ e n=>⟨o.slots,ext b o (ne b n) e⟩) (λ b o _ e n=>by rw[jA (ne b n)];exact n) (λ b o _ e=>?_)
  (λ b xs e=>by rw[jA (nx b _ e λ _ z=>by cases z)];exact e) (λ b o u e=>by rw[jA (nx b _ e λ _ z=>by cases z)];exact e) (λ b q e=>?_) (λ m hm=>hm.extBut ext (ne _ I.free)) (λ b o e=>?_) I.bare
 ·by_cases z:b=T
  ·exact⟨_,by rw[z];exact new⟩
  ·exact⟨o,ext b o z e⟩
 ·by_cases z:b=T
  ·subst z;rw[hT] at e
   cases e;exact⟨more,ju⟩
  ·exact⟨#[],by rw[jA z,e];simp⟩
 ·by_cases z:b=T
  ·subst z;rw[ju] at e
   cases e;exact new
  ·rw[jA z] at e;refine (I.hok b o e).stay (λ c v hc q=>ext c v (λ y=>?_) q) (λ c q=>by rw[jA (nx c _ q λ _ y=>by cases y)];exact q) λ c xs q=>by rw[jA (nx c _ q λ _ y=>by cases y)];exact q
   rcases hc with hc | hc
   ·exact z (hc.symm.trans y)
   ·rw[y,hT] at hc;cases hc
theorem Pj{E:Value->Shared->Prop}{Q:Value->Shared->Prop}{params:Arguments}{body:Expr}{scope:Scope}{pos:Pos}{c T:Addr}(I:Inv X pins σ H s)(hcode:X.env.code=.ref c)(C:CodeHd X.base c T)(hT:H T=some (.Gr #[]))(hB:∀T,X.base.get? T=none->X.base.BuiltinsAt X.mg T)
  (hcl:∀y∈scope.names,y.2=.free->∃c,X.env.cells.lookup y.1=some c) (hdef:defaultsOf params X.env=([],[]))
  (h:∀(p c':Addr) (pm ctv:Value) (s2:Shared) (H2:Hp),s2.heap.get? p=some (kla_obj "<lambda>" (X.env.qual ++ "<lambda>") params body scope (kM X.env.cells scope.names []) pm c' ctv)->s2.heap.CodeRec (.ref c') (X.env.qual ++ "<lambda>") ->
   (∀b o,s.heap.get? b=some o->b≠T->s2.heap.get? b=some o)->Inv X pins σ H2 s2->(∀b,b≠T->H2 b=H b)->(∃more,H2 T=some (.Gr more))->Q (.ref p) s2) :
  wpAny (model X.prog X.w) X.A (eval (.Lambda params body scope pos) X.env) Q E s:=by
 have hP:s.heap.get? T=some (tabObj #[]):=I.hok T _ hT
 have bT:X.base.get? T=none:=by
  cases e:X.base.get? T with
  |none=>rfl
  |some o=>rw[(I.bs T o e).2] at hT;cases hT
 have hgP:mainGlobals≠T:=λ z=>by
  obtain⟨o,es,ep,e,_⟩:=I.mod.glob;rw[z,bT] at e
  cases e
 have hBs:s.heap.BuiltinsAt X.mg T:=by
  obtain⟨bm,o,b1,b2,b3,b4,b5,b6,b7,b8⟩:=hB T bT;exact⟨bm,o,b1,b2,b3,b4,I.bk _ _ b5,b6,b7,b8⟩
 refine PySem.W.kla_eval hdef (PySem.W.kla_makeFunction (mg:=X.mg) (ps:=#[]) (Cy hcl) I.ok.glob (I.mod.glob.keeps I.bk) hcode (C.keeps I.bk) hP trivial rfl hgP hBs λ c' ctv h' tk ext hge hlt VH tab=>?_)
 have push:∀{b o} (q:Obj),h'.get? b=some o->(h'.push q).get? b=some o:=λ q e=>Heap.get?_push_of_some _ e
 refine h h'.objs.size c' _ ctv _ (upd H T (.Gr (#[] ++ #[rawInt pos.line,rawInt pos.col,.ref c']))) (Heap.get?_push_size _ rfl) ?_ (λ b o e z=>push _ (ext b o z e)) (I.grown (more:=#[rawInt pos.line,rawInt pos.col,.ref c']) hT (λ b o z e=>push _ (ext b o z e)) (push _ tab)) (λ b z=>jA z) ⟨_,ju⟩
 obtain⟨c2,oc,vs,tq,e1,e2,e3,e4⟩:=VH
 exact⟨c2,oc,vs,tq,e1,push _ e2,e3,e4⟩
theorem lookup_some{α β:Type}[BEq α][LawfulBEq α]:∀{l:List (α×β)}{x:α}{c:β},(x,c)∈l->∃d,l.lookup x=some d
 |[],_,_,h=>by simp at h
 | (y,d)::r,x,c,h=>by
  rw[cM]
  cases e:x==y with
  |true=>exact⟨d,rfl⟩
  |false=>
   rcases aC.mp h with z | z
   ·cases z;simp at e
   ·exact lookup_some z
theorem wc{cells:List (Str×Addr)}{names:List (Str×NameKind)}(hcl:∀y∈names,y.2=.free->∃c,cells.lookup y.1=some c){x:Str}{c:Addr}(h:(kM cells names []).lookup x=some c):cells.lookup x=some c:=by
 rcases qt (aT h) with z | ⟨z,e⟩
 ·simp at z
 ·obtain⟨d,hd⟩:=hcl _ z rfl
  have hd:cells.lookup x=some d:=hd;rw[hd] at e;rw[hd,e];rfl
theorem XI.of{scope:Scope}{vs:List V}{h':Heap}(I:Inv X pins (vs.map some) H s)(hk:scope.kind=.function)(hc:∀x∈scope.names,x.2≠.cell)(hcl:∀y∈scope.names,y.2=.free->∃c,X.env.cells.lookup y.1=some c)
  (hfree:∀x∈X.N,scope.names.lookup x=some .free) (hnl:∀x∈X.N,X.env.kindOf x=some .cell) (keep:∀b o,s.heap.get? b=some o->h'.get? b=some o):XI scope (kM X.env.cells scope.names []) H h' X.N vs:=by
 have ck:∀c v,s.heap.IsCell c v->h'.IsCell c v:=λ c v ⟨o,ho,hd⟩=>⟨o,keep _ _ ho,hd⟩
 refine⟨hk,hc,λ x y c a b=>I.ok.inj x y c (wc hcl a) (wc hcl b),λ x e=>?_,λ x c e=>?_,?_,λ i x v e1 e2=>?_⟩
 ·exact lookup_some (qu (aT e))
 ·obtain⟨v,z⟩:=I.cell x c (wc hcl e)
  exact⟨⟨v,ck _ _ z⟩,I.vD x c (wc hcl e)⟩
 ·have:=I.len;rw[ah] at this;exact this
 ·have hx:=aq e1
  refine⟨hfree x hx,?_⟩;obtain⟨m,hn,hl⟩:=I.loc;have ZA:Rw X.env.scope x:=.inr (.inl (hnl x hx));obtain⟨u,r,lk⟩:=hl i x v e1 (by rw[ai,e2];rfl) ZA
  rcases lk with ⟨k,_⟩ | ⟨_,c,e,z⟩
  ·rw[hnl x hx] at k;cases k
  ·obtain⟨d,hd⟩:=lookup_some (qu (cells:=X.env.cells) (acc:=[]) (aT (hfree x hx)));have h2:=wc hcl hd;rw[e] at h2
   cases h2;exact⟨u,c,r,hd,ck _ _ z⟩
theorem Ss{M:Model}{A:Around}{E:Value->Shared->Prop}{env:Env}{e:Expr}{pos:Pos}{Q:List Value->Shared->Prop}{s:Shared}(h:wpAny M A (eval e env) (λ v s1=>Q [v] s1) E s)(hs:starEach [e] env=[(false,eval e env)]:=by rfl) :
  wpAny M A (spliced (backTo pos (starEach [e] env))) Q E s:=by
 rw[hs]
 show wpAny M A (spliced ((false,eval e env)::backTo pos [])) Q E s
 exact Calls.spliced_cons (mP h λ v s1 q=>Calls.spliced_nil q)
end
end L2
end
noncomputable section
namespace L2
open PySem PySem.Spec PyProof.Rows
open PySem.W (tabObj CodeHd ReadsAllW ReadsW WData)
structure VI(P:Program)(w:World)(K:aj)(mg:Str->Option Value)(s:Shared)(l T:Addr)(ns:List Int)(base:Heap)(H:Hp):Prop where
 env:AA P w K mg base callerA [] s H
 Ua:K.In base
 txt:jO K H l (ns.map V.int)
 tab:H T=some (.Gr #[])
 WJ:∀b o,s.heap.get? b=some o->H b=none->base.get? b=some o
 only:∀b,H b=none\/(b=T)\/∃o xs,H b=some (.NV o (.lst xs))/\b=l
theorem Z7{P:Program}{w:World}{K:aj}{mg mb:Str->Option Value}{s:Shared}{l T:Addr}{vs:List Value}{ns:List Int}
  (KX:K.In s.heap) (hns:s.heap.Ns mainGlobals mg) (hb:s.heap.Ns builtinsNs mb) (hbb:∀x:Str,x≠"__name__"->mb x=bootBuiltins x) (hlim:s.heap.NoLimit) (hg:s.gens = #[])
  (ha:s.heap.get? l=some { cls:=.type "list",data:=.seq vs.toArray }) (hi:IntsAre vs ns) (hl:ns.length<=sizeLine) (hT:s.heap.get? T=some (tabObj #[])) (hKT:K.lookup T=none) :
  ∃base H,VI P w K mg s l T ns base H:=by
 have rv:=Fl hi
 have Z9:=hi.length
 have hlT:l≠T:=λ z=>by rw[z,hT] at ha;cases ha
 have core:∀H:Hp,jO K H l (ns.map V.int)->Ax P w H s.heap->H T=some (.Gr #[])->(∀b,H b=none\/(b=T)\/∃o xs,H b=some (.NV o (.lst xs))/\b=l)->(H l≠none->K.lookup l=none)->∃base H,VI P w K mg s l T ns base H:=by
  intro H hS hok tT hA hK;have WJ:∀b o,s.heap.get? b=some o->H b=none->(Hx s.heap H).get? b=some o:=λ b o e n=>N5 e n
  have RT:∀{b:Addr} {o:Obj} {es:Array DictEntry} {ep:Nat},s.heap.get? b=some o->o.data=.dict es ep->H b=none:=λ {b o es ep} e d=>by
   rcases hA b with z | z | ⟨_,_,_,z⟩
   ·exact z
   ·rw[z,hT] at e;cases e;cases d
   ·rw[z,ha] at e;cases e;cases d
  have nsK:∀{b:Addr} {m:Str->Option Value},s.heap.Ns b m->(Hx s.heap H).Ns b m:=λ {b m} ⟨o,es,ep,e,d,r⟩=>⟨o,es,ep,WJ _ _ e (RT e d),d,r⟩
  have hKb:K.In (Hx s.heap H):=λ b o e=>WJ b o (KX b o e) (by
   rcases hA b with z | z | ⟨o',xs,q,z⟩
   ·exact z
   ·rw[z,hKT] at e;cases e
   ·rw[z] at e q;rw[hK (by rw[q];simp)] at e;cases e)
  have hM:Mod K mg (Hx s.heap H):=⟨hKb,nsK hns,⟨mb,nsK hb,hbb⟩,let ⟨mc,h1,h2⟩:=hlim;⟨mc,nsK h1,h2⟩⟩
  exact⟨_,H,⟨rfl,hM,λ b o e=>Rv e,iy (Mg _ _),trivial,λ b hb=>absurd (show b∈([]:List Addr) from hb) (by simp),hok,.of_eq hg⟩,hKb,hS,tT,WJ,hA⟩
 cases hk:K.lookup l with
 |some o=>
  have e:=KX l o hk;rw[ha] at e
  cases e;refine core (upd (λ _=>none) T (.Gr #[])) (.inr ⟨_,vs.toArray,_,hk,rfl,rfl,rfl,by rw[aD,Z9];exact hl,by simpa using rv⟩) (λ b u z=>?_) ju (λ b=>?_) λ z=>absurd (by rw[jA hlT]) z
  ·by_cases hb:b=T
   ·subst hb;rw[ju] at z
    cases z;exact hT
   ·rw[jA hb] at z;cases z
  ·by_cases hb:b=T
   ·exact .inr (.inl hb)
   ·exact .inl (by rw[jA hb])
 |none=>
  refine core (upd (upd (λ _=>none) T (.Gr #[])) l (.NV { cls:=.type "list",data:=.seq vs.toArray } (.lst (ns.map V.int)))) (.inl (.inr ⟨{ cls:=.type "list",data:=.seq vs.toArray },ju⟩)) (λ b u z=>?_) (by rw[jA hlT.symm];exact ju) (λ b=>?_) λ _=>hk
  ·by_cases hb:b=l
   ·subst hb;rw[ju] at z
    cases z;exact⟨ha,by rw[ah];exact hl,vs,_,rv,ha⟩
   ·rw[jA hb] at z
    by_cases hb2:b=T
    ·subst hb2;rw[ju] at z
     cases z;exact hT
    ·rw[jA hb2] at z;cases z
  ·by_cases hb:b=l
   ·exact .inr (.inr ⟨_,_,by rw[hb];exact ju,hb⟩)
   ·by_cases hb2:b=T
    ·exact .inr (.inl hb2)
    ·exact .inl (by rw[jA hb,jA hb2])
theorem CI{cl:Str->Option Addr}{h:Heap}:∀{its:List Value}{zs:List Int},Vals (zs.map V.int) its->ReadsAllW [] cl h its (zs.map WData.int) []
 |_,[],r=>by cases r;exact .nil
 |_,z::zs,r=>by
  cases r with
  |cons a b=>
   obtain⟨t,rfl⟩:=a;exact ReadsAllW.cons (as:=[]) (bs:=[]) (.int z t) (CI b)
theorem M1{r:PySem.W.OpenSpec}{P:Program}{w:World}{K:aj}{mg:Str->Option Value}{s s':Shared}{l T c:Addr}{ns zs:List Int}{base:Heap}{H:Hp}{cl:Str->Option Addr}{mean:ExcName->Option Value}{args:List WData}{u:Value}
  (L:VI P w K mg s l T ns base H) (hT:s.heap.TableAt c T #[]) (hc:CE [] P w H s (λ v H'=>∃p,v=.ref p/\H' p=some (.lst (zs.map V.int))) u s') (post:r.claim.post args (.list (zs.map .int)) args=true) :
  PySem.W.GoodWG r.claim cl mean args s (.ok (.ret u)) s':=by
 obtain⟨v,H',os,bare,un,hok,rv,p,rfl,hp⟩:=hc
 obtain rfl:u=Value.ref p:=rv
 obtain⟨z,its,n,r1,e⟩:=hok p _ hp
 have XJ:∀b o,s.heap.get? b=some o->H b=none->s'.heap.get? b=some o:=λ b o e n=>un.keep b o e n (by intro z;exact absurd (show b∈([]:List Addr) from z) (by simp)) (by simp)
 have old:∀b o,s.heap.get? b=some o->b≠T->s'.heap.get? b=some o:=λ b o e hb=>by
  rcases L.only b with q | q | ⟨ob,xs,q,_⟩
  ·exact XJ b o e q
  ·exact absurd q hb
  ·have z2:=un.Ew b ob _ q;obtain⟨e1,_⟩:=L.env.hok b _ q;obtain⟨e2,_⟩:=hok b _ z2;rw[e] at e1;cases e1;exact e2
 obtain⟨more,hm⟩:=un.Ex T #[] L.tab
 have hT':s'.heap.get? T=some { cls:=.none,data:=.fields (#[]++more) }:=hok T _ hm
 have hT0:s.heap.get? T=some { cls:=.none,data:=.fields #[] }:=L.env.hok T _ L.tab
 refine⟨.inl ⟨.ref p,_,[p],rfl,PySem.W.osNone,ReadsW.list e rfl rfl (by rw[List.toList_toArray];exact CI r1),post,λ z=>absurd (show false=true from z) aP⟩,⟨λ b o e=>?_,λ b o e=>?_⟩,os,bare⟩
 ·by_cases hb:b=T
  ·subst hb;rw[hT0] at e
   cases e;exact .inr (.inl ⟨hT.isCodeTable,rfl,#[],more,rfl,hT'⟩)
  ·exact .inl (old b o e hb)
 ·by_cases hb:b=T
  ·subst hb;exact⟨_,hT'⟩
  ·exact⟨o,old b o e hb⟩
end L2
end
noncomputable section
namespace L2
open PySem PySem.Spec PyProof.Rows
section
variable{K:aj}{a b:Addr}{xs ys:List V}{g:TG}
theorem JR{tt:TT}{te:TE}{vs:List Nat}{σ:St}{H1:Hp}{D:Addr}{Qd:Hp->Prop}(hlen:xs.length=ys.length)(Pv:Nat->Hp->Prop)(h0:Pv 0 (upd H1 D (.lst [])))(hl:∀i H,i<=xs.length->Pv i H->jO K H a xs/\jO K H b ys)
  (hs:∀i x y H T,xs[i]? = some x->ys[i]? = some y->H T=none->Pv i H->g (.ref T) (wipe σ vs) (upd H T (.tup [x,y])) λ σ2 H2=>wipe σ2 vs=wipe σ vs/\tt σ2 H2 λ c H3=>
   if c=true then te σ2 H3 λ z H4=>∃acc,H4 D=some (.lst acc)/\acc.length<sizeLine/\Pv (i+1) (upd H4 D (.lst (acc++[z]))) else Pv (i+1) H3) (hd:∀H,Pv xs.length H->Qd H) :
  ∃W:Nat->Nat->Hp->Prop,(∃m,W 0 m (upd H1 D (.lst [])))/\∀i m H,W i m H ->
   ((Ur K a b).stop i H/\Qd H)\/((Ur K a b).go i H/\∃Nx:Hp->Prop,(∀H',Nx H'->∃m',m'<m/\W (i+1) m' H')/\∀x H',(Ur K a b).Og i H x H'->g x (wipe σ vs) H' λ σ2 H2=>wipe σ2 vs=wipe σ vs/\tt σ2 H2 λ c H3=>
    if c=true then te σ2 H3 λ z H4=>∃acc,H4 D=some (.lst acc)/\acc.length<sizeLine/\Nx (upd H4 D (.lst (acc++[z]))) else Nx H3):=by
 refine⟨λ i m H=>m=xs.length-i/\i<=xs.length/\Pv i H,⟨xs.length,by simp,bq _,h0⟩,?_⟩
 rintro i m H ⟨rfl,hi,p⟩
 obtain⟨q1,q2⟩:=hl i H hi p
 by_cases hlt:i<xs.length
 ·have VJ:i<ys.length:=by omega
  refine .inr ⟨⟨xs,ys,xs[i],ys[i],q1,q2,by simp[hlt],by simp[VJ]⟩,Pv (i+1),λ H' p'=>⟨xs.length-(i+1),by omega,rfl,hlt,p'⟩,λ v H' yy=>?_⟩;obtain⟨T,x,y,rfl,hT,rfl,e1,e2⟩:=yy;exact hs i x y H T (e1 xs q1) (e2 ys q2) hT p
 ·obtain rfl:i=xs.length:=by omega
  exact .inl ⟨⟨xs,ys,q1,q2,.inl (au _)⟩,hd H p⟩
theorem Su{tt:TT}{te:TE}{vs:List Nat}{σ:St}{H1:Hp}{D:Addr}{Qd:Hp->Prop}(Pv:Nat->Hp->Prop)(h0:Pv 0 (upd H1 D (.lst [])))(hl:∀i H,i<=xs.length->Pv i H->jO K H a xs)
  (hs:∀i x H T,xs[i]? = some x->H T=none->Pv i H->g (.ref T) (wipe σ vs) (upd H T (.tup [.int (i:Nat),x])) λ σ2 H2=>wipe σ2 vs=wipe σ vs/\tt σ2 H2 λ c H3=>
   if c=true then te σ2 H3 λ z H4=>∃acc,H4 D=some (.lst acc)/\acc.length<sizeLine/\Pv (i+1) (upd H4 D (.lst (acc++[z]))) else Pv (i+1) H3) (hd:∀H,Pv xs.length H->Qd H) :
  ∃W:Nat->Nat->Hp->Prop,(∃m,W 0 m (upd H1 D (.lst [])))/\∀i m H,W i m H ->
   ((Uq K a).stop i H/\Qd H)\/((Uq K a).go i H/\∃Nx:Hp->Prop,(∀H',Nx H'->∃m',m'<m/\W (i+1) m' H')/\∀x H',(Uq K a).Og i H x H'->g x (wipe σ vs) H' λ σ2 H2=>wipe σ2 vs=wipe σ vs/\tt σ2 H2 λ c H3=>
    if c=true then te σ2 H3 λ z H4=>∃acc,H4 D=some (.lst acc)/\acc.length<sizeLine/\Nx (upd H4 D (.lst (acc++[z]))) else Nx H3):=by
 refine⟨λ i m H=>m=xs.length-i/\i<=xs.length/\Pv i H,⟨xs.length,by simp,bq _,h0⟩,?_⟩
 rintro i m H ⟨rfl,hi,p⟩
 have q1:=hl i H hi p
 by_cases hlt:i<xs.length
 ·refine .inr ⟨⟨xs,xs[i],q1,by simp[hlt]⟩,Pv (i+1),λ H' p'=>⟨xs.length-(i+1),by omega,rfl,hlt,p'⟩,λ v H' yy=>?_⟩
  obtain⟨T,x,rfl,hT,rfl,e1⟩:=yy;exact hs i x H T (e1 xs q1) hT p
 ·obtain rfl:i=xs.length:=by omega
  exact .inl ⟨⟨xs,q1,au _⟩,hd H p⟩
theorem Sv{tb:TS}{Ds:Ends}{σ:St}{H:Hp}(hlen:xs.length=ys.length)(Pv:Nat->St->Hp->Prop)(h0:Pv 0 σ H)(hl:∀i σ H,i<=xs.length->Pv i σ H->jO K H a xs/\jO K H b ys)
  (hs:∀i x y σ H T,xs[i]? = some x->ys[i]? = some y->H T=none->Pv i σ H->g (.ref T) σ (upd H T (.tup [x,y])) λ σ2 H2=>tb { Ds with nx:=Pv (i+1),ct:=Pv (i+1),bk:=Ds.nx } σ2 H2) (hd:∀σ H,Pv xs.length σ H->Ds.nx σ H) :
  ∃W:Nat->Nat->St->Hp->Prop,(∃m,W 0 m σ H)/\∀i m σ H,W i m σ H ->
   ((Ur K a b).stop i H/\Ds.nx σ H)\/((Ur K a b).go i H/\∃N:St->Hp->Prop,(∀σ' H',N σ' H'->∃m',m'<m/\W (i+1) m' σ' H')/\∀x H',(Ur K a b).Og i H x H'->g x σ H' λ σ2 H2=>tb { Ds with nx:=N,ct:=N,bk:=Ds.nx } σ2 H2):=by
 refine⟨λ i m σ H=>m=xs.length-i/\i<=xs.length/\Pv i σ H,⟨xs.length,by simp,bq _,h0⟩,?_⟩
 rintro i m σ H ⟨rfl,hi,p⟩
 obtain⟨q1,q2⟩:=hl i σ H hi p
 by_cases hlt:i<xs.length
 ·have VJ:i<ys.length:=by omega
  refine .inr ⟨⟨xs,ys,xs[i],ys[i],q1,q2,by simp[hlt],by simp[VJ]⟩,Pv (i+1),λ σ' H' p'=>⟨xs.length-(i+1),by omega,rfl,hlt,p'⟩,λ v H' yy=>?_⟩;obtain⟨T,x,y,rfl,hT,rfl,e1,e2⟩:=yy;exact hs i x y σ H T (e1 xs q1) (e2 ys q2) hT p
 ·obtain rfl:i=xs.length:=by omega
  exact .inl ⟨⟨xs,ys,q1,q2,.inl (au _)⟩,hd σ H p⟩
theorem we{tb:TS}{Ds:Ends}{σ:St}{H:Hp}(Pv:Nat->St->Hp->Prop)(h0:Pv 0 σ H)(hl:∀i σ H,i<=xs.length->Pv i σ H->jO K H a xs)
  (hs:∀i x σ H T,xs[i]? = some x->H T=none->Pv i σ H->g (.ref T) σ (upd H T (.tup [.int (i:Nat),x])) λ σ2 H2=>tb { Ds with nx:=Pv (i+1),ct:=Pv (i+1),bk:=Ds.nx } σ2 H2) (hd:∀σ H,Pv xs.length σ H->Ds.nx σ H) :
  ∃W:Nat->Nat->St->Hp->Prop,(∃m,W 0 m σ H)/\∀i m σ H,W i m σ H ->
   ((Uq K a).stop i H/\Ds.nx σ H)\/((Uq K a).go i H/\∃N:St->Hp->Prop,(∀σ' H',N σ' H'->∃m',m'<m/\W (i+1) m' σ' H')/\∀x H',(Uq K a).Og i H x H'->g x σ H' λ σ2 H2=>tb { Ds with nx:=N,ct:=N,bk:=Ds.nx } σ2 H2):=by
 refine⟨λ i m σ H=>m=xs.length-i/\i<=xs.length/\Pv i σ H,⟨xs.length,by simp,bq _,h0⟩,?_⟩
 rintro i m σ H ⟨rfl,hi,p⟩
 have q1:=hl i σ H hi p
 by_cases hlt:i<xs.length
 ·refine .inr ⟨⟨xs,xs[i],q1,by simp[hlt]⟩,Pv (i+1),λ σ' H' p'=>⟨xs.length-(i+1),by omega,rfl,hlt,p'⟩,λ v H' yy=>?_⟩
  obtain⟨T,x,rfl,hT,rfl,e1⟩:=yy;exact hs i x σ H T (e1 xs q1) hT p
 ·obtain rfl:i=xs.length:=by omega
  exact .inl ⟨⟨xs,q1,au _⟩,hd σ H p⟩
end
end L2
end
noncomputable section
namespace L2
open PySem PySem.Spec PyProof.Rows
section
variable{X:Cx}
def AI(K:aj)(i j:Nat):TG:=W4 K 2 (Of (E2 i) (Of (E2 j) W3))
theorem tQ(K:aj){i j:Nat}{x y:Str}{k:Nat}{pos p1 p2:Pos}(hc:X.calm=true)(hN:X.N.Nodup)(hi:X.N[i]? = some x)(hj:X.N[j]? = some y)(hx:Loc X.env.scope x)(hy:Loc X.env.scope y)
  (hf:X.fn x=true\/X.env.scope.names.lookup x=some .local:=by first | exact .inl rfl | exact .inr rfl | assumption) (hf2:X.fn y=true\/X.env.scope.names.lookup y=some .local:=by first | exact .inl rfl | exact .inr rfl | assumption) (eK:X.K=K:=by rfl) :
  PG X (.Tuple [.Name x p1,.Name y p2] k pos) (AI K i j):=
 eK ▸ Va hc (Hy (j8 hN hi hx hf) (Hy (j8 hN hj hy hf2) RD))
theorem AI.at{K:aj}{i j:Nat}{T:Addr}{a b:V}{σ:St}{H:Hp}{Q:St->Hp->Prop}(hT:H T=some (.tup [a,b]))(h:Q ((σ.set i (some a)).set j (some b)) H):AI K i j (.ref T) σ H Q:=
 ⟨T,[a,b],rfl,.inl (.inl hT),rfl,a,[b],rfl,b,[],rfl,rfl,h⟩
theorem Lf(K:aj){a:Expr}{ta:TE}(ha:PE X a ta)(he:∀whole,isTrue a X.env whole=(do let v <-whole;standAt a.pos;holding [v] (truthy v)):=by intro _;rfl)(eK:X.K=K:=by rfl) :
  PT X a (λ σ H Q=>ta σ H λ x H'=>∃k,Vk K x H' k/\Q k H'):=eK ▸ Ot ha he
theorem Lg:xN X (binaryOp .Mult) (rI IntMulOk λ i j=>.int (i*j)):=Vg λ _ _ _ _ _ _ _ hc q=>mul_int q hc
theorem Uv{a b:Int}{m n:Nat}(ha:a.natAbs<2^m)(hb:b.natAbs<2^n)(h:m+n<=134217728):IntMulOk a b:=by
 refine IntMulOk.of_le (m:=m) (n:=n) ?_ ?_ h
 ·exact intBits_le ha
 ·exact intBits_le hb
theorem HY(hN:X.base.NoSeer)(ht:X.prog.given.tree=none)(hst:X.stack=X.env::X.outer)(hg:X.env.scope.isGenerator=false)(hc:X.env.scope.isCoroutine=false)(hd:X.A.depth+Builtin.pylongFrames<recursionLimit) :
  xN X (binaryOp .FloorDiv) (rI (λ _ j=>0<j) λ i j=>.int (i/j)):=by
 intro pins s σ H x y v u Q I rx ry h
 obtain⟨i,j,rfl,rfl,hj,q⟩:=h
 obtain⟨t,rfl⟩:=rx
 obtain⟨t',rfl⟩:=ry
 have h1:(0:Int)<j:=hj
 exact floordiv_int (by omega) (by rw[cY i (by omega)];exact⟨.int (i/j),H,I.tok _,⟨_,rfl⟩,q⟩) (.inr (PylongRoom.of I.nolimit hd (SeerAt.of (hN.keeps I.bk) ht (by rw[I.ok.frames,hst]) hg hc I.ok.blt I.ok.glob)))
end
end L2
end
noncomputable section
namespace L2
open PySem PySem.Spec PyProof.Rows
theorem Sw:typeLookup (.type "list_reverseiterator") "__len__" = pure none:=by
 rw[typeLookup_type,builtinLookup_eq_fast]
 kernel_rfl
theorem Pk:typeLookup (.type "list_reverseiterator") "__length_hint__" = pure (some (.builtin "list_reverseiterator.__length_hint__")):=by
 rw[typeLookup_type,builtinLookup_eq_fast]
 kernel_rfl
section
variable{prog:Program}{w:World}{A:Around}{E:Value->Shared->Prop}{s:Shared}
theorem Pn{I l:Addr}{i:Int}{Q:Bool->Shared->Prop}(x:s.heap.IsRevIter I l i)(h:Q false s):wpAny (model prog w) A (Builtin.List.listLengthHint (.ref I)) Q E s:=by
 unfold Builtin.List.listLengthHint
 refine wpAny_bind (wpAny_specialOf x.typeIs Sw ?_)
 show wpAny _ A (specialOf (Value.ref I) (Str.ofString "__length_hint__") >>= _) _ _ _
 refine wpAny_bind (wpAny_specialOf x.typeIs Pk ?_)
 generalize hid:("list_reverseiterator.__length_hint__":String)=id0
 wp_delta
 rw[show splitId id0=some ("list_reverseiterator","__length_hint__") by subst hid;decide +kernel]
 subst hid
 refine wpAny_bind (wpAny_isInstance (b:=true) x.typeIs (by rw[isSubtype_type];kernel_rfl) ?_)
 exact wpAny_pure h
theorem Po{I l:Addr}{items:Array Value}{Q:Value->Shared->Prop}(hh:A.handled=none)(x:s.heap.IsRevIter I l ((items.size:Int)-1))(hl:s.heap.IsList l items)(hne:l≠I)(hn:items.size<=sizeLine)
  (hQ:∀h' tk acc c,(∀b o,b≠I->s.heap.get? b=some o->h'.get? b=some o)->h'.get? s.heap.objs.size=some { cls:=.type "list",dict:=none,data:=.seq acc c,slots:=#[] } ->
   ItemsOf (λ i v=>items[items.size-1-i]? = some v) acc items.size->Q (.ref s.heap.objs.size) { s with heap:=h',toks:=tk }) :
  wpAny (model prog w) A (call (.type "list") [.ref I]) Q E s:=by
 refine callType_codes (Q₁:=λ ob s₁=>ob=.ref s.heap.objs.size/\s₁ = { s with heap:=s.heap.push { cls:=.type "list",data:=.seq #[] } }) F.called_list (F.typeCall_list_1 _) F.entry_list_init (code_list_new _ ⟨rfl,rfl⟩) ?_
 rintro ob s₁ ⟨rfl,rfl⟩
 have hS:(s.heap.push { cls:=.type "list",data:=.seq #[] }).get? s.heap.objs.size=some { cls:=.type "list",data:=.seq #[] }:=Heap.get?_push_size _ rfl
 refine⟨⟨_,hS,rfl⟩,F.args_list_init_2 _ _,?_⟩
 generalize hs:s.heap.objs.size=S at *
 have hIS:I<S:=by obtain⟨o,ho,_⟩:=x;rw[<-hs];exact Heap.lt_size ho
 have hlS:l<S:=by obtain⟨o,ho,_⟩:=hl;rw[<-hs];exact Heap.lt_size ho
 show wpAny _ _ (Builtin.List.listItems (.ref S) >>= λ old=>Builtin.List.listUpdate (.ref S) (λ _=>#[]) >>= λ _=>letGo old.toList.reverse >>= λ _=>Builtin.List.listExtendWith (.ref S) (.ref I) .none) _ _ _
 refine wpAny_bind ?_
 unfold Builtin.List.listItems
 refine wpAny_bind (wpAny_seqItems hS rfl (wpAny_pure ?_))
 refine wpAny_bind (m:=updateSeq S (λ _=>#[])) (wpAny_updateSeq hS rfl ?_)
 have ZY:=Heap.get?_update_self (Obj.mapSeq (λ _=>(#[]:Array Value))) hS rfl
 generalize hh2:(s.heap.push { cls:=.type "list",data:=.seq #[] }).update S (Obj.mapSeq λ _=>(#[]:Array Value))=h2 at *
 have oth:∀b o,b≠S->s.heap.get? b=some o->h2.get? b=some o:=λ b o hb e=>by
  rw[<-hh2,Heap.get?_update_other _ _ (Ne.symm hb)];exact Heap.get?_push_of_some _ e
 have x2:h2.IsRevIter I l ((items.size:Int)-1):=x.at λ o e=>oth I o (aZ hIS) e
 have hl2:h2.IsList l items:=hl.at λ o e=>oth l o (aZ hlS) e
 refine wpAny_bind (wpAny_letGo ?_)
 unfold Builtin.List.listExtendWith
 refine wpAny_bind (wpAny_typeOf (T:="list_reverseiterator") (Heap.IsRevIter.typeIs (s:={ s with heap:=h2 }) x2) ?_)
 have d1:Builtin.List.listSameRef (.ref S) (.ref I)=false:=by simp[Builtin.List.listSameRef,fG hIS]
 rw[if_neg (by rw[d1];decide)]
 refine wpAny_bind (wpAny_pyIter_revIter (s:={ s with heap:=h2 }) x2 ?_)
 refine wpAny_bind (wpAny_holding (Pn (s:={ s with heap:=h2 }) x2 ?_))
 rw[if_neg (by decide)]
 have W:=(Walks.listRev (prog:=prog) (w:=w) (A:=A.in1.in1) hh I l hne items).toS
 have hSf:S ∉ [I,l]:=λ z=>by
  rcases aC.mp z with e | z
  ·exact fG hIS e
  ·exact fG hlS (List.mem_singleton.mp z)
 refine wpAny_pure ⟨plainId_quiet F.plain_extend_loop _,codeAny_extend_loopS W hn S hSf .none items.size 0 _ #[] _ rfl (bq _) ⟨bq _,by simpa using x2,hl2⟩ ZY (ItemsOf.nil _) λ s' acc c hm hS' hacc=>?_⟩
 rw[Moved.eq_with hm]
 refine⟨rfl,hQ s'.heap s'.toks acc c (λ b o hb e=>?_) hS' hacc⟩
 have bS:b≠S:=by rw[<-hs];exact aZ (Heap.lt_size e)
 exact hm.heap b o (by simp[bS,hb]) (oth b o bS e)
end
section
variable{X:Cx}
def XM(K:aj)(t:TE):TE:=λ σ H Q=>t σ H λ v H1=>∃a xs,v=.ref a/\jO K H1 a xs/\∀D,H1 D=none->Q (.ref D) (upd H1 D (.lst xs.reverse))
theorem JS{e:Expr}{te:TE}{p p2 pos pos2:Pos}(hc:X.calm=true)(hg:Gl X "list")(hm:X.mg "list" = none)(hg2:Gl X "reversed")(hm2:X.mg "reversed" = none)(he:PE X e te)
  (s1:starEach [.Call (.Name "reversed" p2) [e] [] pos2] X.env=[(false,eval (.Call (.Name "reversed" p2) [e] [] pos2) X.env)]:=by rfl) (s2:starEach [e] X.env=[(false,eval e X.env)]:=by rfl) :
  PE X (.Call (.Name "list" p) [.Call (.Name "reversed" p2) [e] [] pos2] [] pos) (XM X.K te):=by
 intro pins s σ H Q I h
 refine Call_ (yN I hg hm (show bootBuiltins "list" = some (.type "list") by decide +kernel) (PyProof.Rows.callWith_type1 ?_ s1 rfl))
 rw[s1]
 refine Calls.spliced_cons (mP (Q:=λ v s'=>∃(a it:Addr) (xs:List V) (its:List Value) (H1:Hp) (s0:Shared),v=.ref it/\it=s0.heap.objs.size/\Inv X pins σ H1 s0/\jO X.K H1 a xs/\Vals xs its/\s0.heap.IsList a its.toArray/\s' = { s0 with heap:=s0.heap.push (revObj a ((its.toArray.size:Int)-1)) }/\(∀D,H1 D=none->Q (.ref D) (upd H1 D (.lst xs.reverse)))/\xs.length<=sizeLine) ?_ ?_)
 ·refine Call_ (yN I hg2 hm2 Cz (PyProof.Rows.callWith_type1 ?_ s2 rfl))
  rw[s2];refine Calls.spliced_cons (mP (he pins s σ H _ I h) λ u s0 ⟨x,H1,I1,r1,a,xs,ex,hq,q⟩=>?_);subst ex
  cases r1;obtain⟨its,rv,p',hz⟩:=I1.list hq;refine Calls.spliced_nil ?_;exact call_reversed_list p'.isList ⟨a,_,xs,its,H1,s0,rfl,rfl,I1,hq,rv,p'.isList,rfl,q,hz⟩
 ·rintro v s' ⟨a,it,xs,its,H1,s0,rfl,rfl,I1,hq,rv,hl,rfl,q,hz⟩
  refine Calls.spliced_nil ?_;have hla:a<s0.heap.objs.size:=by obtain⟨o,ho,_⟩:=hl;exact Heap.lt_size ho
  have hsz:its.toArray.size<=sizeLine:=by rw[aD,<-rv.length];exact hz
  refine Po (l:=a) (items:=its.toArray) (I1.ok.hd hc) ⟨_,Heap.get?_push_size _ rfl,rfl,rfl⟩ (hl.at λ o e=>Heap.get?_push_of_some _ e) (aZ hla) hsz λ h' tk acc c k e hit=>?_
  have kk:∀b u,s0.heap.get? b=some u->h'.get? b=some u:=λ b u q1=>k b u (aZ (Heap.lt_size q1)) (Heap.get?_push_of_some _ q1)
  have ea:acc=its.reverse.toArray:=by
   refine Array.ext (by rw[hit.1];simp) λ i h1 h2=>?_
   have h1':i<its.length:=by have:=hit.1;simp at this;omega
   have q1:=hit.2 i _ (bB h1);dsimp only at q1;rw[aD] at q1;have q2:its.toArray[its.length-1-i]? = some its[its.length-1-i]:=by rw[List.getElem?_toArray];exact af (by omega)
   rw[q2] at q1;have q3:=aW q1;rw[<-q3];simp
  have vr:Vals xs.reverse its.reverse:=rv.reverse;have big:s0.heap.objs.size<=(s0.heap.push (revObj a ((its.toArray.size:Int)-1))).objs.size:=by simp[Heap.push]
  refine⟨.ref _,upd H1 _ (.lst xs.reverse),I1.laid (t':=tk) (a:=(s0.heap.push (revObj a ((its.toArray.size:Int)-1))).objs.size) kk big ⟨by rw[List.length_reverse];exact hz,its.reverse,c,vr,?_⟩,rfl,q _ (I1.hok.fresh big)⟩;rw[e,ea]
end
end L2
end
noncomputable section
namespace L2
open PySem PySem.W PySem.Calls PyProof.Rows
theorem M2{tb:String->Option Builtin}{p:Program}{w:World}{n₀:Nat}{ann:Option Value}{env:Env}{q:Pos}{n N:Nat}{s s' r:Shared}{l:List Stmt}{c c':Code}{pos p':Pos}{f:Flow}
  (h:segRun tb p w n₀ ann 1 n s (piecesOf l env c pos [topFrame q])=some (f,s',c',p')) (k:topRun tb p w n₀ ann N s' ⟨doneF f,c',p',[topFrame q]⟩=some r):topRun tb p w n₀ ann (n+N) s (restOf l env c pos [topFrame q])=some r:=by
 obtain⟨a,ha,hN⟩:=seg_top (res:=id) (K':=doneF) (H':=leaveH env) (B:=[topFrame q]) rfl n s (piecesOf l env c pos [topFrame q])
  ⟨(execs l env).wrap doneF (leaveH env) id id,c,pos,[topFrame q]⟩ _ _ _ _ ⟨rfl,rfl,.inl ⟨rfl,rfl,_,rfl,rfl⟩⟩ h
 obtain rfl:a=f:=ha
 exact hN N r k
def M3(p:Program)(w:World)(m₀:Nat)(ann:Option Value)(M Mf:Nat)(S:SharedT)(b:List Stmt)(env:Env)(pos fp:Pos):Option Shared:=
 (segRunT treeTable p w m₀ ann 1 M S (piecesOf b env (.body b env) pos [topFrame fp])).bind λ x=>topRun treeTable p w m₀ ann Mf x.2.1.abs ⟨doneF x.1,x.2.2.1,x.2.2.2,[topFrame fp]⟩
theorem M4{p q:Program}{loose:List Str}{Xt:Shared->Bool}{α:Type}{Yf:Shared->α}{Ya:World->α}{N n0 kb M Mf:Nat}{H₀:Params->Heap}{gs:Array GenState}{d₀:Drawn}{k₀ m₀:Nat}{ann:Option Value}{Sb:Params->OsState->SharedT}
  {b:List Stmt} {env:Env} {pos pos' fp:Pos}
  (open_:∀w:World,(fencedOpening treeTable p w N).map (λ s=>(s.heap,s.gens,s.drawn,s.toks))=some (H₀ w.params,gs,d₀,k₀))
  (size:∀w:World,((H₀ w.params).isNs mainGlobals&&gs.size==0,(H₀ w.params).objs.size,(H₀ w.params).nsMap mainGlobals "__annotations__")=(true,m₀,ann))
  (pre:∀w:World,(λ os=>(topGo treeTable p w m₀ ann n0 ⟨H₀ w.params,gs,d₀,k₀,os⟩ (topStub p)).map (·.2))=λ _=>some ⟨denote treeTable (.body b env),.body b env,pos,[topFrame fp]⟩)
  (EC:∀w:World,(λ os=>(topGo treeTable p w m₀ ann n0 ⟨H₀ w.params,gs,d₀,k₀,os⟩ (topStub p)).bind λ x=>segRun treeTable p w m₀ ann 1 kb x.1 (blockOf b env (.body b env) pos [topFrame fp]))=λ os=>some (.next,(Sb w.params os).abs,.body b env,pos'))
  (m1:∀w:World,(λ os=>(M3 p w m₀ ann M Mf (Sb w.params os) b env pos' fp).map λ s=>(staticsOk (importedModules p.main.body) (H₀ w.params) s.heap&&namesBound p s.heap&&gensDone s&&laidKept (H₀ w.params) s.heap,s.heap.bltView,tabsOk q s,pinSeenD q (drecsOf q) s,Yf s))=λ _=>some (true,bltViewBooted,true,pinGoodD (drecsOf q),Ya w))
  (m2:∀w:World,(λ os=>(M3 p w m₀ ann M Mf (Sb w.params os) b env pos' fp).map λ s=>seen ((recsOf q).map (·.name)) (ownsOf q) [] { s with gens:=#[] })=λ _=>some (expectedOf q))
  (m3:∀w:World,(λ os=>(M3 p w m₀ ann M Mf (Sb w.params os) b env pos' fp).map λ s=>s.heap.keysOk (looseW q loose) ((recsOf q).map (·.name)) ((litsOf q).map (·.1)) ((clssOf q (looseW q loose)).map (·.name))&&s.heap.accountedOkI (importedModules p.main.body))=λ _=>some true)
  (m4:∀w:World,(λ os=>(M3 p w m₀ ann M Mf (Sb w.params os) b env pos' fp).map λ s=>s.heap.isNs mainGlobals&&s.heap.isNs builtinsNs&&tablesOk q s.heap&&Xt s&&(s.gens.size==0))=λ _=>some true)
  (m5:∀w:World,(λ os=>(M3 p w m₀ ann M Mf (Sb w.params os) b env pos' fp).map λ s=>(plainSeenE q (looseW q loose) s,plainSeenD q loose s,wideSeen q s,clsSeenW q loose s))=λ _=>some (plainGoodE q (looseW q loose),plainGoodD q loose,wideGood q,clsGoodW q loose))
  (le:Nat.ble (n0+(kb+(M+Mf))) N=true):LeftO p q loose Xt Yf Ya N:=λ w=>by
 obtain⟨⟨h,gs',d,k,os⟩,e,e'⟩:=dN.mp (open_ w)
 obtain⟨rfl,rfl,rfl,rfl⟩:h=H₀ w.params/\gs'=gs/\d=d₀/\k=k₀:=by simpa using e'
 obtain⟨z1,z2,z3⟩:_/\_/\_:=by simpa only[Prod.mk.injEq] using size w
 obtain⟨s₁,m0,l0⟩:=dN.mp (congrFun (m1 w) os)
 obtain⟨l1,lb,lt,lp,l3⟩:_/\_/\_/\_/\_:=by simpa only[Prod.mk.injEq] using l0
 have x2:seen ((recsOf q).map (·.name)) (ownsOf q) [] { s₁ with gens:=#[] } = expectedOf q:=by
  have:=congrFun (m2 w) os;rw[m0] at this;exact aW this
 have x3:(s₁.heap.keysOk (looseW q loose) ((recsOf q).map (·.name)) ((litsOf q).map (·.1)) ((clssOf q (looseW q loose)).map (·.name))&&s₁.heap.accountedOkI (importedModules p.main.body))=true:=by
  have:=congrFun (m3 w) os;rw[m0] at this;exact aW this
 have x4:(s₁.heap.isNs mainGlobals&&s₁.heap.isNs builtinsNs&&tablesOk q s₁.heap&&Xt s₁&&(s₁.gens.size==0))=true:=by
  have:=congrFun (m4 w) os;rw[m0] at this;exact aW this
 have x5:(plainSeenE q (looseW q loose) s₁,plainSeenD q loose s₁,wideSeen q s₁,clsSeenW q loose s₁)=(plainGoodE q (looseW q loose),plainGoodD q loose,wideGood q,clsGoodW q loose):=by
  have:=congrFun (m5 w) os;rw[m0] at this;exact aW this
 have l2:openSeen q loose (importedModules p.main.body) Xt true s₁ = openGood q loose:=by
  unfold openSeen openGood;rw[x2,lb,lt,lp];refine gH rfl (gH rfl (gH ?_ (gH rfl (gH rfl x5))));simp only[aU] at x3 x4 ⊢
  exact⟨⟨⟨⟨⟨x3,x4.1.1.1.1⟩,x4.1.1.1.2⟩,x4.1.1.2⟩,x4.1.2⟩,x4.2⟩
 obtain⟨⟨f,sT,c',p'⟩,y1,y3⟩:=Option.bind_eq_some_iff.mp m0
 obtain⟨⟨sa,ta⟩,a1,a2⟩:=dN.mp (congrFun (pre w) os)
 have b1:=congrFun (EC w) os
 rw[a1] at b1
 have b2:segRun treeTable p w m₀ ann 1 kb sa (blockOf b env (.body b env) pos [topFrame fp])=some (.next,(Sb w.params os).abs,.body b env,pos'):=b1
 obtain rfl:ta=⟨denote treeTable (.body b env),.body b env,pos,[topFrame fp]⟩:=a2
 have r1:=M2 (segRun_of y1) y3
 have r2:=piece_block b2 r1
 have r3:=go_top a1 r2
 have r:=topRun_mono (N-(n0+(kb+(M+Mf)))) _ _ _ _ r3
 rw[show n0+(kb+(M+Mf))+(N-(n0+(kb+(M+Mf))))=N by have:=Nat.le_of_ble_eq_true le;omega] at r
 have t:topFrom treeTable p w N ⟨H₀ w.params,gs',d,k,os⟩=some s₁:=by
  unfold topFrom;dsimp only;rw[z1,z2,z3,r];show (match staticsOk (importedModules p.main.body) (H₀ w.params) s₁.heap&&namesBound p s₁.heap&&gensDone s₁&&laidKept (H₀ w.params) s₁.heap with | true=>_ | false=>_)=_;rw[l1]
 unfold openEnds
 rw[e]
 show (topFrom treeTable p w N _).map _=_
 rw[t]
 exact congrArg some (gH l2 l3)
end L2
end
noncomputable section
namespace L2
open PySem PySem.Spec PyProof.Rows
section
variable{X:Cx}
def XN(_ j:Int):Prop:=0<j/\j.natAbs<2^1000
theorem Pq:xN X (binaryOp .FloorDiv) (rI XN λ i j=>.int (i.fdiv j)):=Vg λ i j _ _ _ _ _ hc q=>by
 have h1:(0:Int)<j:=hc.1
 refine floordiv_int (by omega) q (.inl (PyProof.noPylong_of_log2 ?_))
 have h0:j.natAbs≠0:=by omega
 have:=(Nat.log2_lt h0).mpr hc.2
 omega
def XO(K:aj):V->V->Hp->VK->Prop:=λ x y H Q=>∃(p:Addr) (xs:List V) (i:Nat) (v:V),x=.ref p/\y=.int (i:Int)/\jO K H p xs/\xs[i]? = some v/\Q v H
theorem Pr:Xa X (XO X.K):=by
 intro pins s σ H x y v u Q I rx ry h
 obtain⟨p,xs,i,z,rfl,rfl,hq,he,q⟩:=h
 cases rx
 obtain⟨t,rfl⟩:=ry
 obtain⟨its,r,pl,hz⟩:=I.list hq
 obtain⟨w,ew,rw'⟩:=r.get he
 have hi:i<xs.length:=(ao.mp he).1
 refine wpAny_getItem_list pl.isList (by omega) ?_ ?_ ⟨z,H,I,rw',q⟩
 ·rw[sizeLine_eq] at hz
  omega
 ·rw[bZ]
  simpa using ew
theorem ints_get:∀{ns:List Int}{us:List Value},IntsAre us ns->∀{i:Nat}{v:Value},us[i]? = some v->∃t,v=.int (ns.getD i 0) t
 |_,_,.nil,i,v,h=>by cases h
 |_,_,.cons n t h,0,v,e=>by cases e;exact⟨t,rfl⟩
 |_,_,.cons n t h,i+1,v,e=>ints_get h (i:=i) e
theorem JT{prog:Program}{w:World}{A:Around}{ns:List Int}{its:List Value}(e:IntsAre its ns) :
  TruthOf prog w A (λ i v=>its.toArray[i]? = some v) (λ i=>(ns.map λ n=>(n != 0)).getD i false):=λ i v s Q E hv hq=>by
 have hv':its[i]? = some v:=by simpa using hv
 obtain⟨t,rfl⟩:=ints_get e hv'
 have hi:i<ns.length:=by
  have:=(ao.mp hv').1;rw[<-e.length];exact this
 have hq':Q ((ns.map λ n=>(n != 0)).getD i false) s:=hq
 have hg:(ns.map λ n=>(n != 0)).getD i false=(ns.getD i 0 != 0):=by
  rw[aa,ai,af hi,aa,af hi];rfl
 rw[hg] at hq'
 exact jc hq'
def XQ(K:aj):List V->Hp->VK->Prop:=λ vs H Q=>∃(a:Addr) (ns:List Int),vs=[V.ref a]/\jO K H a (ns.map V.int)/\Q (.bl ((ns.map λ n=>(n != 0)).any id)) H
theorem Sx(hc:X.calm=true):uf X (.builtin "any") (XQ X.K):=by
 intro pins s σ H vs us Q I r h
 obtain⟨a,ns,rfl,hs,q⟩:=h
 obtain⟨its,rv,hl,_⟩:=I.list hs
 rw[Vals.JG r]
 have hb:=rv.ints
 refine call_any_walk (Cv hl.isList λ s₂ e2 st hne=>?_)
 subst e2
 refine⟨_,_,_,_,_,_,_,rfl,Walks.list (A:=X.A.in1) (I.ok.hd hc) _ a hne its.toArray,st,JT hb,λ h' tk hk=>?_⟩
 refine⟨.bl _,H,I.kept λ b o eo=>hk b o (λ hmem=>?_) (Heap.get?_push_of_some _ eo),?_,q⟩
 ·rcases aC.mp hmem with e1 | hmem
  ·exact absurd (e1 ▸ Heap.lt_size eo) (bI _)
  ·cases hmem
 ·show Value.bool _=Value.bool _
  rw[<-any_range,aD,hb.length,ah]
theorem Sy(K:aj)(hc:X.calm=true)(eK:X.K=K:=by rfl):uf X (.builtin "all") (Xs K):=eK ▸ OH hc
theorem Pu(K:aj){tg l:Expr}{tl:TE}(hl:PE X l tl)(eK:X.K=K:=by rfl):PI X tg l (Ui K tl):=eK ▸ kL hl
end
end L2
end
noncomputable section
namespace Rd
open Ra61
def skip:Bool->B->B
 |_,[]=>[]
 |false,c::r=>if c<=32 then skip false r else if c=35 then skip true r else c::r
 |true,c::r=>if c=10 then skip false r else skip true r
def here(b:B):Nat:=b.headD 256
def passes(m:Nat)(b:B):Bool×B:=if here (skip false b)=m then (true,(skip false b).tail) else (false,skip false b)
def kC(b:B):Option (B×B):=
 let c:=skip false b
 if isLetter (here c)=true then
  let w:=c.takeWhile isWord
  if w.length<=16 then some (w,c.drop w.length) else none
 else none
def kI(b:B):Option (Nat×B):=
 let c:=skip false b
 let d:=c.takeWhile isDigit
 if 1<=d.length/\d.length<=7 then if value d<=1000000 then some (value d,c.drop d.length) else none else none
def qv(b:B):Option (Int×B):=
 (some (passes 45 b)).bind λ x=>(kI x.2).bind λ n=>if n.1<=1000 then some (if x.1=true then -(n.1:Int) else (n.1:Int),n.2) else none
def oE(b:B):Option ((B×Nat)×B):=
 (kC b).bind λ x=>(some (passes 47 x.2)).bind λ y=>
  (if y.1=true then kI y.2 else some (1,y.2)).bind λ n=>if 1<=n.1/\n.1<=1000 then some ((x.1,n.1),n.2) else none
def nG:Nat->B->Option (List (B×Nat)×B)
 |0,_=>none
 |n+1,b=>(some (passes 44 b)).bind λ x=>
  if x.1=true then (oE x.2).bind λ w=>(nG n w.2).map λ r=>(w.1::r.1,r.2) else some ([],x.2)
def lW(b:B):Option (RawChoice×B):=
 (kC b).bind λ x=>(qv x.2).bind λ g=>(some (passes 58 g.2)).bind λ u=>
  if u.1=true then (oE u.2).bind λ w=>(nG (w.2.length+1) w.2).bind λ r=>(some (passes 59 r.2)).bind λ v=>
   if v.1=true then if ((w.1::r.1).map λ w=>w.1).Nodup then some (⟨x.1,g.1,w.1::r.1⟩,v.2) else none else none
  else none
def lG:Nat->B->Option (List RawChoice×B)
 |0,_=>none
 |n+1,b=>(some (passes 125 b)).bind λ x=>
  if x.1=true then some ([],x.2) else (lW x.2).bind λ c=>(lG n c.2).map λ r=>(c.1::r.1,r.2)
def readState(b:B):Option (RawState×B):=
 (kC b).bind λ k=>if k.1=[115,116,97,116,101] then (kC k.2).bind λ x=>(some (passes 123 x.2)).bind λ u=>
  if u.1=true then (lG (u.2.length+1) u.2).bind λ c=>
   if c.1.length<=8 then if (c.1.map λ c=>c.name).Nodup then some (⟨x.1,c.1⟩,c.2) else none else none
  else none
 else none
def mQ:Nat->B->Option (List RawState)
 |0,_=>none
 |n+1,b=>if skip false b=[] then some [] else (readState (skip false b)).bind λ s=>(mQ n s.2).map λ r=>s.1::r
def placeOf(names:List B)(x:B):Nat:=(names.findIdx? λ y=>y==x).getD 0
def placed(raw:List RawState):Net:=
 let names:=raw.map λ s=>s.name
 raw.map λ s=>⟨s.name,s.choices.map λ c=>⟨c.name,c.gain,c.ways.map λ w=>(placeOf names w.1,w.2)⟩⟩
def kT(b:B):Option Net:=
 (mQ (b.length+1) b).bind λ raw=>
  if 1<=raw.length/\raw.length<=16 then
   if (raw.map λ s=>s.name).Nodup then
    if raw.all λ s=>s.choices.all λ c=>c.ways.all λ w=>(raw.map λ s=>s.name).contains w.1 then some (placed raw) else none
   else none
  else none
theorem lH:∀(q:Bool) (b:B),(skip q b).length<=b.length
 |q,[]=>by cases q<;>simp[skip]
 |false,c::r=>by
  unfold skip;split
  ·have:=lH false r;simp;omega
  ·split
   ·have:=lH true r;simp;omega
   ·simp
 |true,c::r=>by
  unfold skip;split
  ·have:=lH false r;simp;omega
  ·have:=lH true r;simp;omega
theorem qw:∀(q:Bool) (b:B),skip q b <:+ b
 |q,[]=>by cases q<;>simp[skip]
 |false,c::r=>by
  unfold skip;split
  ·exact (qw false r).trans (fX c r)
  ·split
   ·exact (qw true r).trans (fX c r)
   ·exact fY _
 |true,c::r=>by
  unfold skip;split
  ·exact (qw false r).trans (fX c r)
  ·exact (qw true r).trans (fX c r)
theorem FE:∀b:B,skip true b=skip false (b.dropWhile λ x=>x != 10)
 |[]=>by simp[skip]
 |c::r=>by
  by_cases h:c=10
  ·subst h;simp[skip]
  ·rw[bL (by simp[h]),<-FE r];simp[skip,h]
theorem uu:∀(q:Bool) (b:B),skip false (skip q b)=skip q b
 |q,[]=>by cases q<;>simp[skip]
 |false,c::r=>by
  by_cases h:c<=32
  ·simp[skip,h,uu false r]
  ·by_cases h2:c=35
   ·subst h2;simp[skip,uu true r]
   ·simp[skip,h,h2]
 |true,c::r=>by
  by_cases h:c=10
  ·simp[skip,h,uu false r]
  ·simp[skip,h,uu true r]
theorem AJ(q:Bool)(b:B):skip q b=[]\/∃c r,skip q b=c::r/\32<c/\c≠35:=by
 have h:=uu q b
 cases e:skip q b with
 |nil=>exact .inl rfl
 |cons c r=>
  right
  rw[e] at h;refine⟨c,r,rfl,?_,?_⟩
  ·by_cases hc:c<=32
   ·simp[skip,hc] at h
    have:=lH false r;have h2:=congrArg eF h;simp at h2;omega
   ·omega
  ·intro hc;subst hc;simp[skip] at h
   have:=lH true r;have h2:=congrArg eF h;simp at h2;omega
theorem dropWhile_len(p:Nat->Bool)(r:B):(r.dropWhile p).length<=r.length:=(dX p).length_le
theorem qx:∀(n m:Nat) (b:B),b.length<n->b.length<m->tokens n b=tokens m b
 |0,_,_,h,_=>by omega
 |_,0,_,_,h=>by omega
 |n+1,m+1,[],_,_=>by simp[tokens]
 |n+1,m+1,c::r,h1,h2=>by
  have hl:r.length<n/\r.length<m:=by simp at h1 h2;omega
  have d1:=dropWhile_len (λ x=>x != 10) r;simp only[tokens]
  rw[qx n m r hl.1 hl.2,qx n m (r.dropWhile λ x=>x != 10) (by omega) (by omega)];have w1:isLetter c=true->((c::r).drop ((c::r).takeWhile isWord).length).length<=r.length:=λ h=>by
   rw[bF (by simp[isWord,h])];simp
  have w2:isDigit c=true->((c::r).drop ((c::r).takeWhile isDigit).length).length<=r.length:=λ h=>by
   rw[bF h];simp
  by_cases hL:isLetter c=true
  ·have:=w1 hL;rw[qx n m ((c::r).drop ((c::r).takeWhile isWord).length) (by omega) (by omega)];simp[hL]
  ·by_cases hD:isDigit c=true
   ·have:=w2 hD;rw[qx n m ((c::r).drop ((c::r).takeWhile isDigit).length) (by omega) (by omega)];simp[hL,hD]
   ·simp[hL,hD]
def lex(b:B):Option (List Tok):=tokens (b.length+1) b
theorem JU{n:Nat}{b:B}(h:b.length<n):tokens n b=lex b:=qx _ _ _ h (aE _)
theorem FF{c:Nat}{r:B}(h:c<=32):lex (c::r)=lex r:=by
 unfold lex;simp only[tokens,h,if_true,aK]
theorem Pw{r:B}:lex (35::r)=lex (r.dropWhile λ x=>x != 10):=by
 unfold lex;simp only[tokens,aK]
 rw[if_neg (by decide),if_pos trivial]
 exact JU (eu (dropWhile_len _ _))
theorem wg(n c:Nat)(r:B):tokens (n+1) (c::r)=if c<=32 then tokens n r else if c=35 then tokens n (r.dropWhile λ x=>x != 10)
  else if isLetter c=true then (if 16<((c::r).takeWhile isWord).length then none else (tokens n ((c::r).drop ((c::r).takeWhile isWord).length)).map λ l=>.name ((c::r).takeWhile isWord)::l)
  else if isDigit c=true then (if 7<((c::r).takeWhile isDigit).length\/1000000<value ((c::r).takeWhile isDigit) then none else (tokens n ((c::r).drop ((c::r).takeWhile isDigit).length)).map λ l=>.num (value ((c::r).takeWhile isDigit))::l)
  else if signs.contains c=true then (tokens n r).map λ l=>.sign c::l else none:=rfl
theorem CJ{c:Nat}{r:B}(h:isLetter c=true)(h1:32<c)(h2:c≠35) :
  lex (c::r)=if 16<((c::r).takeWhile isWord).length then none else (lex ((c::r).drop ((c::r).takeWhile isWord).length)).map λ l=>.name ((c::r).takeWhile isWord)::l:=by
 have w1:((c::r).drop ((c::r).takeWhile isWord).length).length<r.length+1:=by
  rw[bF (by simp[isWord,h])];simp;omega
 have e:lex (c::r)=tokens (r.length+1+1) (c::r):=rfl
 rw[e,wg,if_neg (by omega),if_neg h2,if_pos h,JU w1]
theorem FG{c:Nat}{r:B}(h:isDigit c=true)(h1:32<c)(h2:c≠35)(hL:isLetter c=false) :
  lex (c::r)=if 7<((c::r).takeWhile isDigit).length\/1000000<value ((c::r).takeWhile isDigit) then none else (lex ((c::r).drop ((c::r).takeWhile isDigit).length)).map λ l=>.num (value ((c::r).takeWhile isDigit))::l:=by
 have w1:((c::r).drop ((c::r).takeWhile isDigit).length).length<r.length+1:=by
  rw[bF h];simp;omega
 have e:lex (c::r)=tokens (r.length+1+1) (c::r):=rfl
 rw[e,wg,if_neg (by omega),if_neg h2,if_neg (by simp[hL]),if_pos h,JU w1]
theorem HZ{c:Nat}{r:B}(h1:32<c)(h2:c≠35)(hL:isLetter c=false)(hD:isDigit c=false) :
  lex (c::r)=if signs.contains c=true then (lex r).map λ l=>.sign c::l else none:=by
 have e:lex (c::r)=tokens (r.length+1+1) (c::r):=rfl
 rw[e,wg,if_neg (by omega),if_neg h2,if_neg (by simp[hL]),if_neg (by simp[hD])]
 rfl
theorem wu:∀(q:Bool) (b:B),lex (skip q b)=if q=true then lex (b.dropWhile λ x=>x != 10) else lex b
 |q,[]=>by cases q<;>simp[skip]
 |false,c::r=>by
  by_cases h:c<=32
  ·have:=wu false r;simp only[skip,h,if_true,FF h];simpa using this
  ·by_cases h2:c=35
   ·subst h2;have:=wu true r;simp only[skip,Pw];simpa using this
   ·simp[skip,h,h2]
 |true,c::r=>by
  by_cases h:c=10
  ·subst h;have:=wu false r;have e:lex (10::r)=lex r:=FF (by decide);simp only[skip,if_true];simpa [e] using this
  ·have:=wu true r;rw[bL (by simp[h])];simp only[skip,h,if_false];simpa using this
theorem pW(b:B):lex (skip false b)=lex b:=by simpa using wu false b
end Rd
end
noncomputable section
namespace Rd
open Ra61
def jK{α:Type}(r:Option (α×B))(p:List Tok->Option (α×List Tok))(b:B):Prop:=
 (∀l,lex b=some l->match r with
  |none=>p l=none
  |some x=>∃l',p l=some (x.1,l')/\lex x.2=some l') /\
 (lex b=none->∀x,r=some x->lex x.2=none)
theorem jK.no{α:Type}{p:List Tok->Option (α×List Tok)}{b:B}(h:∀l,lex b=some l->p l=none):jK none p b:=⟨h,λ _ _ e=>by cases e⟩
theorem jK.bind{α β:Type}{r:Option (α×B)}{p:List Tok->Option (α×List Tok)}{b:B}{S:α×B->Option (β×B)}{q:α->List Tok->Option (β×List Tok)}
  (h:jK r p b) (k:∀x,r=some x->jK (S x) (q x.1) x.2):jK (r.bind S) (λ l=>(p l).bind λ x=>q x.1 x.2) b:=by
 cases r with
 |none=>exact .no λ l hl=>by rw[h.1 l hl];rfl
 |some x=>
  have k:=k x rfl;refine⟨λ l hl=>?_,λ hl y hy=>?_⟩
  ·obtain⟨l',h1,h2⟩:=h.1 l hl;have:=k.1 l' h2;simp only[ak,h1]
   exact this
  ·exact k.2 (h.2 hl x rfl) y hy
theorem jK.bnd{α β:Type}{r:Option (α×B)}{p:List Tok->Option (α×List Tok)}{b:B}{S:α×B->Option (β×B)}{Q:α×List Tok->Option (β×List Tok)}
  (h:jK r p b) (k:∀x,r=some x->jK (S x) (λ l=>Q (x.1,l)) x.2):jK (r.bind S) (λ l=>(p l).bind Q) b:=
 jK.bind (q:=λ x l=>Q (x,l)) h k
theorem jK.congr{α:Type}{r:Option (α×B)}{p q:List Tok->Option (α×List Tok)}{b:B}(h:jK r p b)(e:∀l,lex b=some l->p l=q l):jK r q b:=by
 refine⟨λ l hl=>?_,h.2⟩
 rw[<-e l hl];exact h.1 l hl
theorem jK.pure{α:Type}(v:α)(b:B):jK (some (v,b)) (λ l=>some (v,l)) b:=⟨λ l hl=>⟨l,rfl,hl⟩,λ hl x e=>by cases e;exact hl⟩
theorem jK.guard{α:Type}{c:Prop}[Decidable c]{r:Option (α×B)}{p:List Tok->Option (α×List Tok)}{b:B}(h:c->jK r p b):jK (if c then r else none) (λ l=>if c then p l else none) b:=by
 by_cases hc:c
 ·simp only[hc,if_true];exact h hc
 ·simp only[hc,if_false];exact .no λ _ _=>rfl
theorem jK.ite{α:Type}{c:Prop}[Decidable c]{r r':Option (α×B)}{p p':List Tok->Option (α×List Tok)}{b:B}(h:c->jK r p b)(h':¬c->jK r' p' b):jK (if c then r else r') (λ l=>if c then p l else p' l) b:=by
 by_cases hc:c
 ·simp only[hc,if_true];exact h hc
 ·simp only[hc,if_false];exact h' hc
theorem jK.map{α β:Type}{r:Option (α×B)}{p:List Tok->Option (α×List Tok)}{b:B}{f:α->β}(h:jK r p b):jK (r.map λ x=>(f x.1,x.2)) (λ l=>(p l).map λ x=>(f x.1,x.2)) b:=by
 cases r with
 |none=>exact .no λ l hl=>by rw[h.1 l hl];rfl
 |some x=>exact⟨λ l hl=>let ⟨l',h1,h2⟩:=h.1 l hl;⟨l',by simp only[h1];rfl,h2⟩,λ hl y hy=>by cases hy;exact h.2 hl x rfl⟩
theorem JV{m:Nat}(h:m∈signs):32<m/\m≠35/\isLetter m=false/\isDigit m=false/\signs.contains m=true/\m≠256:=by
 simp only[signs,aC,dH,or_false] at h
 rcases h with rfl | rfl | rfl | rfl | rfl | rfl | rfl<;>decide
def lS(m:Nat)(l:List Tok):Option (Bool×List Tok):=some (if l.head? = some (.sign m) then (true,l.drop 1) else (false,l))
theorem uv(b:B)(c:Nat)(r:B)(e:Rd.skip false b=c::r)(l:List Tok)(hl:lex b=some l) :
  (isLetter c=true/\((c::r).takeWhile isWord).length<=16/\∃l',l=.name ((c::r).takeWhile isWord)::l'/\lex ((c::r).drop ((c::r).takeWhile isWord).length)=some l') \/
  (isLetter c=false/\isDigit c=true/\((c::r).takeWhile isDigit).length<=7/\value ((c::r).takeWhile isDigit)<=1000000/\∃l',l=.num (value ((c::r).takeWhile isDigit))::l'/\lex ((c::r).drop ((c::r).takeWhile isDigit).length)=some l') \/
  (isLetter c=false/\isDigit c=false/\signs.contains c=true/\∃l',l=.sign c::l'/\lex r=some l'):=by
 obtain⟨h1,h2⟩:32<c/\c≠35:=by
  rcases AJ false b with h | ⟨c',r',h,a,b'⟩
  ·rw[e] at h;cases h
  ·rw[e] at h;cases h;exact⟨a,b'⟩
 rw[<-pW,e] at hl
 by_cases hL:isLetter c=true
 ·left
  rw[CJ hL h1 h2] at hl
  split at hl
  ·cases hl
  ·cases e2:lex ((c::r).drop ((c::r).takeWhile isWord).length) with
   |none=>rw[e2] at hl;cases hl
   |some l'=>rw[e2] at hl;cases hl;exact⟨hL,by omega,l',rfl,rfl⟩
 ·have hL':isLetter c=false:=by simpa using hL
  right
  by_cases hD:isDigit c=true
  ·left
   rw[FG hD h1 h2 hL'] at hl
   split at hl
   ·cases hl
   ·cases e2:lex ((c::r).drop ((c::r).takeWhile isDigit).length) with
    |none=>rw[e2] at hl;cases hl
    |some l'=>rw[e2] at hl;cases hl;exact⟨hL',hD,by omega,by omega,l',rfl,rfl⟩
  ·have hD':isDigit c=false:=by simpa using hD
   right
   rw[HZ h1 h2 hL' hD'] at hl
   split at hl
   ·cases e2:lex r with
    |none=>rw[e2] at hl;cases hl
    |some l'=>rw[e2] at hl;cases hl;exact⟨hL',hD',by assumption,l',rfl,rfl⟩
   ·cases hl
theorem B0{b:B}(e:Rd.skip false b=[]):lex b=some []:=by rw[<-pW,e];rfl
theorem oQ{m:Nat}(hm:m∈signs)(b:B):jK (some (passes m b)) (lS m) b:=by
 obtain⟨a1,a2,a3,a4,a5,a6⟩:=JV hm
 cases e:Rd.skip false b with
 |nil=>
  have hp:passes m b=(false,[]):=by unfold passes;rw[e];simp[here];exact λ h=>absurd h.symm a6
  have hl:=B0 e;rw[hp];refine⟨λ l h=>?_,λ h=>by rw[hl] at h;cases h⟩;rw[hl] at h;cases h;exact⟨[],by simp[lS],rfl⟩
 |cons c r=>
  by_cases hc:c=m
  ·subst hc;have hp:passes c b=(true,r):=by unfold passes;rw[e];simp[here]
   rw[hp];have el:lex b=(lex r).map λ l=>.sign c::l:=by rw[<-pW,e,HZ a1 a2 a3 a4,if_pos a5]
   refine⟨λ l h=>?_,λ h x ex=>?_⟩
   ·rw[el] at h
    cases e2:lex r with
    |none=>rw[e2] at h;cases h
    |some l'=>rw[e2] at h;cases h;exact⟨l',by simp[lS],e2⟩
   ·cases ex;rw[el] at h
    cases e2:lex r with
    |none=>rfl
    |some l'=>rw[e2] at h;cases h
  ·have hp:passes m b=(false,c::r):=by unfold passes;rw[e];simp[here,hc]
   rw[hp];have el:lex (c::r)=lex b:=by rw[<-e,pW]
   refine⟨λ l h=>⟨l,?_,by rw[<-h];exact el⟩,λ h x ex=>by cases ex;rw[<-h];exact el⟩;have:l.head?≠some (.sign m):=by
    rcases uv b c r e l h with ⟨_,_,l',rfl,_⟩ | ⟨_,_,_,_,l',rfl,_⟩ | ⟨_,_,_,l',rfl,_⟩
    ·simp
    ·simp
    ·simp;exact hc
   simp[lS,this]
theorem zu(b:B):jK (kC b) name b:=by
 cases e:Rd.skip false b with
 |nil=>
  have hp:kC b=none:=by
   unfold kC;rw[e];rfl
  rw[hp];refine .no λ l h=>?_
  rw[B0 e] at h;cases h;rfl
 |cons c r=>
  by_cases hL:isLetter c=true
  ·obtain⟨h1,h2⟩:32<c/\c≠35:=by
    rcases AJ false b with h | ⟨c',r',h,a,b'⟩
    ·rw[e] at h;cases h
    ·rw[e] at h;cases h;exact⟨a,b'⟩
   have el:lex b=if 16<((c::r).takeWhile isWord).length then none else (lex ((c::r).drop ((c::r).takeWhile isWord).length)).map λ l=>.name ((c::r).takeWhile isWord)::l:=by
    rw[<-pW,e,CJ hL h1 h2]
   have hp:kC b=if ((c::r).takeWhile isWord).length<=16 then some ((c::r).takeWhile isWord,(c::r).drop ((c::r).takeWhile isWord).length) else none:=by
    unfold kC;rw[e];simp only[here,List.headD_cons,hL,if_true]
   rw[hp]
   by_cases hw:((c::r).takeWhile isWord).length<=16
   ·rw[if_pos hw];rw[if_neg (by omega)] at el;refine⟨λ l h=>?_,λ h x ex=>?_⟩
    ·rw[el] at h
     cases e2:lex ((c::r).drop ((c::r).takeWhile isWord).length) with
     |none=>rw[e2] at h;cases h
     |some l'=>rw[e2] at h;cases h;exact⟨l',rfl,e2⟩
    ·cases ex;rw[el] at h
     cases e2:lex ((c::r).drop ((c::r).takeWhile isWord).length) with
     |none=>rfl
     |some l'=>rw[e2] at h;cases h
   ·rw[if_neg hw];rw[if_pos (by omega)] at el;exact .no λ l h=>by rw[el] at h;cases h
  ·have hp:kC b=none:=by
    unfold kC;rw[e];simp[here,hL]
   rw[hp];refine .no λ l h=>?_
   rcases uv b c r e l h with ⟨h',_⟩ | ⟨_,_,_,_,l',rfl,_⟩ | ⟨_,_,_,l',rfl,_⟩
   ·exact absurd h' hL
   ·rfl
   ·rfl
theorem GH{c:Nat}(h:isDigit c=true):isLetter c=false:=by
 simp only[isDigit,isLetter,aU,decide_eq_true_eq] at h ⊢
 simp;omega
theorem CK(b:B):jK (kI b) number b:=by
 cases e:Rd.skip false b with
 |nil=>
  have hp:kI b=none:=by
   unfold kI;rw[e];rfl
  rw[hp];refine .no λ l h=>?_
  rw[B0 e] at h;cases h;rfl
 |cons c r=>
  by_cases hD:isDigit c=true
  ·obtain⟨h1,h2⟩:32<c/\c≠35:=by
    rcases AJ false b with h | ⟨c',r',h,a,b'⟩
    ·rw[e] at h;cases h
    ·rw[e] at h;cases h;exact⟨a,b'⟩
   have el:lex b=if 7<((c::r).takeWhile isDigit).length\/1000000<value ((c::r).takeWhile isDigit) then none else (lex ((c::r).drop ((c::r).takeWhile isDigit).length)).map λ l=>.num (value ((c::r).takeWhile isDigit))::l:=by
    rw[<-pW,e,FG hD h1 h2 (GH hD)]
   have h0:1<=((c::r).takeWhile isDigit).length:=by rw[bF hD];simp
   have hp:kI b=if ((c::r).takeWhile isDigit).length<=7 then if value ((c::r).takeWhile isDigit)<=1000000 then some (value ((c::r).takeWhile isDigit),(c::r).drop ((c::r).takeWhile isDigit).length) else none else none:=by
    unfold kI;rw[e];simp only[h0,true_and]
   rw[hp]
   by_cases hw:((c::r).takeWhile isDigit).length<=7/\value ((c::r).takeWhile isDigit)<=1000000
   ·rw[if_pos hw.1,if_pos hw.2];rw[if_neg (by omega)] at el;refine⟨λ l h=>?_,λ h x ex=>?_⟩
    ·rw[el] at h
     cases e2:lex ((c::r).drop ((c::r).takeWhile isDigit).length) with
     |none=>rw[e2] at h;cases h
     |some l'=>rw[e2] at h;cases h;exact⟨l',rfl,e2⟩
    ·cases ex;rw[el] at h
     cases e2:lex ((c::r).drop ((c::r).takeWhile isDigit).length) with
     |none=>rfl
     |some l'=>rw[e2] at h;cases h
   ·rw[if_pos (by omega)] at el;have:(if ((c::r).takeWhile isDigit).length<=7 then if value ((c::r).takeWhile isDigit)<=1000000 then some (value ((c::r).takeWhile isDigit),(c::r).drop ((c::r).takeWhile isDigit).length) else none else none)=none:=by
     split
     ·split
      ·exact absurd ⟨by assumption,by assumption⟩ hw
      ·rfl
     ·rfl
    rw[this];exact .no λ l h=>by rw[el] at h;cases h
  ·have hp:kI b=none:=by
    unfold kI;simp only[e,eH hD];rfl
   rw[hp];refine .no λ l h=>?_
   rcases uv b c r e l h with ⟨_,_,l',rfl,_⟩ | ⟨_,h',_⟩ | ⟨_,_,_,l',rfl,_⟩
   ·rfl
   ·exact absurd h' hD
   ·rfl
theorem jQ(m:Nat)(b:B):(passes m b).2.length<=b.length:=by
 unfold passes;have:=lH false b;split<;>simp<;>omega
theorem xQ{m:Nat}{b:B}(hm:m≠256)(h:(passes m b).1=true):(passes m b).2.length<b.length:=by
 unfold passes at h ⊢
 have:=lH false b
 split
 ·rename_i e
  cases q:Rd.skip false b with
  |nil=>rw[q] at e;simp[here] at e;exact absurd e.symm hm
  |cons c r=>rw[q] at this;simp at this ⊢;omega
 ·rename_i e;rw[if_neg e] at h;cases h
theorem lI{b:B}{x:B×B}(h:kC b=some x):x.2.length<b.length:=by
 unfold kC at h
 have:=lH false b
 cases q:Rd.skip false b with
 |nil=>rw[q] at h;simp[here,isLetter] at h
 |cons c r=>
  rw[q] at h this;have h:(if isLetter c=true then (if ((c::r).takeWhile isWord).length<=16 then some ((c::r).takeWhile isWord,(c::r).drop ((c::r).takeWhile isWord).length) else none) else none)=some x:=h
  by_cases hL:isLetter c=true
  ·rw[if_pos hL] at h
   by_cases hw:((c::r).takeWhile isWord).length<=16
   ·rw[if_pos hw] at h
    cases h;rw[bF (by simp[isWord,hL])];simp at this ⊢;omega
   ·rw[if_neg hw] at h;cases h
  ·rw[if_neg hL] at h;cases h
theorem yg{b:B}{x:Nat×B}(h:kI b=some x):x.2.length<b.length:=by
 unfold kI at h
 have:=lH false b
 simp only at h
 split at h
 ·rename_i h1
  split at h
  ·cases h;have hl:((Rd.skip false b).takeWhile isDigit).length<=(Rd.skip false b).length:=(List.takeWhile_prefix _).length_le;simp;omega
  ·cases h
 ·cases h
end Rd
end
noncomputable section
namespace Rd
open Ra61
def FH(l:List Tok):Option (Int×List Tok):=(lS 45 l).bind λ x=>(number x.2).bind λ n=>if n.1<=1000 then some (if x.1=true then -(n.1:Int) else (n.1:Int),n.2) else none
def BL(l:List Tok):Option ((B×Nat)×List Tok):=(name l).bind λ x=>(lS 47 x.2).bind λ y=>(if y.1=true then number y.2 else some (1,y.2)).bind λ n=>if 1<=n.1/\n.1<=1000 then some ((x.1,n.1),n.2) else none
def Bg:Nat->List Tok->Option (List (B×Nat)×List Tok)
 |0,_=>none
 |n+1,l=>(lS 44 l).bind λ x=>if x.1=true then (BL x.2).bind λ w=>(Bg n w.2).map λ r=>(w.1::r.1,r.2) else some ([],x.2)
def PM(l:List Tok):=Bg (l.length+1) l
def sS(l:List Tok):Option (RawChoice×List Tok):=(name l).bind λ x=>(FH x.2).bind λ g=>(lS 58 g.2).bind λ u=>if u.1=true then (BL u.2).bind λ w=>(PM w.2).bind λ r=>
 (lS 59 r.2).bind λ v=>if v.1=true then if ((w.1::r.1).map λ w=>w.1).Nodup then some (⟨x.1,g.1,w.1::r.1⟩,v.2) else none else none else none
def CL:Nat->List Tok->Option (List RawChoice×List Tok)
 |0,_=>none
 |n+1,l=>(lS 125 l).bind λ x=>if x.1=true then some ([],x.2) else (sS x.2).bind λ c=>(CL n c.2).map λ r=>(c.1::r.1,r.2)
def PC(l:List Tok):=CL (l.length+1) l
def pState(l:List Tok):Option (RawState×List Tok):=(name l).bind λ k=>if k.1=[115,116,97,116,101] then (name k.2).bind λ x=>(lS 123 x.2).bind λ u=>if u.1=true then (PC u.2).bind λ c=>
 if c.1.length<=8 then if (c.1.map λ c=>c.name).Nodup then some (⟨x.1,c.1⟩,c.2) else none else none else none else none
def GI:Nat->List Tok->Option (List RawState)
 |0,_=>none
 |n+1,l=>if l.isEmpty=true then some [] else (pState l).bind λ s=>(GI n s.2).map λ r=>s.1::r
theorem sU{l:List Tok}{x:B×List Tok}(h:name l=some x):x.2.length<l.length:=by
 unfold name at h;split at h
 ·cases h;simp
 ·cases h
theorem uw{l:List Tok}{x:Nat×List Tok}(h:number l=some x):x.2.length<l.length:=by
 unfold number at h;split at h
 ·cases h;simp
 ·cases h
theorem pD{m:Nat}{l:List Tok}{x:Bool×List Tok}(h:lS m l=some x):x.2.length<=l.length:=by
 unfold lS at h;cases h;split<;>simp
theorem Ia{m:Nat}{l:List Tok}{x:Bool×List Tok}(h:lS m l=some x)(hx:x.1=true):x.2.length<l.length:=by
 unfold lS at h;cases h
 split at hx
 ·rename_i e;rw[if_pos e]
  cases l with
  |nil=>simp at e
  |cons a b=>simp
 ·cases hx
theorem bind_some{α β:Type}{o:Option α}{f:α->Option β}{y:β}(h:o.bind f=some y):∃x,o=some x/\f x=some y:=by
 cases o with
 |none=>cases h
 |some x=>exact⟨x,rfl,h⟩
theorem jE{α:Type}{c:Prop}[Decidable c]{o:Option α}{y:α}(h:(if c then o else none)=some y):c/\o=some y:=by
 by_cases hc:c
 ·rw[if_pos hc] at h;exact⟨hc,h⟩
 ·rw[if_neg hc] at h;cases h
theorem map_some{α β:Type}{o:Option α}{f:α->β}{y:β}(h:o.map f=some y):∃x,o=some x/\y=f x:=by
 cases o with
 |none=>cases h
 |some x=>cases h;exact⟨x,rfl,rfl⟩
theorem Px{l:List Tok}{x}(h:FH l=some x):x.2.length<l.length:=by
 obtain⟨a,h1,h⟩:=bind_some h
 obtain⟨b,h2,h⟩:=bind_some h
 obtain⟨_,h⟩:=jE h
 cases h
 have:=pD h1;have:=uw h2;simp only;omega
theorem B3{l:List Tok}{x}(h:BL l=some x):x.2.length<l.length:=by
 obtain⟨a,h1,h⟩:=bind_some h
 obtain⟨b,h2,h⟩:=bind_some h
 obtain⟨c,h3,h⟩:=bind_some h
 obtain⟨_,h⟩:=jE h
 cases h
 have:=sU h1;have:=pD h2
 split at h3
 ·have:=uw h3;simp only;omega
 ·cases h3;simp only;omega
theorem Ib:∀{n:Nat}{l:List Tok} {x},Bg n l=some x->x.2.length<=l.length
 |0,_,_,h=>by cases h
 |n+1,l,x,h=>by
  obtain⟨a,h1,h⟩:=bind_some h;have:=pD h1
  split at h
  ·obtain⟨b,h2,h⟩:=bind_some h;obtain⟨c,h3,h⟩:=map_some h;subst h;have:=B3 h2;have:=Ib h3;simp only;omega
  ·cases h;simp only;omega
theorem CM:∀(n m:Nat) (l:List Tok),l.length<n->l.length<m->Bg n l=Bg m l
 |0,_,_,h,_=>by omega
 |_,0,_,_,h=>by omega
 |n+1,m+1,l,h1,h2=>by
  simp only[Bg]
  cases e:lS 44 l with
  |none=>rfl
  |some x=>
   simp only[ak]
   split
   ·have:=Ia e (by assumption)
    cases e2:BL x.2 with
    |none=>rfl
    |some w=>
     have:=B3 e2;simp only[ak]
     rw[CM n m w.2 (by omega) (by omega)]
   ·rfl
theorem GJ(l:List Tok):PM l=(lS 44 l).bind λ x=>if x.1=true then (BL x.2).bind λ w=>(PM w.2).map λ r=>(w.1::r.1,r.2) else some ([],x.2):=by
 conv=>lhs;unfold PM;unfold Bg
 cases e:lS 44 l with
 |none=>rfl
 |some x=>
  simp only[ak]
  split
  ·have:=Ia e (by assumption)
   cases e2:BL x.2 with
   |none=>rfl
   |some w=>
    have:=B3 e2;simp only[ak]
    rw[show PM w.2=Bg l.length w.2 from CM _ _ _ (aE _) (by omega)]
  ·rfl
theorem yU{l:List Tok}{x}(h:sS l=some x):x.2.length<l.length:=by
 obtain⟨a,h1,h⟩:=bind_some h
 obtain⟨b,h2,h⟩:=bind_some h
 obtain⟨c,h3,h⟩:=bind_some h
 obtain⟨_,h⟩:=jE h
 obtain⟨d,h4,h⟩:=bind_some h
 obtain⟨e,h5,h⟩:=bind_some h
 obtain⟨f,h6,h⟩:=bind_some h
 obtain⟨_,h⟩:=jE h
 obtain⟨_,h⟩:=jE h
 cases h
 have:=sU h1;have:=Px h2;have:=pD h3;have:=B3 h4;have:=Ib h5;have:=pD h6
 simp only;omega
theorem Lh:∀{n:Nat}{l:List Tok} {x},CL n l=some x->x.2.length<=l.length
 |0,_,_,h=>by cases h
 |n+1,l,x,h=>by
  obtain⟨a,h1,h⟩:=bind_some h;have:=pD h1
  split at h
  ·cases h;simp only;omega
  ·obtain⟨b,h2,h⟩:=bind_some h;obtain⟨c,h3,h⟩:=map_some h;subst h;have:=yU h2;have:=Lh h3;simp only;omega
theorem AK:∀(n m:Nat) (l:List Tok),l.length<n->l.length<m->CL n l=CL m l
 |0,_,_,h,_=>by omega
 |_,0,_,_,h=>by omega
 |n+1,m+1,l,h1,h2=>by
  simp only[CL]
  cases e:lS 125 l with
  |none=>rfl
  |some x=>
   simp only[ak]
   split
   ·rfl
   ·have:=pD e
    cases e2:sS x.2 with
    |none=>rfl
    |some w=>
     have:=yU e2;simp only[ak]
     rw[AK n m w.2 (by omega) (by omega)]
theorem SA(l:List Tok):PC l=(lS 125 l).bind λ x=>if x.1=true then some ([],x.2) else (sS x.2).bind λ c=>(PC c.2).map λ r=>(c.1::r.1,r.2):=by
 conv=>lhs;unfold PC;unfold CL
 cases e:lS 125 l with
 |none=>rfl
 |some x=>
  simp only[ak]
  split
  ·rfl
  ·have:=pD e
   cases e2:sS x.2 with
   |none=>rfl
   |some w=>
    have:=yU e2;simp only[ak]
    rw[show PC w.2=CL l.length w.2 from AK _ _ _ (aE _) (by omega)]
theorem FI{l:List Tok}{x}(h:pState l=some x):x.2.length<l.length:=by
 obtain⟨a,h1,h⟩:=bind_some h
 obtain⟨_,h⟩:=jE h
 obtain⟨b,h2,h⟩:=bind_some h
 obtain⟨c,h3,h⟩:=bind_some h
 obtain⟨_,h⟩:=jE h
 obtain⟨d,h4,h⟩:=bind_some h
 obtain⟨_,h⟩:=jE h
 obtain⟨_,h⟩:=jE h
 cases h
 have:=sU h1;have:=sU h2;have:=pD h3;have:=Lh h4
 simp only;omega
theorem FJ:∀(n m:Nat) (l:List Tok),l.length<n->l.length<m->GI n l=GI m l
 |0,_,_,h,_=>by omega
 |_,0,_,_,h=>by omega
 |n+1,m+1,l,h1,h2=>by
  simp only[GI]
  split
  ·rfl
  ·cases e2:pState l with
   |none=>rfl
   |some w=>
    have:=FI e2;simp only[ak]
    rw[FJ n m w.2 (by omega) (by omega)]
theorem Py(b:B):jK (qv b) FH b:=by
 refine jK.bnd (oQ (m:=45) (by decide) b) λ x _=>?_
 dsimp only
 show jK _ (λ l=>(number l).bind λ n=>if n.1<=1000 then some (if x.1=true then -(n.1:Int) else (n.1:Int),n.2) else none) _
 refine jK.bnd (CK x.2) λ n _=>?_
 dsimp only
 exact jK.guard λ _=>jK.pure _ _
theorem Li(b:B):jK (oE b) BL b:=by
 refine jK.bnd (zu b) λ x _=>?_
 dsimp only
 refine jK.bnd (oQ (m:=47) (by decide) x.2) λ y _=>?_
 dsimp only
 refine jK.bnd (jK.ite (λ _=>CK y.2) λ _=>jK.pure _ _) λ n _=>?_
 dsimp only
 exact jK.guard λ _=>jK.pure _ _
theorem sV{b:B}{x}(h:qv b=some x):x.2.length<b.length:=by
 obtain⟨x,h1,h⟩:=bind_some h
 cases h1
 obtain⟨n,h2,h⟩:=bind_some h
 obtain⟨_,h⟩:=jE h
 cases h
 have:=jQ 45 b;have:=yg h2;simp only;omega
theorem lX{b:B}{x}(h:oE b=some x):x.2.length<b.length:=by
 obtain⟨a,h1,h⟩:=bind_some h
 obtain⟨y,h2,h⟩:=bind_some h
 cases h2
 obtain⟨c,h3,h⟩:=bind_some h
 obtain⟨_,h⟩:=jE h
 cases h
 have:=lI h1;have:=jQ 47 a.2
 split at h3
 ·have:=yg h3;simp only;omega
 ·cases h3;simp only;omega
theorem Ic:∀(n:Nat) (b:B),b.length<n->jK (nG n b) PM b
 |0,b,h=>by omega
 |n+1,b,h=>by
  refine jK.congr (p:=λ l=>_) ?_ λ l _=>(GJ l).symm
  refine jK.bnd (oQ (m:=44) (by decide) b) λ x hx=>?_
  dsimp only;refine jK.ite (λ hf=>?_) λ _=>jK.pure _ _
  refine jK.bnd (Li x.2) λ w hw=>?_
  dsimp only;have e:x=passes 44 b:=(aW hx).symm;have:=jQ 44 b;have:=lX hw;rw[e] at this;exact (Ic n w.2 (by omega)).map (f:=λ r=>w.1::r)
theorem wz:∀{n:Nat}{b:B} {x},nG n b=some x->x.2.length<=b.length
 |0,_,_,h=>by cases h
 |n+1,b,x,h=>by
  simp only[nG,ak] at h
  have:=jQ 44 b
  split at h
  ·obtain⟨w,h2,h⟩:=bind_some h;obtain⟨c,h3,h⟩:=map_some h;subst h;have:=lX h2;have:=wz h3;simp only;omega
  ·cases h;simp only;omega
theorem JW(b:B):jK (lW b) sS b:=by
 refine jK.bnd (zu b) λ x _=>?_
 dsimp only
 refine jK.bnd (Py x.2) λ g _=>?_
 dsimp only
 refine jK.bnd (oQ (m:=58) (by decide) g.2) λ u _=>?_
 dsimp only
 refine jK.guard λ _=>?_
 refine jK.bnd (Li u.2) λ w _=>?_
 dsimp only
 show jK _ (λ l=>(PM l).bind λ r=>(lS 59 r.2).bind λ v=>if v.1=true then if ((w.1::r.1).map λ w=>w.1).Nodup then some ((⟨x.1,g.1,w.1::r.1⟩:RawChoice),v.2) else none else none) _
 refine jK.bnd (Ic (w.2.length+1) w.2 (aE _)) λ r _=>?_
 dsimp only
 show jK _ (λ l=>(lS 59 l).bind λ v=>if v.1=true then if ((w.1::r.1).map λ w=>w.1).Nodup then some ((⟨x.1,g.1,w.1::r.1⟩:RawChoice),v.2) else none else none) _
 refine jK.bnd (oQ (m:=59) (by decide) r.2) λ v _=>?_
 dsimp only
 exact jK.guard λ _=>jK.guard λ _=>jK.pure _ _
theorem mR{b:B}{x}(h:lW b=some x):x.2.length<b.length:=by
 obtain⟨a,h1,h⟩:=bind_some h
 obtain⟨g,h2,h⟩:=bind_some h
 obtain⟨y,h3,h⟩:=bind_some h
 cases h3
 obtain⟨_,h⟩:=jE h
 obtain⟨w,h4,h⟩:=bind_some h
 obtain⟨r,h5,h⟩:=bind_some h
 obtain⟨y,h3,h⟩:=bind_some h
 cases h3
 obtain⟨_,h⟩:=jE h
 obtain⟨_,h⟩:=jE h
 cases h
 have:=lI h1;have:=sV h2;have:=jQ 58 g.2;have:=lX h4;have:=wz h5;have:=jQ 59 r.2
 simp only;omega
theorem Lj:∀(n:Nat) (b:B),b.length<n->jK (lG n b) PC b
 |0,b,h=>by omega
 |n+1,b,h=>by
  refine jK.congr (p:=λ l=>_) ?_ λ l _=>(SA l).symm
  refine jK.bnd (oQ (m:=125) (by decide) b) λ x hx=>?_
  dsimp only;refine jK.ite (λ hf=>jK.pure _ _) λ _=>?_
  refine jK.bnd (JW x.2) λ w hw=>?_
  dsimp only;have e:x=passes 125 b:=(aW hx).symm;have:=jQ 125 b;have:=mR hw;rw[e] at this;exact (Lj n w.2 (by omega)).map (f:=λ r=>w.1::r)
theorem wA:∀{n:Nat}{b:B} {x},lG n b=some x->x.2.length<=b.length
 |0,_,_,h=>by cases h
 |n+1,b,x,h=>by
  simp only[lG,ak] at h
  have:=jQ 125 b
  split at h
  ·cases h;simp only;omega
  ·obtain⟨w,h2,h⟩:=bind_some h;obtain⟨c,h3,h⟩:=map_some h;subst h;have:=mR h2;have:=wA h3;simp only;omega
theorem M5(b:B):jK (readState b) pState b:=by
 refine jK.bnd (zu b) λ k _=>?_
 dsimp only
 refine jK.guard λ _=>?_
 refine jK.bnd (zu k.2) λ x _=>?_
 dsimp only
 refine jK.bnd (oQ (m:=123) (by decide) x.2) λ u _=>?_
 dsimp only
 refine jK.guard λ _=>?_
 refine jK.bnd (Lj (u.2.length+1) u.2 (aE _)) λ c _=>?_
 dsimp only
 exact jK.guard λ _=>jK.guard λ _=>jK.pure _ _
theorem m8{b:B}{x}(h:readState b=some x):x.2.length<b.length:=by
 obtain⟨a,h1,h⟩:=bind_some h
 obtain⟨_,h⟩:=jE h
 obtain⟨g,h2,h⟩:=bind_some h
 obtain⟨y,h3,h⟩:=bind_some h
 cases h3
 obtain⟨_,h⟩:=jE h
 obtain⟨c,h4,h⟩:=bind_some h
 obtain⟨_,h⟩:=jE h
 obtain⟨_,h⟩:=jE h
 cases h
 have:=lI h1;have:=lI h2;have:=jQ 123 g.2;have:=wA h4
 simp only;omega
theorem CN:∀(n:Nat) (b:B),b.length<n->mQ n b=(lex b).bind λ l=>GI (l.length+1) l
 |0,b,h=>by omega
 |n+1,b,h=>by
  have hs:=M5 (Rd.skip false b);have hl:=lH false b;simp only[mQ]
  cases e:Rd.skip false b with
  |nil=>rw[if_pos rfl,B0 e];rfl
  |cons c r=>
   rw[if_neg (by simp)];rw[e] at hs hl;have el:lex (c::r)=lex b:=by rw[<-e,pW]
   cases er:readState (c::r) with
   |none=>
    rw[er] at hs
    cases hb:lex b with
    |none=>rfl
    |some l=>
     have:=hs.1 l (el.trans hb);have hne:l.isEmpty=false:=by
      rcases uv b c r e l hb with ⟨_,_,l',rfl,_⟩ | ⟨_,_,_,_,l',rfl,_⟩ | ⟨_,_,_,l',rfl,_⟩<;>rfl
     simp only[ak,GI,hne]
     simp only at this
     rw[this];rfl
   |some x=>
    rw[er] at hs;have hx:=m8 er;have ih:=CN n x.2 (by omega);simp only[ak]
    rw[ih]
    cases hb:lex b with
    |none=>
     have:=hs.2 (el.trans hb) x rfl;rw[this];rfl
    |some l=>
     obtain⟨l',h1,h2⟩:=hs.1 l (el.trans hb);have hne:l.isEmpty=false:=by
      rcases uv b c r e l hb with ⟨_,_,l',rfl,_⟩ | ⟨_,_,_,_,l',rfl,_⟩ | ⟨_,_,_,l',rfl,_⟩<;>rfl
     have hlt:=FI h1;simp only[ak,GI,hne,h2,h1]
     rw[FJ l.length (l'.length+1) l' (by simpa using hlt) (aE _)];rfl
end Rd
end
noncomputable section
namespace Rd
open Ra61
def M6(w:B×Nat):Bool:=decide (1<=w.2)&&decide (w.2<=1000)
def M7(c:RawChoice):Bool:=decide (-1000<=c.gain)&&(decide (c.gain<=1000)&&(once (c.ways.map λ w=>w.1)&&c.ways.all M6))
def NY(s:RawState):Bool:=once (s.choices.map λ c=>c.name)&&(decide (s.choices.length<=8)&&s.choices.all M7)
def only'{α β:Type}(ok:α->Bool)(o:Option (α×β)):Option (α×β):=o.bind λ x=>if ok x.1=true then some x else none
theorem SD(l:List Tok):BL l=only' M6 (way l):=by
 unfold BL way only'
 cases name l with
 |none=>rfl
 |some x=>
  simp only[ak,lS]
  by_cases h:x.2.head? = some (.sign 47)
  ·simp only[h,if_true]
   cases number (x.2.drop 1) with
   |none=>rfl
   |some n=>simp[M6]
  ·simp[h,M6]
theorem Pz(l:List Tok):FH l=only' (λ g:Int=>decide (-1000<=g)&&decide (g<=1000)) (whole l):=by
 unfold FH whole only'
 simp only[ak,lS]
 by_cases h:l.head? = some (.sign 45)
 ·simp only[h,if_true]
  cases number (l.drop 1) with
  |none=>rfl
  |some n=>
   simp only[ak,bH]
   by_cases hn:n.1<=1000
   ·rw[if_pos hn,if_pos (by simp;omega)]
   ·rw[if_neg hn,if_neg (by simp;omega)]
 ·simp only[h,if_false]
  cases number l with
  |none=>rfl
  |some n=>
   simp only[ak,bH]
   by_cases hn:n.1<=1000
   ·have hz:(decide (-1000<=(n.1:Int))&&decide ((n.1:Int)<=1000))=true:=by simp only[aU,decide_eq_true_eq];omega
    rw[if_pos hn];simp only[hz,if_true,aN,if_false]
   ·rw[if_neg hn,if_neg (by simp only[aU,decide_eq_true_eq];omega)]
def XR(l:List Tok):Option (List (B×Nat)×List Tok):=(BL l).bind λ w=>(PM w.2).bind λ r=>(lS 59 r.2).bind λ v=>if v.1=true then some (w.1::r.1,v.2) else none
theorem VL{l:List Tok}{x}(h:way l=some x):x.2.length<l.length:=by
 obtain⟨a,h1,h⟩:=bind_some h
 have:=sU h1
 split at h
 ·obtain⟨n,h2,h⟩:=map_some h
  subst h;have:=uw h2;simp at this ⊢;omega
 ·cases h;simpa using this
theorem PB:∀(n:Nat) (l:List Tok),l.length<=n->XR l=only' (λ ws:List (B×Nat)=>ws.all M6) (ways n l)
 |0,l,h=>by
  have:l=[]:=cy.mp (by omega);subst this;rfl
 |n+1,l,h=>by
  unfold XR ways only';rw[SD];unfold only'
  cases e:way l with
  |none=>rfl
  |some w=>
   have hw:=VL e;simp only[ak]
   by_cases hc:w.2.head? = some (.sign 44)
   ·rw[if_pos hc];have ih:=PB n (w.2.drop 1) (by simp;omega);unfold XR only' at ih
    by_cases ho:M6 w.1=true
    ·rw[if_pos ho];simp only[ak]
     rw[GJ];simp only[lS,ak,hc,if_true]
     simp only[lS,ak] at ih
     cases e2:BL (w.2.drop 1) with
     |none=>
      rw[e2] at ih;simp only[bM] at ih
      cases e3:ways n (w.2.drop 1) with
      |none=>rfl
      |some y=>
       rw[e3] at ih;simp only[ak] at ih
       simp only[bM,bH,ak,dW,ho,b9]
       split
       ·rename_i q;rw[if_pos q] at ih;cases ih
       ·rfl
     |some w'=>
      rw[e2] at ih;simp only[ak] at ih ⊢
      cases e4:PM w'.2 with
      |none=>
       rw[e4] at ih;simp only[bM] at ih
       cases e3:ways n (w.2.drop 1) with
       |none=>rfl
       |some y=>
        rw[e3] at ih;simp only[ak] at ih
        simp only[bM,Option.map_none,bH,ak,dW,ho,b9]
        split
        ·rename_i q;rw[if_pos q] at ih;cases ih
        ·rfl
      |some r=>
       rw[e4] at ih;simp only[ak] at ih
       simp only[bH,ak]
       cases e3:ways n (w.2.drop 1) with
       |none=>
        rw[e3] at ih;simp only[bM] at ih
        simp only[Option.map_none,bM]
        split
        ·rename_i q;rw[if_pos q] at ih;cases ih
        ·rfl
       |some y=>
        rw[e3] at ih;simp only[ak] at ih
        simp only[bH,ak,dW,ho,b9]
        by_cases q1:r.2.head? = some (.sign 59)
        ·simp only[q1,if_true] at ih ⊢
         by_cases q2:y.1.all M6=true
         ·simp only[q2,if_true] at ih ⊢
          cases ih;rfl
         ·rw[if_neg q2] at ih;cases ih
        ·simp only[q1,if_false] at ih ⊢
         by_cases q2:y.1.all M6=true
         ·simp only[q2,if_true] at ih;cases ih
         ·rw[if_neg q2];rfl
    ·rw[if_neg ho];simp only[bM]
     cases e3:ways n (w.2.drop 1) with
     |none=>rfl
     |some y=>simp[ho]
   ·rw[if_neg hc]
    by_cases ho:M6 w.1=true
    ·rw[if_pos ho];simp only[ak]
     rw[GJ];simp only[lS,ak,hc,if_false,sign]
     by_cases q1:w.2.head? = some (.sign 59)
     ·simp[q1,ho]
     ·simp[q1]
    ·rw[if_neg ho];simp only[bM,sign]
     by_cases q1:w.2.head? = some (.sign 59)
     ·simp[q1,ho]
     ·simp[q1]
theorem JX(l:List Tok):sS l=(name l).bind λ x=>(FH x.2).bind λ g=>(lS 58 g.2).bind λ u=>if u.1=true then (XR u.2).bind λ w=>if (w.1.map λ w=>w.1).Nodup then some (⟨x.1,g.1,w.1⟩,w.2) else none else none:=by
 unfold sS XR
 congr 1;funext x;congr 1;funext g;congr 1;funext u
 split
 ·cases BL u.2 with
  |none=>rfl
  |some w=>
   simp only[ak]
   cases PM w.2 with
   |none=>rfl
   |some r=>
    simp only[ak,lS]
    by_cases q:r.2.head? = some (.sign 59)
    ·simp only[q,if_true,ak]
    ·simp only[q,if_false,aN,bM]
 ·rfl
theorem PD{l:List Tok}{x}(h:whole l=some x):x.2.length<l.length:=by
 unfold whole at h
 split at h
 ·obtain⟨n,h2,h⟩:=map_some h
  subst h;have:=uw h2;simp at this ⊢;omega
 ·obtain⟨n,h2,h⟩:=map_some h
  subst h;have:=uw h2;simpa using this
theorem Lk:∀(n:Nat) (l:List Tok),CL n l=only' (λ cs:List RawChoice=>cs.all M7) (choices n l)
 |0,l=>rfl
 |n+1,l=>by
  unfold CL choices;simp only[lS,ak]
  by_cases h:l.head? = some (.sign 125)
  ·simp[h,only']
  ·simp only[h,if_false,aN]
   rw[JX]
   cases e1:name l with
   |none=>rfl
   |some x=>
    simp only[ak]
    rw[Pz]
    cases e2:whole x.2 with
    |none=>rfl
    |some g=>
     have hl1:=sU e1;have hl2:=PD e2;simp only[ak,only',sign,lS]
     by_cases a1:(decide (-1000<=g.1)&&decide (g.1<=1000))=true
     ·rw[if_pos a1];simp only[ak]
      by_cases q:g.2.head? = some (.sign 58)
      ·simp only[q,if_true,ak]
       rw[PB l.length (g.2.drop 1) (by simp;omega)]
       cases e3:ways l.length (g.2.drop 1) with
       |none=>rfl
       |some w=>
        simp only[ak,only']
        by_cases a2:w.1.all M6=true
        ·rw[if_pos a2];simp only[ak]
         by_cases a3:(w.1.map λ w=>w.1).Nodup
         ·rw[if_pos a3];simp only[ak]
          have hok:M7 ⟨x.1,g.1,w.1⟩=true:=by
           simp only[aU] at a1
           simp only[M7,once,a1.1,a1.2,a2,a3,decide_true,g7]
          rw[Lk n]
          cases e4:choices n w.2 with
          |none=>rfl
          |some r=>
           simp only[bH,ak,dW,hok,b9,only']
           split<;>rfl
         ·rw[if_neg a3];have hok:M7 ⟨x.1,g.1,w.1⟩=false:=by simp[M7,once,a3]
          cases choices n w.2<;>simp[hok]
        ·rw[if_neg a2];have hok:M7 ⟨x.1,g.1,w.1⟩=false:=by
          have:w.1.all M6=false:=by simpa using a2
          simp[M7,this]
         cases choices n w.2<;>simp[hok]
      ·simp only[q,if_false,aN,bM]
     ·rw[if_neg a1];simp only[bM]
      have hok:∀ws,M7 ⟨x.1,g.1,ws⟩=false:=λ ws=>by
       have a1':(decide (-1000<=g.1)&&decide (g.1<=1000))=false:=by simpa only[ia] using a1
       show (decide (-1000<=g.1)&&(decide (g.1<=1000)&&_))=false;rw[<-Bool.and_assoc,a1',Bool.false_and]
      by_cases q:g.2.head? = some (.sign 58)
      ·simp only[q,if_true,ak]
       cases ways l.length (g.2.drop 1) with
       |none=>rfl
       |some w=>cases e5:choices n w.2<;>simp[hok,e5]
      ·simp[q]
theorem JY(l:List Tok):word "state" l=(name l).bind λ k=>if k.1=[115,116,97,116,101] then some ((),k.2) else none:=by
 have e:ascii "state" = [115,116,97,116,101]:=by decide +kernel
 unfold word
 rw[e]
 cases l with
 |nil=>rfl
 |cons t r=>
  cases t with
  |name x=>by_cases h:x=[115,116,97,116,101]<;>simp[name,h]
  |num n=>simp[name]
  |sign c=>simp[name]
theorem Ll:∀(n:Nat) (l:List Tok),GI n l=(states n l).bind λ x=>if x.all NY=true then some x else none
 |0,l=>rfl
 |n+1,l=>by
  unfold GI states
  by_cases h:l.isEmpty=true
  ·simp[h]
  ·simp only[h,if_false,aN]
   rw[JY];unfold pState
   cases e1:name l with
   |none=>rfl
   |some k=>
    simp only[ak]
    by_cases hk:k.1=[115,116,97,116,101]
    ·simp only[hk,if_true,ak]
     cases e2:name k.2 with
     |none=>rfl
     |some x=>
      simp only[ak,lS,sign]
      by_cases q:x.2.head? = some (.sign 123)
      ·simp only[q,if_true,ak]
       have a1:=sU e1;have a2:=sU e2;rw[show PC (x.2.drop 1)=CL l.length (x.2.drop 1) from AK _ _ _ (aE _) (by simp;omega),Lk]
       cases e3:choices l.length (x.2.drop 1) with
       |none=>rfl
       |some c=>
        simp only[only',ak]
        by_cases b1:c.1.all M7=true
        ·rw[if_pos b1];simp only[ak]
         by_cases b2:c.1.length<=8
         ·rw[if_pos b2]
          by_cases b3:(c.1.map λ c=>c.name).Nodup
          ·rw[if_pos b3];simp only[ak]
           have hok:NY ⟨x.1,c.1⟩=true:=by simp only[NY,once,b1,b2,b3,decide_true,g7]
           rw[Ll n]
           cases e4:states n c.2 with
           |none=>rfl
           |some r=>
            simp only[bH,ak,dW,hok,b9]
            split<;>rfl
          ·rw[if_neg b3];have hok:NY ⟨x.1,c.1⟩=false:=by simp[NY,once,b3]
           cases states n c.2<;>simp[hok]
         ·rw[if_neg b2];have hok:NY ⟨x.1,c.1⟩=false:=by simp[NY,b2]
          cases states n c.2<;>simp[hok]
        ·rw[if_neg b1];have hok:NY ⟨x.1,c.1⟩=false:=by
          have:c.1.all M7=false:=by simpa using b1
          simp[NY,this]
         cases states n c.2<;>simp[hok]
      ·simp[q]
    ·simp[hk]
theorem PF(b:B):net b=kT b:=by
 unfold net kT
 rw[CN _ b (aE _)]
 show ((lex b).bind λ l=>states (l.length+1) l).bind _=_
 cases lex b with
 |none=>rfl
 |some l=>
  simp only[ak]
  rw[Ll]
  cases states (l.length+1) l with
  |none=>rfl
  |some raw=>
   simp only[ak]
   by_cases hs:raw.all NY=true
   ·simp only[hs,if_true,ak]
    have hall:(raw.all λ s=>once (s.choices.map λ c=>c.name)&&(decide (s.choices.length<=CHOICES)&&s.choices.all λ c=>decide (-GAIN<=c.gain)&&(decide (c.gain<=GAIN) &&
      (once (c.ways.map λ w=>w.1)&&c.ways.all λ w=>(raw.map λ s=>s.name).contains w.1&&(decide (1<=w.2)&&decide (w.2<=WEIGHT))))))=(raw.all λ s=>s.choices.all λ c=>c.ways.all λ w=>(raw.map λ s=>s.name).contains w.1):=by
     rw[aX];simp only[bz,NY,M7,M6,aU] at hs ⊢
     constructor
     ·intro h s hm c hc w hw;exact (((h s hm).2.2 c hc).2.2.2 w hw).1
     ·intro h s hm;obtain⟨k1,k2,k3⟩:=hs s hm;refine⟨k1,k2,λ c hc=>?_⟩;obtain⟨j1,j2,j3,j4⟩:=k3 c hc;exact⟨j1,j2,j3,λ w hw=>⟨h s hm c hc w hw,j4 w hw⟩⟩
    rw[hall]
    by_cases c1:1<=raw.length/\raw.length<=16
    ·by_cases c2:(raw.map λ s=>s.name).Nodup
     ·by_cases c3:(raw.all λ s=>s.choices.all λ c=>c.ways.all λ w=>(raw.map λ s=>s.name).contains w.1)=true
      ·rw[if_pos (by simp only[once,c2,c1.1,c3,decide_true,b9];rw[Bool.and_true];exact decide_eq_true c1.2),if_pos c1,if_pos c2,if_pos c3];rfl
      ·rw[if_neg (by simp only[aU];exact λ z=>c3 z.2.2.2),if_pos c1,if_pos c2,if_neg c3]
     ·rw[if_neg (by simp only[aU,once,decide_eq_true_eq];exact λ z=>c2 z.1),if_pos c1,if_neg c2]
    ·rw[if_neg (by simp only[aU,decide_eq_true_eq];exact λ z=>c1 ⟨z.2.1,z.2.2.1⟩),if_neg c1]
   ·simp only[hs,if_false,bM,aN]
    rw[if_neg];intro z;apply hs
    simp only[aU] at z
    have z:=z.2.2.2;simp only[bz,NY,M7,M6,aU] at z ⊢
    intro s hm;obtain⟨k1,k2,k3⟩:=z s hm;refine⟨k1,k2,λ c hc=>?_⟩;obtain⟨j1,j2,j3,j4⟩:=k3 c hc;exact⟨j1,j2,j3,λ w hw=>(j4 w hw).2⟩
end Rd
end
noncomputable section
namespace Rd
open Ra61
theorem yh:∀(n m:Nat) (b:B),b.length<n->b.length<m->nG n b=nG m b
 |0,_,_,h,_=>by omega
 |_,0,_,_,h=>by omega
 |n+1,m+1,b,h1,h2=>by
  simp only[nG,ak]
  split
  ·rename_i hx
   cases e2:oE (passes 44 b).2 with
   |none=>rfl
   |some w=>
    have:=jQ 44 b;have:=lX e2;simp only[ak]
    rw[yh n m w.2 (by omega) (by omega)]
  ·rfl
def MW(b:B):=nG (b.length+1) b
theorem zw(b:B):MW b=if (passes 44 b).1=true then (oE (passes 44 b).2).bind λ w=>(MW w.2).map λ r=>(w.1::r.1,r.2) else some ([],(passes 44 b).2):=by
 conv=>lhs;unfold MW;unfold nG
 rw[ak]
 split
 ·cases e2:oE (passes 44 b).2 with
  |none=>rfl
  |some w=>
   have:=jQ 44 b;have:=lX e2;simp only[ak]
   rw[show MW w.2=nG b.length w.2 from yh _ _ _ (aE _) (by omega)]
 ·rfl
theorem ux:∀(n m:Nat) (b:B),b.length<n->b.length<m->lG n b=lG m b
 |0,_,_,h,_=>by omega
 |_,0,_,_,h=>by omega
 |n+1,m+1,b,h1,h2=>by
  simp only[lG,ak]
  split
  ·rfl
  ·cases e2:lW (passes 125 b).2 with
   |none=>rfl
   |some w=>
    have:=jQ 125 b;have:=mR e2;simp only[ak]
    rw[ux n m w.2 (by omega) (by omega)]
def MC(b:B):=lG (b.length+1) b
theorem zx(b:B):MC b=if (passes 125 b).1=true then some ([],(passes 125 b).2) else (lW (passes 125 b).2).bind λ c=>(MC c.2).map λ r=>(c.1::r.1,r.2):=by
 conv=>lhs;unfold MC;unfold lG
 rw[ak]
 split
 ·rfl
 ·cases e2:lW (passes 125 b).2 with
  |none=>rfl
  |some w=>
   have:=jQ 125 b;have:=mR e2;simp only[ak]
   rw[show MC w.2=lG b.length w.2 from ux _ _ _ (aE _) (by omega)]
theorem vE:∀(n m:Nat) (b:B),b.length<n->b.length<m->mQ n b=mQ m b
 |0,_,_,h,_=>by omega
 |_,0,_,_,h=>by omega
 |n+1,m+1,b,h1,h2=>by
  simp only[mQ]
  split
  ·rfl
  ·cases e2:readState (Rd.skip false b) with
   |none=>rfl
   |some w=>
    have:=lH false b;have:=m8 e2;simp only[ak]
    rw[vE n m w.2 (by omega) (by omega)]
def MS(b:B):=mQ (b.length+1) b
theorem zy(b:B):MS b=if Rd.skip false b=[] then some [] else (readState (Rd.skip false b)).bind λ s=>(MS s.2).map λ r=>s.1::r:=by
 conv=>lhs;unfold MS;unfold mQ
 split
 ·rfl
 ·cases e2:readState (Rd.skip false b) with
  |none=>rfl
  |some w=>
   have:=lH false b;have:=m8 e2;simp only[ak]
   rw[show MS w.2=mQ b.length w.2 from vE _ _ _ (aE _) (by omega)]
theorem n6(b:B):lW b=(kC b).bind λ x=>(qv x.2).bind λ g=>if (passes 58 g.2).1=true then (oE (passes 58 g.2).2).bind λ w=>(MW w.2).bind λ r=>
   if (passes 59 r.2).1=true then if ((w.1::r.1).map λ w=>w.1).Nodup then some (⟨x.1,g.1,w.1::r.1⟩,(passes 59 r.2).2) else none else none else none:=rfl
theorem pF(b:B):readState b=(kC b).bind λ k=>if k.1=[115,116,97,116,101] then (kC k.2).bind λ x=>if (passes 123 x.2).1=true then (MC (passes 123 x.2).2).bind λ c=>
   if c.1.length<=8 then if (c.1.map λ c=>c.name).Nodup then some (⟨x.1,c.1⟩,c.2) else none else none else none else none:=rfl
theorem qh(b:B):kT b=(MS b).bind λ raw=>if 1<=raw.length/\raw.length<=16 then (if (raw.map λ s=>s.name).Nodup then (if raw.all λ s=>s.choices.all λ c=>c.ways.all λ w=>(raw.map λ s=>s.name).contains w.1 then some (placed raw) else none) else none) else none:=rfl
theorem PJ:∀(n:Nat) (b:B),b.length<n->∀r,MW b=some r->2*r.1.length+r.2.length<=b.length
 |0,b,h,_,_=>by omega
 |n+1,b,h,r,e=>by
  rw[zw] at e;have hp:=jQ 44 b
  split at e
  ·rename_i hx
   have hl:=xQ (m:=44) (by decide) hx;obtain⟨w,e1,e⟩:=bind_some e;obtain⟨z,e2,rfl⟩:=map_some e;have:=lX e1;have:=PJ n w.2 (by omega) z e2;simp only[aK];omega
  ·cases e;simp;omega
end Rd
end
noncomputable section
namespace Ck
open PySem PySem.Spec PyProof.Rows L2
def top(i:Nat):Stmt:=dU.main.body.getD i (.Pass ⟨0,0,0,0⟩)
abbrev CO:Stmt:=top 24
abbrev yV:Stmt:=top 25
abbrev wB:Stmt:=top 26
abbrev rQ:Stmt:=top 27
abbrev vd:Stmt:=top 28
abbrev wC:Stmt:=top 30
abbrev yW:Stmt:=top 31
abbrev tR:Stmt:=top 33
abbrev ve:Stmt:=top 35
abbrev pX:Stmt:=top 36
abbrev tS:Stmt:=top 37
abbrev rR:Stmt:=top 52
abbrev vf:Stmt:=top 53
abbrev oR:Stmt:=top 54
abbrev zz:Stmt:=top 55
abbrev pY:Stmt:=top 56
abbrev wD:Stmt:=top 57
abbrev oF:Stmt:=top 58
abbrev JZ:Stmt:=top 59
abbrev AL:Stmt:=top 61
abbrev GK:Stmt:=top 62
abbrev vg:Stmt:=top 64
abbrev tU:Stmt:=top 65
abbrev rS:Stmt:=top 66
abbrev vh:Stmt:=top 67
abbrev nH:Stmt:=top 68
abbrev tV:Stmt:=top 69
abbrev rT:Stmt:=top 70
abbrev rV:Stmt:=top 71
abbrev wF:Stmt:=top 72
abbrev CP:Stmt:=top 73
abbrev tW:Stmt:=inClass (top 29) 0
abbrev tX:Stmt:=inClass (top 29) 1
abbrev nI:Stmt:=inClass (top 29) 2
abbrev nJ:Stmt:=inClass (top 29) 3
abbrev qM:Stmt:=inClass (top 29) 4
abbrev qN:Stmt:=inClass (top 29) 5
abbrev oS:Stmt:=inClass (top 29) 6
abbrev nK:Stmt:=inClass (top 29) 7
abbrev tY:Stmt:=inClass (top 32) 0
abbrev vj:Stmt:=inClass (top 34) 0
abbrev tZ:Stmt:=inClass (top 60) 0
abbrev pG:Stmt:=inClass (top 60) 1
abbrev t6:Stmt:=inClass (top 60) 2
abbrev vm:Stmt:=inClass (top 63) 0
abbrev pZ:Stmt:=inClass (top 63) 1
abbrev rW:Stmt:=inClass (top 63) 2
abbrev pH:Stmt:=inClass (top 63) 3
abbrev p5:Stmt:=inClass (top 63) 4
abbrev p6:Stmt:=inClass (top 63) 5
abbrev nW:Stmt:=inClass (top 63) 7
theorem M8:jJ ["holds"] ["holds"] (jD CO):=⟨rfl,rfl,rfl,by decide +kernel,rfl,by decide +kernel,by decide +kernel⟩
theorem Ie:jJ ["byte"] ["byte"] (jD yV):=⟨rfl,rfl,rfl,by decide +kernel,rfl,by decide +kernel,by decide +kernel⟩
theorem GL:jJ ["byte"] ["byte"] (jD wB):=⟨rfl,rfl,rfl,by decide +kernel,rfl,by decide +kernel,by decide +kernel⟩
theorem BN:jJ ["byte"] ["byte"] (jD rQ):=⟨rfl,rfl,rfl,by decide +kernel,rfl,by decide +kernel,by decide +kernel⟩
theorem EF:jJ ["names"] ["names"] (jD vd):=⟨rfl,rfl,rfl,by decide +kernel,rfl,by decide +kernel,by decide +kernel⟩
theorem vn:jJ ["reader","below","number"] ["reader"] (jD wC):=⟨rfl,rfl,rfl,by decide +kernel,rfl,by decide +kernel,by decide +kernel⟩
theorem sW:jJ ["reader","name","weight"] ["reader"] (jD yW):=⟨rfl,rfl,rfl,by decide +kernel,rfl,by decide +kernel,by decide +kernel⟩
theorem lJ:jJ ["reader","name","gain","ways","way"] ["reader"] (jD tR):=⟨rfl,rfl,rfl,by decide +kernel,rfl,by decide +kernel,by decide +kernel⟩
theorem n8:jJ ["reader","name","choices","choice"] ["reader"] (jD ve):=⟨rfl,rfl,rfl,by decide +kernel,rfl,by decide +kernel,by decide +kernel⟩
theorem mH:jJ ["ways","names","way"] ["ways","names"] (jD pX):=⟨rfl,rfl,rfl,by decide +kernel,rfl,by decide +kernel,by decide +kernel⟩
theorem lK:jJ ["text","reader","states","names","state","choice"] ["text"] (jD tS):=⟨rfl,rfl,rfl,by decide +kernel,rfl,by decide +kernel,by decide +kernel⟩
theorem BO:jJ ["number","least","greatest"] ["number","least","greatest"] (jD rR):=⟨rfl,rfl,rfl,by decide +kernel,rfl,by decide +kernel,by decide +kernel⟩
theorem EG:jJ ["text","room"] ["text","room"] (jD vf):=⟨rfl,rfl,rfl,by decide +kernel,rfl,by decide +kernel,by decide +kernel⟩
theorem qT:jJ ["text","room","goals","states"] ["text","room","goals"] (jD oR):=⟨rfl,rfl,rfl,by decide +kernel,rfl,by decide +kernel,by decide +kernel⟩
theorem M9:jJ ["work"] ["work"] (jD zz):=⟨rfl,rfl,rfl,by decide +kernel,rfl,by decide +kernel,by decide +kernel⟩
theorem nA:jJ ["number","other","rest"] ["number","other"] (jD pY):=⟨rfl,rfl,rfl,by decide +kernel,rfl,by decide +kernel,by decide +kernel⟩
theorem vo:jJ ["number","digits"] ["number"] (jD wD):=⟨rfl,rfl,rfl,by decide +kernel,rfl,by decide +kernel,by decide +kernel⟩
theorem nU:jJ ["top","bottom","divisor","told"] ["top","bottom"] (jD oF):=⟨rfl,rfl,rfl,by decide +kernel,rfl,by decide +kernel,by decide +kernel⟩
theorem GN:jJ ["states","words","room","told","state","word"] ["states","words","room"] (jD JZ):=⟨rfl,rfl,rfl,by decide +kernel,rfl,by decide +kernel,by decide +kernel⟩
theorem rX:jJ ["row","pivot_row","turn","pivot_before","pivot","factor","number","other"] ["row","pivot_row","turn","pivot_before"] (jD AL):=⟨rfl,rfl,rfl,by decide +kernel,rfl,by decide +kernel,by decide +kernel⟩
theorem n9:jJ ["rows","pivot","turn","pivot_row","place","row"] ["rows"] (jD GK):=⟨rfl,rfl,rfl,by decide +kernel,rfl,by decide +kernel,by decide +kernel⟩
theorem t7:jJ ["goals","states","place"] ["goals","states"] (jD vg):=⟨rfl,rfl,rfl,by decide +kernel,rfl,by decide +kernel,by decide +kernel⟩
theorem rY:jJ ["choices","times","choice"] ["choices","times"] (jD tU):=⟨rfl,rfl,rfl,by decide +kernel,rfl,by decide +kernel,by decide +kernel⟩
theorem qO:jJ ["marks","states","times","mark","state"] ["marks","states","times"] (jD rS):=⟨rfl,rfl,rfl,by decide +kernel,rfl,by decide +kernel,by decide +kernel⟩
theorem t8:jJ ["choice","marks","way"] ["choice","marks"] (jD vh):=⟨rfl,rfl,rfl,by decide +kernel,rfl,by decide +kernel,by decide +kernel⟩
theorem lA:jJ ["marks","choices","choice","way"] ["marks","choices"] (jD nH):=⟨rfl,rfl,rfl,by decide +kernel,rfl,by decide +kernel,by decide +kernel⟩
theorem lM:jJ ["marks","options","reached","plan","mark","turn","place","choices","number","choice"] ["marks","options"] (jD tV):=⟨rfl,rfl,rfl,by decide +kernel,rfl,by decide +kernel,by decide +kernel⟩
theorem kG:jJ ["marks","options","turn","plan","sure","mark","number","choices"] ["marks","options"] (jD rT):=⟨rfl,rfl,rfl,by decide +kernel,rfl,by decide +kernel,by decide +kernel⟩
theorem oG:jJ ["states","state","choice"] ["states"] (jD rV):=⟨rfl,rfl,rfl,by decide +kernel,rfl,by decide +kernel,by decide +kernel⟩
theorem lE:jJ ["goals","room","text","states","marks","options","quest","state","values","words","place","number"] ["goals","room","text"] (jD wF):=⟨rfl,rfl,rfl,by decide +kernel,rfl,by decide +kernel,by decide +kernel⟩
theorem SE:jJ ["goals","room","text"] ["goals","room","text"] (jD CP):=⟨rfl,rfl,rfl,by decide +kernel,rfl,by decide +kernel,by decide +kernel⟩
theorem CQ:jJ ["self","text"] ["self","text"] (jD tW):=⟨rfl,rfl,rfl,by decide +kernel,rfl,by decide +kernel,by decide +kernel⟩
theorem CS:jJ ["self"] ["self"] (jD tX):=⟨rfl,rfl,rfl,by decide +kernel,rfl,by decide +kernel,by decide +kernel⟩
theorem vQ:jJ ["self"] ["self"] (jD nI):=⟨rfl,rfl,rfl,by decide +kernel,rfl,by decide +kernel,by decide +kernel⟩
theorem vR:jJ ["self"] ["self"] (jD nJ):=⟨rfl,rfl,rfl,by decide +kernel,rfl,by decide +kernel,by decide +kernel⟩
theorem AM:jJ ["self"] ["self"] (jD qM):=⟨rfl,rfl,rfl,by decide +kernel,rfl,by decide +kernel,by decide +kernel⟩
theorem AN:jJ ["self","mark"] ["self","mark"] (jD qN):=⟨rfl,rfl,rfl,by decide +kernel,rfl,by decide +kernel,by decide +kernel⟩
theorem qU:jJ ["self","start"] ["self"] (jD oS):=⟨rfl,rfl,rfl,by decide +kernel,rfl,by decide +kernel,by decide +kernel⟩
theorem lB:jJ ["self","start","number","byte"] ["self"] (jD nK):=⟨rfl,rfl,rfl,by decide +kernel,rfl,by decide +kernel,by decide +kernel⟩
theorem CT:jJ ["self","name","gain","ways","total"] ["self","name","gain","ways","total"] (jD tY):=⟨rfl,rfl,rfl,by decide +kernel,rfl,by decide +kernel,by decide +kernel⟩
theorem EH:jJ ["self","name","choices"] ["self","name","choices"] (jD vj):=⟨rfl,rfl,rfl,by decide +kernel,rfl,by decide +kernel,by decide +kernel⟩
theorem CU:jJ ["self","tops","bottom"] ["self","tops","bottom"] (jD tZ):=⟨rfl,rfl,rfl,by decide +kernel,rfl,by decide +kernel,by decide +kernel⟩
theorem oU:jJ ["self","top"] ["self"] (jD pG):=⟨rfl,rfl,rfl,by decide +kernel,rfl,by decide +kernel,by decide +kernel⟩
theorem rZ:jJ ["self","top"] ["self"] (jD t6):=⟨rfl,rfl,rfl,by decide +kernel,rfl,by decide +kernel,by decide +kernel⟩
theorem EI:jJ ["self","options","ends"] ["self","options","ends"] (jD vm):=⟨rfl,rfl,rfl,by decide +kernel,rfl,by decide +kernel,by decide +kernel⟩
theorem nB:jJ ["self","plan","place","row","choice","way"] ["self","plan","place"] (jD pZ):=⟨rfl,rfl,rfl,by decide +kernel,rfl,by decide +kernel,by decide +kernel⟩
theorem oH:jJ ["self","choice","values","ahead","way"] ["self","choice","values"] (jD rW):=⟨rfl,rfl,rfl,by decide +kernel,rfl,by decide +kernel,by decide +kernel⟩
theorem yX:jJ ["self","choice","other","values"] ["self","choice","other","values"] (jD pH):=⟨rfl,rfl,rfl,by decide +kernel,rfl,by decide +kernel,by decide +kernel⟩
theorem nD:jJ ["self","plan","values","better","place","choices","number","choice"] ["self","plan","values"] (jD p5):=⟨rfl,rfl,rfl,by decide +kernel,rfl,by decide +kernel,by decide +kernel⟩
theorem lT:jJ ["self","plan","values","place","better"] ["self","plan"] (jD p6):=⟨rfl,rfl,rfl,by decide +kernel,rfl,by decide +kernel,by decide +kernel⟩
theorem qy:jJ ["self","place","values","choice"] ["self","place","values"] (jD nW):=⟨rfl,rfl,rfl,by decide +kernel,rfl,by decide +kernel,by decide +kernel⟩
set_option genInjectivity false in structure Adr where
 (Ig:Addr) (FL:FuncData)
 (CV:Addr) (Bh:FuncData)
 (Bj:Addr) (zA:FuncData)
 (wG:Addr) (vF:FuncData)
 (zB:Addr) (yk:FuncData)
 (Bk:Addr) (zC:FuncData)
 (CW:Addr) (Bl:FuncData)
 (ym:Addr) (wH:FuncData)
 (zE:Addr) (yo:FuncData)
 (uy:Addr) (sX:FuncData)
 (yp:Addr) (wI:FuncData)
 (wJ:Addr) (vG:FuncData)
 (zF:Addr) (yq:FuncData)
 (sj:Addr) (qV:FuncData)
 (CY:Addr) (Na:FuncData)
 (uz:Addr) (sY:FuncData)
 (Bo:Addr) (zG:FuncData)
 (qP:Addr) (uA:FuncData)
 (PK:Addr) (Lm:FuncData)
 (FN:Addr) (CZ:FuncData)
 (Ln:Addr) (Ih:FuncData)
 (zH:Addr) (yr:FuncData)
 (yt:Addr) (wK:FuncData)
 (wL:Addr) (vH:FuncData)
 (zI:Addr) (yu:FuncData)
 (qz:Addr) (pO:FuncData)
 (yw:Addr) (wM:FuncData)
 (wN:Addr) (vI:FuncData)
 (wO:Addr) (vJ:FuncData)
 (Bp:Addr) (zJ:FuncData)
 (AO:Addr) (SG:FuncData)
 (yx:Addr) (wQ:FuncData)
 (yz:Addr) (wR:FuncData)
 (qA:Addr) (pP:FuncData)
 (qB:Addr) (pQ:FuncData)
 (vK:Addr) (uB:FuncData)
 (vL:Addr) (uC:FuncData)
 (sr:Addr) (qW:FuncData)
 (qC:Addr) (pR:FuncData)
 (yC:Addr) (wU:FuncData)
 (zK:Addr) (yD:FuncData)
 (yE:Addr) (wV:FuncData)
 (sZ:Addr) (su:FuncData)
 (yF:Addr) (wW:FuncData)
 (zL:Addr) (yG:FuncData)
 (uD:Addr) (tu:FuncData)
 (wX:Addr) (vM:FuncData)
 (tE:Addr) (sA:FuncData)
 (uE:Addr) (tF:FuncData)
 (uF:Addr) (tG:FuncData)
 (qX:Addr) (qD:FuncData)
 (kU kF oJ nL mF jM j9 kg kr mJ rq rA:Addr)
structure Txt(K:aj)(mg:Str->Option Value)(t:Adr):Prop where
 nM:xY K mg "demand" "demand" CO ["holds"] t.Ig t.FL
 C0:xY K mg "is_digit" "is_digit" yV ["byte"] t.CV t.Bh
 AQ:xY K mg "is_letter" "is_letter" wB ["byte"] t.Bj t.zA
 zM:xY K mg "is_name_byte" "is_name_byte" rQ ["byte"] t.wG t.vF
 vp:xY K mg "all_differ" "all_differ" vd ["names"] t.zB t.yk
 FO:xY K mg "read_gain" "read_gain" wC ["reader"] t.Bk t.zC
 C1:xY K mg "read_way" "read_way" yW ["reader"] t.CW t.Bl
 Bq:xY K mg "read_choice" "read_choice" tR ["reader"] t.ym t.wH
 C2:xY K mg "read_state" "read_state" ve ["reader"] t.zE t.yo
 wY:xY K mg "ways_to_places" "ways_to_places" pX ["ways","names"] t.uy t.sX
 Br:xY K mg "read_states" "read_states" tS ["text"] t.yp t.wI
 rB:xY K mg "demand_range" "demand_range" rR ["number","least","greatest"] t.wJ t.vG
 C3:xY K mg "read_given" "read_given" vf ["text","room"] t.zF t.yq
 uG:xY K mg "read_given_goals" "read_given_goals" oR ["text","room","goals"] t.sj t.qV
 answer:xY K mg "answer" "answer" zz ["work"] t.CY t.Na
 wZ:xY K mg "common_divisor" "common_divisor" pY ["number","other"] t.uz t.sY
 digits_of:xY K mg "digits_of" "digits_of" wD ["number"] t.Bo t.zG
 yH:xY K mg "fraction_told" "fraction_told" oF ["top","bottom"] t.qP t.uA
 tell:xY K mg "tell" "tell" JZ ["states","words","room"] t.PK t.Lm
 cleared:xY K mg "cleared" "cleared" AL ["row","pivot_row","turn","pivot_before"] t.FN t.CZ
 Uw:xY K mg "solve" "solve" GK ["rows"] t.Ln t.Ih
 C4:xY K mg "goal_marks" "goal_marks" vg ["goals","states"] t.zH t.yr
 Bs:xY K mg "gains_taken" "gains_taken" tU ["choices","times"] t.yt t.wK
 zN:xY K mg "options_till" "options_till" rS ["marks","states","times"] t.wL t.vH
 C5:xY K mg "leads_into" "leads_into" vh ["choice","marks"] t.zI t.yu
 sC:xY K mg "choices_staying_in" "choices_staying_in" nH ["marks","choices"] t.qz t.pO
 xf:xY K mg "plan_toward" "plan_toward" tV ["marks","options"] t.yw t.wM
 zO:xY K mg "options_sure" "options_sure" rT ["marks","options"] t.wN t.vI
 zP:xY K mg "demand_costs" "demand_costs" rV ["states"] t.wO t.vJ
 FP:xY K mg "tell_cost" "tell_cost" wF ["goals","room","text"] t.Bp t.zJ
 cost:xY K mg "cost" "cost" CP ["goals","room","text"] t.AO t.SG
 Bt:Met K "__init__" "Reader.__init__" tW ["self","text"] t.kU t.yx t.wQ
 lN:Met K "here" "Reader.here" tX ["self"] t.kU t.yz t.wR
 sD:Met K "skip_remark" "Reader.skip_remark" nI ["self"] t.kU t.qA t.pP
 mC:Met K "skip_blanks" "Reader.skip_blanks" nJ ["self"] t.kU t.qB t.pQ
 yI:Met K "at_end" "Reader.at_end" qM ["self"] t.kU t.vK t.uB
 mj:Met K "passes" "Reader.passes" qN ["self","mark"] t.kU t.vL t.uC
 mW:Met K "take_name" "Reader.take_name" oS ["self"] t.kU t.sr t.qW
 oV:Met K "take_number" "Reader.take_number" nK ["self"] t.kU t.qC t.pR
 xg:Met K "__init__" "Choice.__init__" tY ["self","name","gain","ways","total"] t.kF t.yC t.wU
 C6:Met K "__init__" "State.__init__" vj ["self","name","choices"] t.oJ t.zK t.yD
 xh:Met K "__init__" "Values.__init__" tZ ["self","tops","bottom"] t.nL t.yE t.wV
 vN:Met K "negative" "Values.negative" pG ["self"] t.nL t.sZ t.su
 Bu:Met K "told" "Values.told" t6 ["self"] t.nL t.yF t.wW
 C7:Met K "__init__" "Quest.__init__" vm ["self","options","ends"] t.mF t.zL t.yG
 xj:Met K "equation" "Quest.equation" pZ ["self","plan","place"] t.mF t.uD t.tu
 rC:Met K "top_by" "Quest.top_by" rW ["self","choice","values"] t.mF t.wX t.vM
 vO:Met K "is_better" "Quest.is_better" pH ["self","choice","other","values"] t.mF t.tE t.sA
 xm:Met K "improved" "Quest.improved" p5 ["self","plan","values"] t.mF t.uE t.tF
 xo:Met K "greatest" "Quest.greatest" p6 ["self","plan"] t.mF t.uF t.tG
 tH:Met K "choice_told" "Quest.choice_told" nW ["self","place","values"] t.mF t.qX t.qD
 jH:Ut K mg "Reader" t.kU
 oh:mU K t.kU "text"
 jW:mU K t.kU "place"
 j0:Ut K mg "Choice" t.kF
 qi:mU K t.kF "name"
 oj:mU K t.kF "gain"
 mq:mU K t.kF "ways"
 lO:mU K t.kF "total"
 tK:Ut K mg "State" t.oJ
 vq:mU K t.oJ "name"
 oK:mU K t.oJ "choices"
 mX:Ut K mg "Values" t.nL
 om:mU K t.nL "tops"
 oM:mU K t.nL "bottom"
 mT:Ut K mg "Quest" t.mF
 nq:mU K t.mF "options"
 zQ:mU K t.mF "ends"
 zR:Exc K mg "NoSuchText" t.jM
 zS:Exc K mg "OutOfRange" t.j9
 zT:Exc K mg "NoSuchGoal" t.kg
 zU:Exc K mg "GainTooLow" t.kr
 Ii:Exc K mg "NoRoom" t.mJ
 C8:yf mg "LONGEST_NAME" (.int (16))
 EJ:yf mg "MOST_DIGITS" (.int (7))
 zV:yf mg "GREATEST_NUMBER" (.int (1000000))
 BP:yf mg "GREATEST_GAIN" (.int (1000))
 zW:yf mg "GREATEST_WEIGHT" (.int (1000))
 EK:yf mg "MOST_STATES" (.int (16))
 C9:yf mg "MOST_CHOICES" (.int (8))
 Dc:yf mg "LINE_END" (.int (10))
 GO:yf mg "BLANK" (.int (32))
 PL:yf mg "HASH" (.int (35))
 SH:yf mg "COMMA" (.int (44))
 Lo:yf mg "MINUS" (.int (45))
 Lp:yf mg "SLASH" (.int (47))
 J0:yf mg "ZERO" (.int (48))
 SI:yf mg "COLON" (.int (58))
 Il:yf mg "SEMICOLON" (.int (59))
 GP:yf mg "UNDERSCORE" (.int (95))
 GQ:yf mg "LEFT_BRACE" (.int (123))
 EL:yf mg "RIGHT_BRACE" (.int (125))
 yY:yf mg "TEXT_END" (.int (256))
 GR:mg "STATE_WORD" = some (.ref t.rq)
 GS:∀H,sQ K H t.rq (([115,116,97,116,101]:List Int).map V.int)
 Dd:yf mg "LONGEST_TEXT" (.int (65536))
 BQ:yf mg "GREATEST_ROOM" (.int (65536))
 AR:yf mg "GREATEST_GOALS" (.int (65535))
 De:yf mg "OUT_OF_RANGE" (.int (-1))
 Df:yf mg "NO_SUCH_TEXT" (.int (-2))
 Dg:yf mg "NO_SUCH_GOAL" (.int (-3))
 Dh:yf mg "GAIN_TOO_LOW" (.int (-4))
 Nb:yf mg "NO_ROOM" (.int (-7))
 GU:mg "NEVER_WORD" = some (.ref t.rA)
 GV:∀H,sQ K H t.rA (([110,101,118,101,114]:List Int).map V.int)
 qE:mg "len" = none
 zX:mg "range" = none
 o7:mg "enumerate" = none
 Lq:mg "zip" = none
 Ux:mg "sum" = none
 XS:mg "abs" = none
 AS:mg "list" = none
 SJ:mg "tuple" = none
 XT:mg "set" = none
 Uy:mg "any" = none
 Uz:mg "all" = none
 J1:mg "reversed" = none
 uH:mz K t.jM t.j9
 FQ:mz K t.jM t.kg
 FT:mz K t.jM t.kr
 Jo:mz K t.jM t.mJ
 FU:mz K t.j9 t.jM
 FW:mz K t.j9 t.kg
 FY:mz K t.j9 t.kr
 Jp:mz K t.j9 t.mJ
 uI:mz K t.kg t.jM
 uJ:mz K t.kg t.j9
 FZ:mz K t.kg t.kr
 Jq:mz K t.kg t.mJ
 uK:mz K t.kr t.jM
 uL:mz K t.kr t.j9
 uM:mz K t.kr t.kg
 Jr:mz K t.kr t.mJ
 xZ:mz K t.mJ t.jM
 x6:mz K t.mJ t.j9
 x8:mz K t.mJ t.kg
 x9:mz K t.mJ t.kr
end Ck
end
noncomputable section
namespace Ck
open PySem PySem.Spec PyProof.Rows L2
section
variable{P:Program}{w:World}{K:aj}{mg:Str->Option Value}{base:Heap}{t:Adr}
abbrev Ok(P:Program)(w:World)(K:aj)(mg:Str->Option Value)(base:Heap)(k:Nat)(f:Addr)(fd:FuncData)(ps:List Str)(sp:Sp):Prop:=AB P w K mg base (yT P w) k f fd ps sp
theorem AU(T:Txt K mg t)(kb:K.In base):OwnCls "NoSuchText" t.jM [.type "Exception",.type "BaseException",.type "object"] "Exception.__new__" mg base:=uq kb T.zR.mg T.zR.ex
theorem nN:bootBuiltins "len" = some (.builtin "len"):=by decide +kernel
theorem VM:bootBuiltins "set" = some (.type "set"):=by decide +kernel
theorem PN:bootBuiltins "tuple" = some (.type "tuple"):=by decide +kernel
theorem zY:bootBuiltins "list" = some (.type "list"):=by decide +kernel
theorem PP:bootBuiltins "sum" = some (.builtin "sum"):=by decide +kernel
theorem PR:bootBuiltins "any" = some (.builtin "any"):=by decide +kernel
theorem PU:bootBuiltins "all" = some (.builtin "all"):=by decide +kernel
theorem t9{b:Bool}{A B:Prop}(e:b=true)(h:A):if b=true then A else B:=by rw[if_pos e];exact h
theorem sP{b:Bool}{A B:Prop}(e:b=false)(h:B):if b=true then A else B:=by rw[e];exact tP h
def AV(t:Adr):Sp:=λ vs H Q E=>∃c:Bool,vs=[.bl c]/\if c=true then Q .qZ H else E (.ref t.jM) none H
theorem kW(T:Txt K mg t)(kb:K.In base):Ok P w K mg base 1 t.Ig t.FL ["holds"] (AV t):=by
 refine T.nM.fn.rm M8 (λ vs H Q E h=>?_) λ cdv A outer s H vs Q E hr h=>?_
 ·obtain⟨c,rfl,_⟩:=h;rfl
 ·obtain⟨c,rfl,h⟩:=h
  refine⟨_,jy (qR (Ci (pS (pv 0))) (jy (vZ xl_of rfl (AU T kb) bX)) ny),?_⟩;refine⟨_,rfl,c,rfl,?_⟩
  cases c with
  |true=>exact tP h
  |false=>exact vX h
def GW(f:Nat->Bool):Sp:=λ vs H Q _=>∃c:Nat,vs=[.int c]/\Q (.bl (f c)) H
theorem sE(a b:Nat):decide ((a:Int)<=(b:Int))=decide (a<=b):=by
 rw[aX,decide_eq_true_eq,decide_eq_true_eq];omega
theorem ch{a x b:Int}{H:Hp}{Q:VK}(h:Q (.bl (decide (a<=x)&&decide (x<=b))) H) :
  ∃k,V.bl (decide (a<=x))=.bl k/\(if k=true then (∃i j,V.int x=.int i/\V.int b=.int j/\Q (.bl (decide (i<=j))) H) else Q (.bl false) H):=by
 refine⟨_,rfl,?_⟩
 by_cases q:a<=x
 ·rw[decide_eq_true q] at h ⊢
  exact vX ⟨_,_,rfl,rfl,h⟩
 ·rw[decide_eq_false q] at h ⊢
  exact tP h
theorem Y4{a x b:Int}{i:Nat}{σ:L2.St}{H:Hp}{Q:VK}(hv:σ[i]? = some (some (.int x)))(h:Q (.bl (decide (a<=x)&&decide (x<=b))) H) :
  Gu (Jk λ i j=>.bl (decide (i<=j))) (Jk λ i j=>.bl (decide (i<=j))) (tC (.int a)) (zg i) (tC (.int b)) σ H Q:=⟨_,hv,_,_,rfl,rfl,ch h⟩
theorem Bv(T:Txt K mg t):Ok P w K mg base 1 t.CV t.Bh ["byte"] (GW Ra61.isDigit):=by
 refine T.C0.fn.rm Ie (λ vs H Q E h=>?_) λ cdv A outer s H vs Q E hr h=>?_
 ·obtain⟨c,rfl,_⟩:=h;rfl
 ·obtain⟨c,rfl,h⟩:=h
  refine⟨_,jy (jP (ug pB pB jL (pv 0) jL)),?_⟩;refine Y4 (x:=c) rfl ?_;show Q (.bl (decide ((48:Int)<=c)&&decide ((c:Int)<=57))) H;have e:(decide ((48:Int)<=c)&&decide ((c:Int)<=57))=Ra61.isDigit c:=by
   unfold Ra61.isDigit;rw[show decide ((48:Int)<=c)=decide (48<=c) from sE 48 c,show decide ((c:Int)<=57)=decide (c<=57) from sE c 57]
  rw[e];exact h
theorem zZ(T:Txt K mg t):Ok P w K mg base 1 t.Bj t.zA ["byte"] (GW Ra61.isLetter):=by
 refine T.AQ.fn.rm GL (λ vs H Q E h=>?_) λ cdv A outer s H vs Q E hr h=>?_
 ·obtain⟨c,rfl,_⟩:=h;rfl
 ·obtain⟨c,rfl,h⟩:=h
  refine⟨_,jy (jP (KL (ug pB pB jL (pv 0) jL) (Ju (ug pB pB jL (pv 0) jL)))),?_⟩;refine Y4 (x:=c) rfl ?_;refine⟨_,rfl,?_⟩;have e1:(decide ((65:Int)<=c)&&decide ((c:Int)<=90))=(decide (65<=c)&&decide (c<=90)):=by
   rw[show decide ((65:Int)<=c)=decide (65<=c) from sE 65 c,show decide ((c:Int)<=90)=decide (c<=90) from sE c 90]
  have e2:(decide ((97:Int)<=c)&&decide ((c:Int)<=122))=(decide (97<=c)&&decide (c<=122)):=by
   rw[show decide ((97:Int)<=c)=decide (97<=c) from sE 97 c,show decide ((c:Int)<=122)=decide (c<=122) from sE c 122]
  have e3:Ra61.isLetter c=((decide (65<=c)&&decide (c<=90))||(decide (97<=c)&&decide (c<=122))):=by unfold Ra61.isLetter;rw[Bool.or_comm]
  rw[e3] at h;show if (decide ((65:Int)<=c)&&decide ((c:Int)<=90))=true then _ else _
  rw[e1]
  cases q:(decide (65<=c)&&decide (c<=90)) with
  |true=>rw[q,iF] at h;exact vX h
  |false=>
   rw[q,fi] at h;refine tP (Y4 (x:=c) rfl ?_);show Q (.bl (decide ((97:Int)<=c)&&decide ((c:Int)<=122))) H;rw[e2];exact h
theorem BR(T:Txt K mg t):Ok P w K mg base 2 t.wG t.vF ["byte"] (GW Ra61.isWord):=by
 refine T.zM.fn.rm BN (λ vs H Q E h=>?_) λ cdv A outer s H vs Q E hr h=>?_
 ·obtain⟨c,rfl,_⟩:=h;rfl
 ·obtain⟨c,rfl,h⟩:=h
  refine⟨_,jy (jP (KL (j6 T.AQ (zZ T) hr rfl jU (jt (pv 0) jw)) (KL (j6 T.C0 (Bv T) hr rfl jU (jt (pv 0) jw)) (Ju (nS yb (pv 0) (kO T.GP rfl) (kH _)))))),?_⟩;unfold Ra61.isWord at h;refine⟨_,rfl,c,rfl,_,rfl,?_⟩
  cases q:Ra61.isLetter c with
  |true=>rw[q,iF] at h;exact vX h
  |false=>
   rw[q,fi] at h;refine tP ⟨_,rfl,c,rfl,_,rfl,?_⟩
   cases q:Ra61.isDigit c with
   |true=>rw[q,iF] at h;exact vX h
   |false=>
    rw[q,fi] at h;refine tP ⟨_,rfl,rfl,?_⟩;have e:decide (V.int (c:Int)=V.int 95)=(c==95):=by
     rw[lD,aX,beq_iff_eq,beq_iff_eq];omega
    show Q (.bl (decide (V.int (c:Int)=V.int 95))) H;rw[e];exact h
theorem PV(kl:List (List Int)):decide (((St.dd (kl.map ky)).length:Int)=kl.length)=decide kl.Nodup:=by
 rw[aX,decide_eq_true_eq,decide_eq_true_eq]
 have h:=(St.JQ (kl.map ky)).2
 rw[ah] at h
 have h2:(kl.map ky).Nodup↔kl.Nodup:=by
  rw[List.Nodup,di];exact⟨λ z=>dj (λ h1 h2=>h1 (by rw[h2])) z,λ z=>dj (λ h1 h2=>h1 (GG h2)) z⟩
 rw[h2] at h
 rw[<-h]
 omega
def EM(K:aj):Sp:=λ vs H Q _=>∃(l:Addr) (as:List Addr) (kl:List (List Int)),vs=[.ref l]/\jO K H l (as.map V.ref)/\rj K H as kl/\kl.length<=32768/\∀H',jF H H'->Q (.bl (decide kl.Nodup)) H'
theorem jz{H:Hp}{p:Addr}{o:HO}(h:H p=none):jF H (upd H p o):=λ b u e=>by rw[jA (jB e h)];exact e
theorem ua(T:Txt K mg t):Ok P w K mg base 1 t.zB t.yk ["names"] (EM K):=by
 refine T.vp.fn.rm EF (λ vs H Q E h=>?_) λ cdv A outer s H vs Q E hr h=>?_
 ·obtain⟨l,as,kl,rfl,_⟩:=h;rfl
 ·obtain⟨l,as,kl,rfl,hl,hT,hn,h⟩:=h
  refine⟨_,jy (jP (nS yb (kj HV (by rfl) T.qE nN (jt (pU (MZ rfl hr.units) (by rfl) T.XT VM (jt (pv 0) jw)) jw))
   (kj jY (by rfl) T.qE nN (jt (pv 0) jw)) (kH _))),?_⟩
  refine⟨_,rfl,l,as,kl,rfl,hl,hT,hn,λ p hp=>?_⟩;have sm:=jz (o:=.ext (Pd p (St.dd (kl.map ky)).length)) hp;refine⟨p,_,rfl,ju,_,rfl,l,_,rfl,.inl (sm.seq hl),rfl,?_⟩;have e:decide (V.int ((St.dd (kl.map ky)).length:Int)=V.int ((as.map V.ref).length:Int))=decide kl.Nodup:=by
   rw[<-PV,lD,ah,hT.len,aX,beq_iff_eq,decide_eq_true_eq]
  show Q (.bl (decide (V.int ((St.dd (kl.map ky)).length:Int)=V.int ((as.map V.ref).length:Int)))) _;rw[e];exact h _ sm
end
end Ck
end
noncomputable section
namespace Ck
open PySem PySem.W L2 PySem.Calls PyProof.Rows
abbrev pg:=dU
def z0:Program:=view pg [0,2,3,4,5,6,7,8,9,10,11,12,13,14,15,16,17,18,19,20,21,22,23,24,25,26,27,28,29,30,31,32,33,34,35,36,37,39,40,41,42,43,44,45,46,47,48,49,50,51,52,53,54,55,56,57,58,59,60,61,62,63,64,65,66,67,68,69,70,71,72,73]
def p0:Pos:=⟨0,0,0,0⟩
def ev:Env:={ scope:=pg.main.scope,locals:=mainNs,globals:=mainNs,cells:=[],code:=.ref 13,frame:=some 14 }
def WK:List Stmt:=behindTheImports pg
def tr0(P:Params):BT:=
 (.node (boot_o_0 P) (.node (boot_o_1 P) (.node (boot_o_3 P) (.node (boot_o_7 P) .nil .nil) (.node (.mk (.type "tuple") none (.seq #[] 0) #[]) .nil .nil)) (.node (boot_o_5 P) (.node (boot_o_9 P) .nil .nil) (.node (.mk (.type "code") none (.fields #[(.str "<module>" 182),(.str "<module>" 183),(.str "/claim/cut.py" 184),(.int 1 0),(.int 0 0),(.int 0 0),(.int 0 0),(.int 0 0),(.ref 11),(.bool false),(.int 181 0),(.ref 12),.none,.none,.none,.none,(.int 185 0),(.int 1 0),(.str "/claim/cut.py" 186)]) #[]) .nil .nil))) (.node (boot_o_2 P) (.node (boot_o_4 P) (.node (boot_o_8 P) .nil .nil) (.node (.mk .none none (.fields #[]) #[]) .nil .nil)) (.node (boot_o_6 P) (.node (boot_o_10 P) .nil .nil) (.node (.mk (.type "frame") none .plain #[(some (.ref 13)),(some (.ref 3)),(some (.ref 3)),none,(some (.str "__main__" 164)),none,(some (.ref 0))]) .nil .nil))))
def st0(P:Params)(os:OsState):SharedT:=⟨tr0 P,15,(.mk [] [] [] 0 [] [] false #[] [] 0 false false false 0 [2000,10,10] false 0 true [] [] 0 false),#[],.mk 0 0 0 0,187,os⟩
abbrev ff(n q:Str)(d:Stmt)(m:Str)(t c:Nat):FuncData:=fnOf n q (u7 d) (sR d) (jD d) .none .none .none (.str m t) none (.ref c) .none
abbrev fo(n q:Str)(d:Stmt)(m:Str)(t c:Nat):Obj:=⟨.type "function",none,.func (ff n q d m t c),#[]⟩
def co(n q:Str)(t l c f a k j:Nat):Obj:=⟨.type "code",none,.fields #[.str n t,.str q (t+1),.str "/claim/cut.py" (t+2),.int l 0,.int c 0,.int 0 0,.int 0 0,.int f 0,.ref a,.bool true,.int 181 0,.ref (a+1),.none,.ref (a+2),.ref (a+3),.ref (a+4),.int k 0,.int l 0,.str "/claim/cut.py" j],#[]⟩
def cn(n q:Str)(t l c f a k j:Nat):Obj:=⟨.type "code",none,.fields #[.str n t,.str q (t+1),.str "/claim/cut.py" (t+2),.int l 0,.int c 0,.int 0 0,.int 0 0,.int f 0,.ref a,.bool true,.int 181 0,.ref (a+1),.none,.none,.none,.ref (a+2),.int k 0,.int l 0,.str "/claim/cut.py" j],#[]⟩
def de(P:Params)(k:Str)(t:Nat)(v:Value):DictEntry:=⟨PyData.keyHash P k,.str k t,v⟩
def Kt(P:Params):Frag:=
 (nat_lit 3,(.mk (.type "dict") none (.dict #[(de P "__name__" 165 (.str "chancechoices.chances" 489)),(de P "__doc__" 166 .none),(de P "__package__" 167 .none),(de P "__loader__" 168 (.builtin "__main__.__loader__#opaque")),(de P "__spec__" 169 .none),(de P "__annotations__" 170 (.ref 6)),(de P "__builtins__" 171 (.ref 4)),(de P "__file__" 173 (.str "/claim/cut.py" 172)),(de P "__cached__" 174 .none),(de P "_wall" 193 (.ref 21)),(de P "LONGEST_NAME" 197 (.int 16 196)),(de P "MOST_DIGITS" 199 (.int 7 198)),(de P "GREATEST_NUMBER" 201 (.int 1000000 200)),(de P "GREATEST_GAIN" 203 (.int 1000 202)),(de P "GREATEST_WEIGHT" 205 (.int 1000 204)),(de P "MOST_STATES" 207 (.int 16 206)),(de P "MOST_CHOICES" 209 (.int 8 208)),(de P "LINE_END" 211 (.int 10 210)),(de P "BLANK" 213 (.int 32 212)),(de P "HASH" 215 (.int 35 214)),(de P "COMMA" 217 (.int 44 216)),(de P "MINUS" 219 (.int 45 218)),(de P "SLASH" 221 (.int 47 220)),(de P "ZERO" 223 (.int 48 222)),(de P "COLON" 225 (.int 58 224)),(de P "SEMICOLON" 227 (.int 59 226)),(de P "UNDERSCORE" 229 (.int 95 228)),(de P "LEFT_BRACE" 231 (.int 123 230)),(de P "RIGHT_BRACE" 233 (.int 125 232)),(de P "TEXT_END" 235 (.int 256 234)),(de P "STATE_WORD" 241 (.ref 22)),(de P "NoSuchText" 261 (.ref 32)),(de P "demand" 268 (.ref 42)),(de P "is_digit" 275 (.ref 49)),(de P "is_letter" 282 (.ref 56)),(de P "is_name_byte" 289 (.ref 63)),(de P "all_differ" 296 (.ref 70)),(de P "Reader" 380 (.ref 136)),(de P "read_gain" 389 (.ref 147)),(de P "read_way" 398 (.ref 154)),(de P "Choice" 433 (.ref 171)),(de P "read_choice" 439 (.ref 180)),(de P "State" 470 (.ref 197)),(de P "read_state" 476 (.ref 206)),(de P "ways_to_places" 482 (.ref 211)),(de P "read_states" 488 (.ref 216)),(de P "LONGEST_TEXT" 492 (.int 65536 491)),(de P "GREATEST_ROOM" 494 (.int 65536 493)),(de P "GREATEST_GOALS" 496 (.int 65535 495)),(de P "OUT_OF_RANGE" 499 (.int (-1) 498)),(de P "NO_SUCH_TEXT" 502 (.int (-2) 501)),(de P "NO_SUCH_GOAL" 505 (.int (-3) 504)),(de P "GAIN_TOO_LOW" 508 (.int (-4) 507)),(de P "NO_ROOM" 511 (.int (-7) 510)),(de P "NEVER_WORD" 517 (.ref 217)),(de P "OutOfRange" 537 (.ref 227)),(de P "NoSuchGoal" 557 (.ref 240)),(de P "GainTooLow" 577 (.ref 253)),(de P "NoRoom" 597 (.ref 266)),(de P "demand_range" 606 (.ref 276)),(de P "read_given" 614 (.ref 283)),(de P "read_given_goals" 624 (.ref 290)),(de P "answer" 631 (.ref 297)),(de P "common_divisor" 640 (.ref 304)),(de P "digits_of" 648 (.ref 311)),(de P "fraction_told" 658 (.ref 318)),(de P "tell" 670 (.ref 325)),(de P "Values" 713 (.ref 352)),(de P "cleared" 719 (.ref 361)),(de P "solve" 725 (.ref 366)),(de P "Quest" 822 (.ref 428)),(de P "goal_marks" 828 (.ref 437)),(de P "gains_taken" 834 (.ref 442)),(de P "options_till" 840 (.ref 447)),(de P "leads_into" 846 (.ref 452)),(de P "choices_staying_in" 852 (.ref 457)),(de P "plan_toward" 858 (.ref 462)),(de P "options_sure" 864 (.ref 467)),(de P "demand_costs" 870 (.ref 472)),(de P "tell_cost" 876 (.ref 477)),(de P "cost" 888 (.ref 484))] 81) #[])) ::
 (nat_lit 22,(.mk (.type "tuple") none (.seq #[(.int 115 236),(.int 116 237),(.int 97 238),(.int 116 239),(.int 101 240)] 0) #[])) ::
 (nat_lit 31,(.mk (.type "dict") none (.dict #[(de P "__module__" 249 (.str "chancechoices.texts" 194)),(de P "__firstlineno__" 253 (.int 26 252)),(de P "__static_attributes__" 254 (.ref 30)),(de P "__weakref__" 256 (.ref 33)),(de P "__doc__" 257 .none)] 3) #[])) ::
 (nat_lit 32,(.mk (.type "type") none (.cls (ClassData.mk "NoSuchText" [(.type "Exception")] [(.ref 32),(.type "Exception"),(.type "BaseException"),(.type "object")] 31 "NoSuchText" true [] [] false none false)) #[(some (.ref 23)),none,(some (.str "NoSuchText" 242)),(some (.str "NoSuchText" 250)),(some (.builtin "Exception.__new__")),(some (.bool true))])) ::
 (nat_lit 41,co "demand" "demand" 262 28 1 3 36 266 267) ::
 (nat_lit 42,fo "demand" "demand" CO "chancechoices.texts" 194 41) ::
 (nat_lit 48,co "is_digit" "is_digit" 269 31 1 3 43 273 274) ::
 (nat_lit 49,fo "is_digit" "is_digit" yV "chancechoices.texts" 194 48) ::
 (nat_lit 55,co "is_letter" "is_letter" 276 33 1 3 50 280 281) ::
 (nat_lit 56,fo "is_letter" "is_letter" wB "chancechoices.texts" 194 55) ::
 (nat_lit 62,co "is_name_byte" "is_name_byte" 283 35 1 3 57 287 288) ::
 (nat_lit 63,fo "is_name_byte" "is_name_byte" rQ "chancechoices.texts" 194 62) ::
 (nat_lit 69,co "all_differ" "all_differ" 290 37 1 3 64 294 295) ::
 (nat_lit 70,fo "all_differ" "all_differ" vd "chancechoices.texts" 194 69) ::
 (nat_lit 83,co "__init__" "Reader.__init__" 309 41 2 3 78 314 315) ::
 (nat_lit 84,fo "__init__" "Reader.__init__" tW "chancechoices.texts" 194 83) ::
 (nat_lit 90,co "here" "Reader.here" 317 45 1 3 85 321 322) ::
 (nat_lit 91,fo "here" "Reader.here" tX "chancechoices.texts" 194 90) ::
 (nat_lit 97,co "skip_remark" "Reader.skip_remark" 324 50 1 3 92 328 329) ::
 (nat_lit 98,fo "skip_remark" "Reader.skip_remark" nI "chancechoices.texts" 194 97) ::
 (nat_lit 104,co "skip_blanks" "Reader.skip_blanks" 331 54 1 3 99 335 336) ::
 (nat_lit 105,fo "skip_blanks" "Reader.skip_blanks" nJ "chancechoices.texts" 194 104) ::
 (nat_lit 111,co "at_end" "Reader.at_end" 338 61 1 3 106 342 343) ::
 (nat_lit 112,fo "at_end" "Reader.at_end" qM "chancechoices.texts" 194 111) ::
 (nat_lit 118,co "passes" "Reader.passes" 345 65 2 3 113 350 351) ::
 (nat_lit 119,fo "passes" "Reader.passes" qN "chancechoices.texts" 194 118) ::
 (nat_lit 125,co "take_name" "Reader.take_name" 353 72 1 3 120 358 359) ::
 (nat_lit 126,fo "take_name" "Reader.take_name" oS "chancechoices.texts" 194 125) ::
 (nat_lit 132,co "take_number" "Reader.take_number" 361 81 1 3 127 368 369) ::
 (nat_lit 133,fo "take_number" "Reader.take_number" nK "chancechoices.texts" 194 132) ::
 (nat_lit 135,(.mk (.type "dict") none (.dict #[(de P "__module__" 304 (.str "chancechoices.texts" 194)),(de P "__firstlineno__" 308 (.int 39 307)),(de P "__init__" 316 (.ref 84)),(de P "here" 323 (.ref 91)),(de P "skip_remark" 330 (.ref 98)),(de P "skip_blanks" 337 (.ref 105)),(de P "at_end" 344 (.ref 112)),(de P "passes" 352 (.ref 119)),(de P "take_name" 360 (.ref 126)),(de P "take_number" 370 (.ref 133)),(de P "__static_attributes__" 373 (.ref 134)),(de P "__dict__" 375 (.ref 137)),(de P "__weakref__" 377 (.ref 138)),(de P "__doc__" 378 .none)] 4) #[])) ::
 (nat_lit 136,(.mk (.type "type") none (.cls (ClassData.mk "Reader" [(.type "object")] [(.ref 136),(.type "object")] 135 "Reader" true [] [] false none false)) #[none,none,(some (.str "Reader" 297)),(some (.str "Reader" 305)),(some (.builtin "object.__new__")),(some (.bool true))])) ::
 (nat_lit 146,co "read_gain" "read_gain" 381 92 1 3 141 387 388) ::
 (nat_lit 147,fo "read_gain" "read_gain" wC "chancechoices.texts" 194 146) ::
 (nat_lit 153,co "read_way" "read_way" 390 97 1 3 148 396 397) ::
 (nat_lit 154,fo "read_way" "read_way" yW "chancechoices.texts" 194 153) ::
 (nat_lit 167,co "__init__" "Choice.__init__" 411 106 5 3 162 419 420) ::
 (nat_lit 168,fo "__init__" "Choice.__init__" tY "chancechoices.texts" 194 167) ::
 (nat_lit 170,(.mk (.type "dict") none (.dict #[(de P "__module__" 406 (.str "chancechoices.texts" 194)),(de P "__firstlineno__" 410 (.int 104 409)),(de P "__init__" 421 (.ref 168)),(de P "__static_attributes__" 426 (.ref 169)),(de P "__dict__" 428 (.ref 172)),(de P "__weakref__" 430 (.ref 173)),(de P "__doc__" 431 .none)] 4) #[])) ::
 (nat_lit 171,(.mk (.type "type") none (.cls (ClassData.mk "Choice" [(.type "object")] [(.ref 171),(.type "object")] 170 "Choice" true [] [] false none false)) #[none,none,(some (.str "Choice" 399)),(some (.str "Choice" 407)),(some (.builtin "object.__new__")),(some (.bool true))])) ::
 (nat_lit 179,cn "read_choice" "read_choice" 434 111 1 3 176 437 438) ::
 (nat_lit 180,fo "read_choice" "read_choice" tR "chancechoices.texts" 194 179) ::
 (nat_lit 193,co "__init__" "State.__init__" 452 123 3 3 188 458 459) ::
 (nat_lit 194,fo "__init__" "State.__init__" vj "chancechoices.texts" 194 193) ::
 (nat_lit 196,(.mk (.type "dict") none (.dict #[(de P "__module__" 447 (.str "chancechoices.texts" 194)),(de P "__firstlineno__" 451 (.int 121 450)),(de P "__init__" 460 (.ref 194)),(de P "__static_attributes__" 463 (.ref 195)),(de P "__dict__" 465 (.ref 198)),(de P "__weakref__" 467 (.ref 199)),(de P "__doc__" 468 .none)] 4) #[])) ::
 (nat_lit 197,(.mk (.type "type") none (.cls (ClassData.mk "State" [(.type "object")] [(.ref 197),(.type "object")] 196 "State" true [] [] false none false)) #[none,none,(some (.str "State" 440)),(some (.str "State" 448)),(some (.builtin "object.__new__")),(some (.bool true))])) ::
 (nat_lit 205,cn "read_state" "read_state" 471 126 1 3 202 474 475) ::
 (nat_lit 206,fo "read_state" "read_state" ve "chancechoices.texts" 194 205) ::
 (nat_lit 210,cn "ways_to_places" "ways_to_places" 477 136 2 3 207 480 481) ::
 (nat_lit 211,fo "ways_to_places" "ways_to_places" pX "chancechoices.texts" 194 210) ::
 (nat_lit 215,cn "read_states" "read_states" 483 139 1 3 212 486 487) ::
 (nat_lit 216,fo "read_states" "read_states" tS "chancechoices.texts" 194 215) ::
 (nat_lit 217,(.mk (.type "tuple") none (.seq #[(.int 110 512),(.int 101 513),(.int 118 514),(.int 101 515),(.int 114 516)] 0) #[])) ::
 (nat_lit 226,(.mk (.type "dict") none (.dict #[(de P "__module__" 525 (.str "chancechoices.chances" 489)),(de P "__firstlineno__" 529 (.int 161 528)),(de P "__static_attributes__" 530 (.ref 225)),(de P "__weakref__" 532 (.ref 228)),(de P "__doc__" 533 .none)] 3) #[])) ::
 (nat_lit 227,(.mk (.type "type") none (.cls (ClassData.mk "OutOfRange" [(.type "Exception")] [(.ref 227),(.type "Exception"),(.type "BaseException"),(.type "object")] 226 "OutOfRange" true [] [] false none false)) #[(some (.ref 218)),none,(some (.str "OutOfRange" 518)),(some (.str "OutOfRange" 526)),(some (.builtin "Exception.__new__")),(some (.bool true))])) ::
 (nat_lit 239,(.mk (.type "dict") none (.dict #[(de P "__module__" 545 (.str "chancechoices.chances" 489)),(de P "__firstlineno__" 549 (.int 163 548)),(de P "__static_attributes__" 550 (.ref 238)),(de P "__weakref__" 552 (.ref 241)),(de P "__doc__" 553 .none)] 3) #[])) ::
 (nat_lit 240,(.mk (.type "type") none (.cls (ClassData.mk "NoSuchGoal" [(.type "Exception")] [(.ref 240),(.type "Exception"),(.type "BaseException"),(.type "object")] 239 "NoSuchGoal" true [] [] false none false)) #[(some (.ref 231)),none,(some (.str "NoSuchGoal" 538)),(some (.str "NoSuchGoal" 546)),(some (.builtin "Exception.__new__")),(some (.bool true))])) ::
 (nat_lit 252,(.mk (.type "dict") none (.dict #[(de P "__module__" 565 (.str "chancechoices.chances" 489)),(de P "__firstlineno__" 569 (.int 165 568)),(de P "__static_attributes__" 570 (.ref 251)),(de P "__weakref__" 572 (.ref 254)),(de P "__doc__" 573 .none)] 3) #[])) ::
 (nat_lit 253,(.mk (.type "type") none (.cls (ClassData.mk "GainTooLow" [(.type "Exception")] [(.ref 253),(.type "Exception"),(.type "BaseException"),(.type "object")] 252 "GainTooLow" true [] [] false none false)) #[(some (.ref 244)),none,(some (.str "GainTooLow" 558)),(some (.str "GainTooLow" 566)),(some (.builtin "Exception.__new__")),(some (.bool true))])) ::
 (nat_lit 265,(.mk (.type "dict") none (.dict #[(de P "__module__" 585 (.str "chancechoices.chances" 489)),(de P "__firstlineno__" 589 (.int 167 588)),(de P "__static_attributes__" 590 (.ref 264)),(de P "__weakref__" 592 (.ref 267)),(de P "__doc__" 593 .none)] 3) #[])) ::
 (nat_lit 266,(.mk (.type "type") none (.cls (ClassData.mk "NoRoom" [(.type "Exception")] [(.ref 266),(.type "Exception"),(.type "BaseException"),(.type "object")] 265 "NoRoom" true [] [] false none false)) #[(some (.ref 257)),none,(some (.str "NoRoom" 578)),(some (.str "NoRoom" 586)),(some (.builtin "Exception.__new__")),(some (.bool true))])) ::
 (nat_lit 275,co "demand_range" "demand_range" 598 169 3 3 270 604 605) ::
 (nat_lit 276,fo "demand_range" "demand_range" rR "chancechoices.chances" 489 275) ::
 (nat_lit 282,co "read_given" "read_given" 607 172 2 3 277 612 613) ::
 (nat_lit 283,fo "read_given" "read_given" vf "chancechoices.chances" 489 282) ::
 (nat_lit 289,co "read_given_goals" "read_given_goals" 615 176 3 3 284 622 623) ::
 (nat_lit 290,fo "read_given_goals" "read_given_goals" oR "chancechoices.chances" 489 289) ::
 (nat_lit 296,co "answer" "answer" 625 182 1 3 291 629 630) ::
 (nat_lit 297,fo "answer" "answer" zz "chancechoices.chances" 489 296) ::
 (nat_lit 303,co "common_divisor" "common_divisor" 632 195 2 3 298 638 639) ::
 (nat_lit 304,fo "common_divisor" "common_divisor" pY "chancechoices.chances" 489 303) ::
 (nat_lit 310,co "digits_of" "digits_of" 641 201 1 3 305 646 647) ::
 (nat_lit 311,fo "digits_of" "digits_of" wD "chancechoices.chances" 489 310) ::
 (nat_lit 317,co "fraction_told" "fraction_told" 649 207 2 3 312 656 657) ::
 (nat_lit 318,fo "fraction_told" "fraction_told" oF "chancechoices.chances" 489 317) ::
 (nat_lit 324,co "tell" "tell" 659 213 3 3 319 668 669) ::
 (nat_lit 325,fo "tell" "tell" JZ "chancechoices.chances" 489 324) ::
 (nat_lit 338,co "__init__" "Values.__init__" 683 222 3 3 333 689 690) ::
 (nat_lit 339,fo "__init__" "Values.__init__" tZ "chancechoices.chances" 489 338) ::
 (nat_lit 343,cn "negative" "Values.negative" 692 226 1 3 340 695 696) ::
 (nat_lit 344,fo "negative" "Values.negative" pG "chancechoices.chances" 489 343) ::
 (nat_lit 348,cn "told" "Values.told" 698 229 1 3 345 701 702) ::
 (nat_lit 349,fo "told" "Values.told" t6 "chancechoices.chances" 489 348) ::
 (nat_lit 351,(.mk (.type "dict") none (.dict #[(de P "__module__" 678 (.str "chancechoices.chances" 489)),(de P "__firstlineno__" 682 (.int 220 681)),(de P "__init__" 691 (.ref 339)),(de P "negative" 697 (.ref 344)),(de P "told" 703 (.ref 349)),(de P "__static_attributes__" 706 (.ref 350)),(de P "__dict__" 708 (.ref 353)),(de P "__weakref__" 710 (.ref 354)),(de P "__doc__" 711 .none)] 4) #[])) ::
 (nat_lit 352,(.mk (.type "type") none (.cls (ClassData.mk "Values" [(.type "object")] [(.ref 352),(.type "object")] 351 "Values" true [] [] false none false)) #[none,none,(some (.str "Values" 671)),(some (.str "Values" 679)),(some (.builtin "object.__new__")),(some (.bool true))])) ::
 (nat_lit 360,cn "cleared" "cleared" 714 231 4 3 357 717 718) ::
 (nat_lit 361,fo "cleared" "cleared" AL "chancechoices.chances" 489 360) ::
 (nat_lit 365,cn "solve" "solve" 720 235 1 3 362 723 724) ::
 (nat_lit 366,fo "solve" "solve" GK "chancechoices.chances" 489 365) ::
 (nat_lit 379,co "__init__" "Quest.__init__" 738 244 3 3 374 744 745) ::
 (nat_lit 380,fo "__init__" "Quest.__init__" vm "chancechoices.chances" 489 379) ::
 (nat_lit 386,co "equation" "Quest.equation" 747 248 3 3 381 756 757) ::
 (nat_lit 387,fo "equation" "Quest.equation" pZ "chancechoices.chances" 489 386) ::
 (nat_lit 391,cn "top_by" "Quest.top_by" 759 261 3 3 388 762 763) ::
 (nat_lit 392,fo "top_by" "Quest.top_by" rW "chancechoices.chances" 489 391) ::
 (nat_lit 398,co "is_better" "Quest.is_better" 765 265 4 3 393 772 773) ::
 (nat_lit 399,fo "is_better" "Quest.is_better" pH "chancechoices.chances" 489 398) ::
 (nat_lit 405,co "improved" "Quest.improved" 775 268 3 3 400 786 787) ::
 (nat_lit 406,fo "improved" "Quest.improved" p5 "chancechoices.chances" 489 405) ::
 (nat_lit 410,cn "greatest" "Quest.greatest" 789 276 2 3 407 792 793) ::
 (nat_lit 411,fo "greatest" "Quest.greatest" p6 "chancechoices.chances" 489 410) ::
 (nat_lit 424,co "choice_told" "Quest.choice_told" 803 287 3 3 419 810 811) ::
 (nat_lit 425,fo "choice_told" "Quest.choice_told" nW "chancechoices.chances" 489 424) ::
 (nat_lit 427,(.mk (.type "dict") none (.dict #[(de P "__module__" 733 (.str "chancechoices.chances" 489)),(de P "__firstlineno__" 737 (.int 242 736)),(de P "__init__" 746 (.ref 380)),(de P "equation" 758 (.ref 387)),(de P "top_by" 764 (.ref 392)),(de P "is_better" 774 (.ref 399)),(de P "improved" 788 (.ref 406)),(de P "greatest" 794 (.ref 411)),(de P "step_ahead" 802 (.ref 418)),(de P "choice_told" 812 (.ref 425)),(de P "__static_attributes__" 815 (.ref 426)),(de P "__dict__" 817 (.ref 429)),(de P "__weakref__" 819 (.ref 430)),(de P "__doc__" 820 .none)] 4) #[])) ::
 (nat_lit 428,(.mk (.type "type") none (.cls (ClassData.mk "Quest" [(.type "object")] [(.ref 428),(.type "object")] 427 "Quest" true [] [] false none false)) #[none,none,(some (.str "Quest" 726)),(some (.str "Quest" 734)),(some (.builtin "object.__new__")),(some (.bool true))])) ::
 (nat_lit 436,cn "goal_marks" "goal_marks" 823 292 2 3 433 826 827) ::
 (nat_lit 437,fo "goal_marks" "goal_marks" vg "chancechoices.chances" 489 436) ::
 (nat_lit 441,cn "gains_taken" "gains_taken" 829 294 2 3 438 832 833) ::
 (nat_lit 442,fo "gains_taken" "gains_taken" tU "chancechoices.chances" 489 441) ::
 (nat_lit 446,cn "options_till" "options_till" 835 296 3 3 443 838 839) ::
 (nat_lit 447,fo "options_till" "options_till" rS "chancechoices.chances" 489 446) ::
 (nat_lit 451,cn "leads_into" "leads_into" 841 298 2 3 448 844 845) ::
 (nat_lit 452,fo "leads_into" "leads_into" vh "chancechoices.chances" 489 451) ::
 (nat_lit 456,cn "choices_staying_in" "choices_staying_in" 847 300 2 3 453 850 851) ::
 (nat_lit 457,fo "choices_staying_in" "choices_staying_in" nH "chancechoices.chances" 489 456) ::
 (nat_lit 461,cn "plan_toward" "plan_toward" 853 302 2 3 458 856 857) ::
 (nat_lit 462,fo "plan_toward" "plan_toward" tV "chancechoices.chances" 489 461) ::
 (nat_lit 466,cn "options_sure" "options_sure" 859 312 2 3 463 862 863) ::
 (nat_lit 467,fo "options_sure" "options_sure" rT "chancechoices.chances" 489 466) ::
 (nat_lit 471,cn "demand_costs" "demand_costs" 865 318 1 3 468 868 869) ::
 (nat_lit 472,fo "demand_costs" "demand_costs" rV "chancechoices.chances" 489 471) ::
 (nat_lit 476,cn "tell_cost" "tell_cost" 871 322 3 3 473 874 875) ::
 (nat_lit 477,fo "tell_cost" "tell_cost" wF "chancechoices.chances" 489 476) ::
 (nat_lit 483,co "cost" "cost" 877 336 3 3 478 886 887) ::
 (nat_lit 484,fo "cost" "cost" CP "chancechoices.chances" 489 483)::[]
def Ka:List Addr:=[3,22,31,32,41,42,48,49,55,56,62,63,69,70,83,84,90,91,97,98,104,105,111,112,118,119,125,126,132,133,135,136,146,147,153,154,167,168,170,171,179,180,193,194,196,197,205,206,210,211,215,216,217,226,227,239,240,252,253,265,266,275,276,282,283,289,290,296,297,303,304,310,311,317,318,324,325,338,339,343,344,348,349,351,352,360,361,365,366,379,380,386,387,391,392,398,399,405,406,410,411,424,425,427,428,436,437,441,442,446,447,451,452,456,457,461,462,466,467,471,472,476,477,483,484]
def Kh:Hook:=kHook Kt Ka (λ _=>by kernel_rfl)
abbrev Xt0:Shared->Bool:=λ s=>xlAt z0 [] s&&recOk [] s
theorem pre0(w:World):(λ os=>(topGo treeTable pg w 11 (some (.ref 6)) 12 ⟨boot_heap w.params,Array.mk [],boot_drawn,boot_toks,os⟩ (topStub pg)).map (·.2))=λ _=>some ⟨denote treeTable (.body WK ev),.body WK ev,p0,[topFrame p0]⟩:=by kernel_rfl
theorem blk0(w:World):(λ os=>(topGo treeTable pg w 11 (some (.ref 6)) 12 ⟨boot_heap w.params,Array.mk [],boot_drawn,boot_toks,os⟩ (topStub pg)).bind λ x=>segRun treeTable pg w 11 (some (.ref 6)) 1 1 x.1 (blockOf WK ev (.body WK ev) p0 [topFrame p0]))=λ os=>some (.next,(st0 w.params os).abs,.body WK ev,p0):=by kernel_rfl
abbrev XU(w:World)(os:OsState):Option Shared:=M3 pg w 11 (some (.ref 6)) 3846 2 (st0 w.params os) WK ev p0 p0
theorem run1(w:World):(λ os=>(XU w os).map λ s=>(staticsOk (importedModules pg.main.body) (boot_heap w.params) s.heap&&namesBound pg s.heap&&gensDone s&&laidKept (boot_heap w.params) s.heap,s.heap.bltView,tabsOk z0 s,pinSeenD z0 (drecsOf z0) s,Kh.obs s))=λ _=>some (true,bltViewBooted,true,pinGoodD (drecsOf z0),Kh.val w):=by kernel_rfl
theorem run2(w:World):(λ os=>(XU w os).map λ s=>seen ((recsOf z0).map (·.name)) (ownsOf z0) [] { s with gens:=#[] })=λ _=>some (expectedOf z0):=by kernel_rfl
theorem run3(w:World):(λ os=>(XU w os).map λ s=>s.heap.keysOk (looseW z0 []) ((recsOf z0).map (·.name)) ((litsOf z0).map (·.1)) ((clssOf z0 (looseW z0 [])).map (·.name))&&s.heap.accountedOkI (importedModules pg.main.body))=λ _=>some true:=by kernel_rfl
theorem run4(w:World):(λ os=>(XU w os).map λ s=>s.heap.isNs mainGlobals&&s.heap.isNs builtinsNs&&tablesOk z0 s.heap&&Xt0 s&&(s.gens.size==0))=λ _=>some true:=by kernel_rfl
theorem run5(w:World):(λ os=>(XU w os).map λ s=>(plainSeenE z0 (looseW z0 []) s,plainSeenD z0 [] s,wideSeen z0 s,clsSeenW z0 [] s))=λ _=>some (plainGoodE z0 (looseW z0 []),plainGoodD z0 [],wideGood z0,clsGoodW z0 []):=by kernel_rfl
theorem XW:LeftO pg z0 [] Xt0 Kh.obs Kh.val 7816:=
 M4 (boot_open (by kernel_rfl) (by decide) (λ _=>by kernel_rfl)) (λ _=>by kernel_rfl) pre0 blk0 run1 run2 run3 run4 run5 (by decide)
theorem bd0{P:List Value->Prop}(h:P []):∀us,us.length=0->P us
 |[],_=>h
theorem Di{P:List Value->Prop}(h:∀a,P [a]):∀us,us.length=1->P us:=λ us e=>by
 cases us with
 |nil=>cases e
 |cons a r=>exact bd0 (P:=λ r=>P (a::r)) (h a) r (fN e)
theorem Lr{P:List Value->Prop}(h:∀a b,P [a,b]):∀us,us.length=2->P us:=λ us e=>by
 cases us with
 |nil=>cases e
 |cons a r=>exact Di (P:=λ r=>P (a::r)) (h a) r (fN e)
theorem Ls{P:List Value->Prop}(h:∀a b c,P [a,b,c]):∀us,us.length=3->P us:=λ us e=>by
 cases us with
 |nil=>cases e
 |cons a r=>exact Lr (P:=λ r=>P (a::r)) (h a) r (fN e)
theorem bd4{P:List Value->Prop}(h:∀a b c d,P [a,b,c,d]):∀us,us.length=4->P us:=λ us e=>by
 cases us with
 |nil=>cases e
 |cons a r=>exact Ls (P:=λ r=>P (a::r)) (h a) r (fN e)
theorem bd5{P:List Value->Prop}(h:∀a b c d e,P [a,b,c,d,e]):∀us,us.length=5->P us:=λ us e=>by
 cases us with
 |nil=>cases e
 |cons a r=>exact bd4 (P:=λ r=>P (a::r)) (h a) r (fN e)
theorem bd6{P:List Value->Prop}(h:∀a b c d e f,P [a,b,c,d,e,f]):∀us,us.length=6->P us:=λ us e=>by
 cases us with
 |nil=>cases e
 |cons a r=>exact bd5 (P:=λ r=>P (a::r)) (h a) r (fN e)
theorem kJ{K:Frag}{h:Heap}{mg:Str->Option Value}{x q:Str}{d:Stmt}{ps:List Str}{a:Addr}(X:K.In h)(G:h.Ns mainGlobals mg)(m:Str)(t c:Nat)(e:nsIn K mainGlobals x=some (some (.ref a)))(l:K.lookup a=some (fo x q d m t c))(hc:codeIn K (.ref c) q=true)
  (b:∀(kV doc pm:Value) (an:Option Addr) (cdv ct:Value) (us:List Value),us.length=ps.length->bindArgs (fnOf x q (u7 d) (sR d) (jD d) .none kV doc pm an cdv ct) ⟨us,[]⟩=pure (ps.zip us)):xY K mg x q d ps a (ff x q d m t c):=
 have F:=OM (st:=d) l hc (by unfold keepIn;dsimp only;rw[l])
 ⟨F,F.binds b,mg_of X G e⟩
theorem mY{K:Frag}{x q:Str}{d:Stmt}{ps:List Str}{C a:Addr}(m:Str)(t c:Nat)(e:findIn K (.ref C) x=some (some (.ref a)))(l:K.lookup a=some (fo x q d m t c))(hc:codeIn K (.ref c) q=true)
  (b:∀(kV doc pm:Value) (an:Option Addr) (cdv ct:Value) (us:List Value),us.length=ps.length->bindArgs (fnOf x q (u7 d) (sR d) (jD d) .none kV doc pm an cdv ct) ⟨us,[]⟩=pure (ps.zip us)):Met K x q d ps C a (ff x q d m t c):=
 have kp:keepIn K (.ref a)=true:=by unfold keepIn;dsimp only;rw[l]
 have F:=OM (st:=d) l hc kp
 ⟨F,F.binds b,⟨e,by unfold isFn typeIn;dsimp only;rw[l];rfl,kp⟩⟩
theorem vP{K:Frag}{C:Addr}{f:Str}(e:findIn K (.ref C) f=some none):mU K C f:=e
theorem kB{K:Frag}{C D:Addr}(h:(match K.lookup C with | some ⟨_,_,.cls cd,_⟩=>!cd.mro.contains (.ref D) | _=>false)=true):mz K C D:=by
 split at h
 ·rename_i l
  exact⟨_,_,_,_,l,by simpa using h⟩
 ·cases h
theorem kY{K:Frag}{h:Heap}{mg:Str->Option Value}{x:Str}{v:Int}(X:K.In h)(G:h.Ns mainGlobals mg)(e:(match nsIn K mainGlobals x with | some (some (.int i _))=>i==v | _=>false)=true):yf mg x (.int v):=by
 split at e
 ·rename_i l
  cases beq_iff_eq.mp e;exact⟨_,mg_of X G l,⟨_,rfl⟩⟩
 ·cases e
theorem txt{h:Heap}{mg:Str->Option Value}{P:Params}(X:(Kt P).In h)(G:h.Ns mainGlobals mg):∃t,Txt (Kt P) mg t:=
 ⟨⟨42,_,49,_,56,_,63,_,70,_,147,_,154,_,180,_,206,_,211,_,216,_,276,_,283,_,290,_,297,_,304,_,311,_,318,_,325,_,361,_,366,_,437,_,442,_,447,_,452,_,457,_,462,_,467,_,472,_,477,_,484,_,84,_,91,_,98,_,105,_,112,_,119,_,126,_,133,_,168,_,194,_,339,_,344,_,349,_,380,_,387,_,392,_,399,_,406,_,411,_,425,_,136,171,197,352,428,32,227,240,253,266,22,217⟩,
 ⟨kJ X G "chancechoices.texts" 194 41 (by kernel_rfl) (by kernel_rfl) (by kernel_rfl) (λ _ _ _ _ _ _=>Di λ _=>rfl),
 kJ X G "chancechoices.texts" 194 48 (by kernel_rfl) (by kernel_rfl) (by kernel_rfl) (λ _ _ _ _ _ _=>Di λ _=>rfl),
 kJ X G "chancechoices.texts" 194 55 (by kernel_rfl) (by kernel_rfl) (by kernel_rfl) (λ _ _ _ _ _ _=>Di λ _=>rfl),
 kJ X G "chancechoices.texts" 194 62 (by kernel_rfl) (by kernel_rfl) (by kernel_rfl) (λ _ _ _ _ _ _=>Di λ _=>rfl),
 kJ X G "chancechoices.texts" 194 69 (by kernel_rfl) (by kernel_rfl) (by kernel_rfl) (λ _ _ _ _ _ _=>Di λ _=>rfl),
 kJ X G "chancechoices.texts" 194 146 (by kernel_rfl) (by kernel_rfl) (by kernel_rfl) (λ _ _ _ _ _ _=>Di λ _=>rfl),
 kJ X G "chancechoices.texts" 194 153 (by kernel_rfl) (by kernel_rfl) (by kernel_rfl) (λ _ _ _ _ _ _=>Di λ _=>rfl),
 kJ X G "chancechoices.texts" 194 179 (by kernel_rfl) (by kernel_rfl) (by kernel_rfl) (λ _ _ _ _ _ _=>Di λ _=>rfl),
 kJ X G "chancechoices.texts" 194 205 (by kernel_rfl) (by kernel_rfl) (by kernel_rfl) (λ _ _ _ _ _ _=>Di λ _=>rfl),
 kJ X G "chancechoices.texts" 194 210 (by kernel_rfl) (by kernel_rfl) (by kernel_rfl) (λ _ _ _ _ _ _=>Lr λ _ _=>rfl),
 kJ X G "chancechoices.texts" 194 215 (by kernel_rfl) (by kernel_rfl) (by kernel_rfl) (λ _ _ _ _ _ _=>Di λ _=>rfl),
 kJ X G "chancechoices.chances" 489 275 (by kernel_rfl) (by kernel_rfl) (by kernel_rfl) (λ _ _ _ _ _ _=>Ls λ _ _ _=>rfl),
 kJ X G "chancechoices.chances" 489 282 (by kernel_rfl) (by kernel_rfl) (by kernel_rfl) (λ _ _ _ _ _ _=>Lr λ _ _=>rfl),
 kJ X G "chancechoices.chances" 489 289 (by kernel_rfl) (by kernel_rfl) (by kernel_rfl) (λ _ _ _ _ _ _=>Ls λ _ _ _=>rfl),
 kJ X G "chancechoices.chances" 489 296 (by kernel_rfl) (by kernel_rfl) (by kernel_rfl) (λ _ _ _ _ _ _=>Di λ _=>rfl),
 kJ X G "chancechoices.chances" 489 303 (by kernel_rfl) (by kernel_rfl) (by kernel_rfl) (λ _ _ _ _ _ _=>Lr λ _ _=>rfl),
 kJ X G "chancechoices.chances" 489 310 (by kernel_rfl) (by kernel_rfl) (by kernel_rfl) (λ _ _ _ _ _ _=>Di λ _=>rfl),
 kJ X G "chancechoices.chances" 489 317 (by kernel_rfl) (by kernel_rfl) (by kernel_rfl) (λ _ _ _ _ _ _=>Lr λ _ _=>rfl),
 kJ X G "chancechoices.chances" 489 324 (by kernel_rfl) (by kernel_rfl) (by kernel_rfl) (λ _ _ _ _ _ _=>Ls λ _ _ _=>rfl),
 kJ X G "chancechoices.chances" 489 360 (by kernel_rfl) (by kernel_rfl) (by kernel_rfl) (λ _ _ _ _ _ _=>bd4 λ _ _ _ _=>rfl),
 kJ X G "chancechoices.chances" 489 365 (by kernel_rfl) (by kernel_rfl) (by kernel_rfl) (λ _ _ _ _ _ _=>Di λ _=>rfl),
 kJ X G "chancechoices.chances" 489 436 (by kernel_rfl) (by kernel_rfl) (by kernel_rfl) (λ _ _ _ _ _ _=>Lr λ _ _=>rfl),
 kJ X G "chancechoices.chances" 489 441 (by kernel_rfl) (by kernel_rfl) (by kernel_rfl) (λ _ _ _ _ _ _=>Lr λ _ _=>rfl),
 kJ X G "chancechoices.chances" 489 446 (by kernel_rfl) (by kernel_rfl) (by kernel_rfl) (λ _ _ _ _ _ _=>Ls λ _ _ _=>rfl),
 kJ X G "chancechoices.chances" 489 451 (by kernel_rfl) (by kernel_rfl) (by kernel_rfl) (λ _ _ _ _ _ _=>Lr λ _ _=>rfl),
 kJ X G "chancechoices.chances" 489 456 (by kernel_rfl) (by kernel_rfl) (by kernel_rfl) (λ _ _ _ _ _ _=>Lr λ _ _=>rfl),
 kJ X G "chancechoices.chances" 489 461 (by kernel_rfl) (by kernel_rfl) (by kernel_rfl) (λ _ _ _ _ _ _=>Lr λ _ _=>rfl),
 kJ X G "chancechoices.chances" 489 466 (by kernel_rfl) (by kernel_rfl) (by kernel_rfl) (λ _ _ _ _ _ _=>Lr λ _ _=>rfl),
 kJ X G "chancechoices.chances" 489 471 (by kernel_rfl) (by kernel_rfl) (by kernel_rfl) (λ _ _ _ _ _ _=>Di λ _=>rfl),
 kJ X G "chancechoices.chances" 489 476 (by kernel_rfl) (by kernel_rfl) (by kernel_rfl) (λ _ _ _ _ _ _=>Ls λ _ _ _=>rfl),
 kJ X G "chancechoices.chances" 489 483 (by kernel_rfl) (by kernel_rfl) (by kernel_rfl) (λ _ _ _ _ _ _=>Ls λ _ _ _=>rfl),
 mY "chancechoices.texts" 194 83 (by kernel_rfl) (by kernel_rfl) (by kernel_rfl) (λ _ _ _ _ _ _=>Lr λ _ _=>rfl),
 mY "chancechoices.texts" 194 90 (by kernel_rfl) (by kernel_rfl) (by kernel_rfl) (λ _ _ _ _ _ _=>Di λ _=>rfl),
 mY "chancechoices.texts" 194 97 (by kernel_rfl) (by kernel_rfl) (by kernel_rfl) (λ _ _ _ _ _ _=>Di λ _=>rfl),
 mY "chancechoices.texts" 194 104 (by kernel_rfl) (by kernel_rfl) (by kernel_rfl) (λ _ _ _ _ _ _=>Di λ _=>rfl),
 mY "chancechoices.texts" 194 111 (by kernel_rfl) (by kernel_rfl) (by kernel_rfl) (λ _ _ _ _ _ _=>Di λ _=>rfl),
 mY "chancechoices.texts" 194 118 (by kernel_rfl) (by kernel_rfl) (by kernel_rfl) (λ _ _ _ _ _ _=>Lr λ _ _=>rfl),
 mY "chancechoices.texts" 194 125 (by kernel_rfl) (by kernel_rfl) (by kernel_rfl) (λ _ _ _ _ _ _=>Di λ _=>rfl),
 mY "chancechoices.texts" 194 132 (by kernel_rfl) (by kernel_rfl) (by kernel_rfl) (λ _ _ _ _ _ _=>Di λ _=>rfl),
 mY "chancechoices.texts" 194 167 (by kernel_rfl) (by kernel_rfl) (by kernel_rfl) (λ _ _ _ _ _ _=>bd5 λ _ _ _ _ _=>rfl),
 mY "chancechoices.texts" 194 193 (by kernel_rfl) (by kernel_rfl) (by kernel_rfl) (λ _ _ _ _ _ _=>Ls λ _ _ _=>rfl),
 mY "chancechoices.chances" 489 338 (by kernel_rfl) (by kernel_rfl) (by kernel_rfl) (λ _ _ _ _ _ _=>Ls λ _ _ _=>rfl),
 mY "chancechoices.chances" 489 343 (by kernel_rfl) (by kernel_rfl) (by kernel_rfl) (λ _ _ _ _ _ _=>Di λ _=>rfl),
 mY "chancechoices.chances" 489 348 (by kernel_rfl) (by kernel_rfl) (by kernel_rfl) (λ _ _ _ _ _ _=>Di λ _=>rfl),
 mY "chancechoices.chances" 489 379 (by kernel_rfl) (by kernel_rfl) (by kernel_rfl) (λ _ _ _ _ _ _=>Ls λ _ _ _=>rfl),
 mY "chancechoices.chances" 489 386 (by kernel_rfl) (by kernel_rfl) (by kernel_rfl) (λ _ _ _ _ _ _=>Ls λ _ _ _=>rfl),
 mY "chancechoices.chances" 489 391 (by kernel_rfl) (by kernel_rfl) (by kernel_rfl) (λ _ _ _ _ _ _=>Ls λ _ _ _=>rfl),
 mY "chancechoices.chances" 489 398 (by kernel_rfl) (by kernel_rfl) (by kernel_rfl) (λ _ _ _ _ _ _=>bd4 λ _ _ _ _=>rfl),
 mY "chancechoices.chances" 489 405 (by kernel_rfl) (by kernel_rfl) (by kernel_rfl) (λ _ _ _ _ _ _=>Ls λ _ _ _=>rfl),
 mY "chancechoices.chances" 489 410 (by kernel_rfl) (by kernel_rfl) (by kernel_rfl) (λ _ _ _ _ _ _=>Lr λ _ _=>rfl),
 mY "chancechoices.chances" 489 424 (by kernel_rfl) (by kernel_rfl) (by kernel_rfl) (λ _ _ _ _ _ _=>Ls λ _ _ _=>rfl),
 ⟨⟨by kernel_rfl,by kernel_rfl,by kernel_rfl,by kernel_rfl⟩,mg_of X G (by kernel_rfl),by kernel_rfl,by kernel_rfl⟩,
 vP (by kernel_rfl),
 vP (by kernel_rfl),
 ⟨⟨by kernel_rfl,by kernel_rfl,by kernel_rfl,by kernel_rfl⟩,mg_of X G (by kernel_rfl),by kernel_rfl,by kernel_rfl⟩,
 vP (by kernel_rfl),
 vP (by kernel_rfl),
 vP (by kernel_rfl),
 vP (by kernel_rfl),
 ⟨⟨by kernel_rfl,by kernel_rfl,by kernel_rfl,by kernel_rfl⟩,mg_of X G (by kernel_rfl),by kernel_rfl,by kernel_rfl⟩,
 vP (by kernel_rfl),
 vP (by kernel_rfl),
 ⟨⟨by kernel_rfl,by kernel_rfl,by kernel_rfl,by kernel_rfl⟩,mg_of X G (by kernel_rfl),by kernel_rfl,by kernel_rfl⟩,
 vP (by kernel_rfl),
 vP (by kernel_rfl),
 ⟨⟨by kernel_rfl,by kernel_rfl,by kernel_rfl,by kernel_rfl⟩,mg_of X G (by kernel_rfl),by kernel_rfl,by kernel_rfl⟩,
 vP (by kernel_rfl),
 vP (by kernel_rfl),
 ⟨mg_of X G (by kernel_rfl),by kernel_rfl⟩,
 ⟨mg_of X G (by kernel_rfl),by kernel_rfl⟩,
 ⟨mg_of X G (by kernel_rfl),by kernel_rfl⟩,
 ⟨mg_of X G (by kernel_rfl),by kernel_rfl⟩,
 ⟨mg_of X G (by kernel_rfl),by kernel_rfl⟩,
 kY X G (by kernel_rfl),
 kY X G (by kernel_rfl),
 kY X G (by kernel_rfl),
 kY X G (by kernel_rfl),
 kY X G (by kernel_rfl),
 kY X G (by kernel_rfl),
 kY X G (by kernel_rfl),
 kY X G (by kernel_rfl),
 kY X G (by kernel_rfl),
 kY X G (by kernel_rfl),
 kY X G (by kernel_rfl),
 kY X G (by kernel_rfl),
 kY X G (by kernel_rfl),
 kY X G (by kernel_rfl),
 kY X G (by kernel_rfl),
 kY X G (by kernel_rfl),
 kY X G (by kernel_rfl),
 kY X G (by kernel_rfl),
 kY X G (by kernel_rfl),
 kY X G (by kernel_rfl),
 mg_of X G (by kernel_rfl),
 λ H=>.inr ⟨_,_,_,(show (Kt P).lookup 22=some ⟨.type "tuple",none,.seq #[(.int 115 236),(.int 116 237),(.int 97 238),(.int 116 239),(.int 101 240)] 0,#[]⟩ by kernel_rfl),rfl,rfl,(by show (5:Nat)<=sizeLine;decide),.cons ⟨_,rfl⟩ (.cons ⟨_,rfl⟩ (.cons ⟨_,rfl⟩ (.cons ⟨_,rfl⟩ (.cons ⟨_,rfl⟩ (.nil)))))⟩,
 kY X G (by kernel_rfl),
 kY X G (by kernel_rfl),
 kY X G (by kernel_rfl),
 kY X G (by kernel_rfl),
 kY X G (by kernel_rfl),
 kY X G (by kernel_rfl),
 kY X G (by kernel_rfl),
 kY X G (by kernel_rfl),
 mg_of X G (by kernel_rfl),
 λ H=>.inr ⟨_,_,_,(show (Kt P).lookup 217=some ⟨.type "tuple",none,.seq #[(.int 110 512),(.int 101 513),(.int 118 514),(.int 101 515),(.int 114 516)] 0,#[]⟩ by kernel_rfl),rfl,rfl,(by show (5:Nat)<=sizeLine;decide),.cons ⟨_,rfl⟩ (.cons ⟨_,rfl⟩ (.cons ⟨_,rfl⟩ (.cons ⟨_,rfl⟩ (.cons ⟨_,rfl⟩ (.nil)))))⟩,
 mg_none_of X G (by kernel_rfl),
 mg_none_of X G (by kernel_rfl),
 mg_none_of X G (by kernel_rfl),
 mg_none_of X G (by kernel_rfl),
 mg_none_of X G (by kernel_rfl),
 mg_none_of X G (by kernel_rfl),
 mg_none_of X G (by kernel_rfl),
 mg_none_of X G (by kernel_rfl),
 mg_none_of X G (by kernel_rfl),
 mg_none_of X G (by kernel_rfl),
 mg_none_of X G (by kernel_rfl),
 mg_none_of X G (by kernel_rfl),
 kB (by kernel_rfl),
 kB (by kernel_rfl),
 kB (by kernel_rfl),
 kB (by kernel_rfl),
 kB (by kernel_rfl),
 kB (by kernel_rfl),
 kB (by kernel_rfl),
 kB (by kernel_rfl),
 kB (by kernel_rfl),
 kB (by kernel_rfl),
 kB (by kernel_rfl),
 kB (by kernel_rfl),
 kB (by kernel_rfl),
 kB (by kernel_rfl),
 kB (by kernel_rfl),
 kB (by kernel_rfl),
 kB (by kernel_rfl),
 kB (by kernel_rfl),
 kB (by kernel_rfl),
 kB (by kernel_rfl)⟩⟩
end Ck
end
noncomputable section
namespace Fq
open Ra61
def Is(x:Fr)(a b:Int):Prop:=0<x.den/\0<b/\x.num*b=a*(x.den:Int)
theorem PX{z:Int}{d:Nat}(h:0<d):0<(fr z d).den:=by
 show 0<d/max 1 (bx z.natAbs d)
 have hg:0<bx z.natAbs d:=dD _ h
 rw[Nat.max_eq_right hg]
 exact Nat.div_pos (Nat.le_of_dvd h (gX _ _)) hg
theorem XX{z:Int}{d:Nat}(h:0<d):Is (fr z d) z d:=by
 refine⟨PX h,by omega,?_⟩
 have hg:0<bx z.natAbs d:=dD _ h
 show z/((max 1 (bx z.natAbs d):Nat):Int)*(d:Int)=z*((d/max 1 (bx z.natAbs d):Nat):Int)
 rw[Nat.max_eq_right hg]
 have h1:((bx z.natAbs d:Nat):Int) ∣ z:=Int.ofNat_dvd_left.mpr (Nat.gcd_dvd_left _ _)
 obtain⟨k,hk⟩:=h1
 obtain⟨m,hm⟩:=gX z.natAbs d
 generalize bx z.natAbs d=g at hk hm hg
 subst hk
 have hg':(g:Int)≠0:=by omega
 rw[Int.mul_ediv_cancel_left _ hg',hm,Nat.mul_div_cancel_left _ hg]
 push_cast
 rw[Int.mul_comm (g:Int) k,Int.mul_assoc]
theorem Dj(z:Int){d k:Nat}(hk:0<k):frac (z*(k:Int)) (d*k)=frac z d:=by
 have e1:(z*(k:Int)).natAbs=z.natAbs*k:=by rw[gI];rfl
 have e2:(z*(k:Int)<0)↔z<0:=by
  constructor
  ·intro h
   rcases Int.lt_or_le z 0 with q | q
   ·exact q
   ·have:=Int.mul_nonneg q (show (0:Int)<=(k:Int) by omega);omega
  ·intro h;exact Int.mul_neg_of_neg_of_pos h (by omega)
 unfold frac
 simp only[e1,e2,Nat.gcd_mul_right,Nat.mul_div_mul_right _ _ hk]
theorem SM{z z':Int}{d d':Nat}(hd:0<d)(hd':0<d')(e:z*(d':Int)=z'*(d:Int)):frac z d=frac z' d':=by
 rw[<-Dj z (d:=d) hd',<-Dj z' (d:=d') hd,e,iz d d']
theorem Is.told{x:Fr}{a b:Int}(h:Is x a b):toldFr x=frac a b.toNat:=by
 obtain⟨h1,h2,h3⟩:=h
 refine SM h1 (by omega) ?_
 rw[gv (by omega)]
 exact h3
def VN(v:Row)(jx:List Int)(bot:Int):Prop:=v.length=jx.length/\∀i:Nat,i<jx.length->Is (at_ v i) (jx.getD i 0) bot
theorem VN.at{v:Row}{jx:List Int}{bot:Int}(h:VN v jx bot){i:Nat}(hi:i<jx.length):Is (at_ v i) (jx.getD i 0) bot:=h.2 i hi
def ahead(ws:List (Nat×Nat))(jx:List Int):Int:=(ws.map λ w=>(w.2:Int)*jx.getD w.1 0).sum
structure kZ where
 name:List Nat
 gain:Int
 ways:List (Nat×Nat)
 tot:Int
def kZ.top(o:kZ)(jx:List Int)(bot:Int):Int:=o.gain*o.tot*bot+ahead o.ways jx
def kZ.better(o p:kZ)(jx:List Int)(bot:Int):Bool:=decide (p.top jx bot*o.tot<o.top jx bot*p.tot)
def jR:kZ:=⟨[],0,[],1⟩
def lP(os:List kZ)(jx:List Int)(bot:Int):Nat->List kZ->Nat->Nat
 |_,[],b=>b
 |i,o::r,b=>lP os jx bot (i+1) r (if o.better (os.getD b jR) jx bot=true then i else b)
def pick(os:List kZ)(jx:List Int)(bot:Int)(b:Nat):Nat:=lP os jx bot 0 os b
def Lu(o p:kZ)(jx:List Int)(bot:Int):Prop:=o.top jx bot*p.tot<=p.top jx bot*o.tot
theorem F1{o p q:kZ}{jx:List Int}{bot:Int}(ho:0<o.tot)(hp:0<p.tot)(hq:0<q.tot)(h:Lu o p jx bot)(k:Lu p q jx bot):Lu o q jx bot:=by
 unfold Lu at *
 have h1:=bW h (fO hq)
 have h2:=bW k (fO ho)
 generalize o.top jx bot=a at *
 generalize p.top jx bot=b at *
 generalize q.top jx bot=c at *
 have e1:a*p.tot*q.tot=a*q.tot*p.tot:=by grind
 have e2:b*o.tot*q.tot=b*q.tot*o.tot:=by grind
 have e3:c*p.tot*o.tot=c*o.tot*p.tot:=by grind
 have e:a*q.tot*p.tot<=c*o.tot*p.tot:=by omega
 exact Int.le_of_mul_le_mul_right e hp
theorem B4{os:List kZ}{jx:List Int}{bot:Int}(ht:∀o∈os,0<o.tot):∀(r:List kZ) (i b:Nat),os.drop i=r->b<os.length ->
  lP os jx bot i r b<os.length/\Lu (os.getD b jR) (os.getD (lP os jx bot i r b) jR) jx bot/\∀o∈r,Lu o (os.getD (lP os jx bot i r b) jR) jx bot
 |[],i,b,_,hb=>⟨hb,Int.le_refl _,by simp⟩
 |o::r,i,b,hd,hb=>by
  have hil:i<os.length:=by
   have:=congrArg eF hd;rw[fW] at this;simp at this;omega
  have XY:os[i]=o:=by
   rw[bC hil] at hd;exact (g8 hd).1
  have hdr:os.drop (i+1)=r:=by
   rw[bC hil] at hd;exact (g8 hd).2
  have gD:∀{j:Nat} (hj:j<os.length),os.getD j jR=os[j]:=λ hj=>by rw[aa,af hj];rfl
  have tD:∀{j:Nat} (hj:j<os.length),0<(os.getD j jR).tot:=λ hj=>by rw[gD hj];exact ht _ (aV hj)
  show lP os jx bot (i+1) r (if o.better (os.getD b jR) jx bot=true then i else b)<os.length/\Lu _ (os.getD (lP os jx bot (i+1) r (if o.better (os.getD b jR) jx bot=true then i else b)) jR) jx bot/\_
  by_cases q:o.better (os.getD b jR) jx bot=true
  ·rw[if_pos q];obtain⟨i1,i2,i3⟩:=B4 ht r (i+1) i hdr hil;unfold kZ.better at q;rw[decide_eq_true_eq] at q;rw[gD hil,XY] at i2;refine⟨i1,?_,λ p hp=>?_⟩
   ·exact F1 (tD hb) (XY ▸ ht _ (aV hil)) (tD i1) (fO q) i2
   ·show Lu p (os.getD (lP os jx bot (i+1) r (if o.better (os.getD b jR) jx bot=true then i else b)) jR) jx bot;rw[if_pos (by unfold kZ.better;rw[decide_eq_true_eq];exact q)]
    rcases aC.mp hp with rfl | hp
    ·exact i2
    ·exact i3 p hp
  ·rw[if_neg q];obtain⟨i1,i2,i3⟩:=B4 ht r (i+1) b hdr hb;have q':=q;unfold kZ.better at q';rw[decide_eq_true_eq,Int.not_lt] at q';refine⟨i1,i2,λ p hp=>?_⟩;show Lu p (os.getD (lP os jx bot (i+1) r (if o.better (os.getD b jR) jx bot=true then i else b)) jR) jx bot;rw[if_neg q]
   rcases aC.mp hp with rfl | hp
   ·exact F1 (XY ▸ ht _ (aV hil)) (tD hb) (tD i1) q' i2
   ·exact i3 p hp
theorem Dk{os:List kZ}{jx:List Int}{bot:Int}{b:Nat}(ht:∀o∈os,0<o.tot)(hb:b<os.length):pick os jx bot b<os.length/\∀o∈os,Lu o (os.getD (pick os jx bot b) jR) jx bot:=
 let ⟨a,_,c⟩:=B4 ht os 0 b rfl hb
 ⟨a,c⟩
structure Good(N:Net):Prop where
 len:1<=N.length/\N.length<=16
 few:∀s∈N,s.choices.length<=8
 ways:∀s∈N,∀c∈s.choices,c.ways≠[]/\c.ways.length<=16/\(∀w∈c.ways,w.1<N.length/\1<=w.2/\w.2<=1000)/\-1000<=c.gain/\c.gain<=1000
theorem o9{N:Net}{s:Nat}{c:Choice}(h:c∈choicesOf N s):∃x∈N,c∈x.choices:=by
 unfold choicesOf at h
 cases e:N[s]? with
 |none=>rw[e] at h;simp at h
 |some x=>rw[e] at h;exact⟨x,aq e,by simpa using h⟩
theorem Dl{c:Choice}(hn:c.ways≠[])(h:∀w∈c.ways,1<=w.2):0<c.weight:=by
 unfold Choice.weight
 cases e:c.ways with
 |nil=>exact absurd e hn
 |cons w r=>
  rw[aS,dB];have:=h w (by rw[e];exact aQ);omega
def kX(times:Int)(c:Choice):kZ:=⟨c.name,c.gain*times,c.ways,(c.weight:Int)⟩
def sF(N:Net)(g:Nat)(times:Int):List (List kZ):=(ay N.length).map λ s=>if isGoal g s=true then [] else (choicesOf N s).map (kX times)
def m9(N:Net)(g:Nat):List Int:=(ay N.length).map λ s=>if isGoal g s=true then 1 else 0
end Fq
end
noncomputable section
namespace Rd
open Ra61
theorem AW{α:Type}[DecidableEq α]:∀(l m:List α),l.Nodup->(∀x∈l,x∈m)->l.length<=m.length
 |[],_,_,_=>bq _
 |x::l,m,hn,hs=>by
  rw[dh] at hn;have hx:=hs x aQ;have ih:=AW l (m.erase x) hn.2 λ y hy=>by
   have ne:y≠x:=λ e=>hn.1 (by rw[<-e];exact hy)
   exact (iP ne).mpr (hs y (aO _ hy))
  rw[g6 hx] at ih;have:0<m.length:=iC hx;rw[aK];omega
theorem F2{b:B}{x}(h:oE b=some x):1<=x.1.2/\x.1.2<=1000:=by
 obtain⟨a,_,h⟩:=bind_some h
 obtain⟨y,_,h⟩:=bind_some h
 obtain⟨n,_,h⟩:=bind_some h
 obtain⟨q,h⟩:=jE h
 cases h
 exact q
theorem XZ:∀(n:Nat) (b:B),b.length<n->∀r,MW b=some r->∀w∈r.1,1<=w.2/\w.2<=1000
 |0,b,h,_,_=>by omega
 |n+1,b,h,r,e=>by
  rw[zw] at e;have hp:=jQ 44 b
  split at e
  ·rename_i hx
   have hl:=xQ (m:=44) (by decide) hx;obtain⟨w,e1,e⟩:=bind_some e;obtain⟨z,e2,rfl⟩:=map_some e;have:=lX e1;intro v hv
   rcases aC.mp hv with rfl | hv
   ·exact F2 e1
   ·exact XZ n w.2 (by omega) z e2 v hv
  ·cases e;simp
theorem Bw{b:B}{x}(h:kC b=some x):x.1.length<=16:=by
 unfold kC at h
 dsimp only at h
 obtain⟨_,h⟩:=jE h
 obtain⟨l,h⟩:=jE h
 cases h
 exact l
structure Lv(c:RawChoice):Prop where
 ne:c.ways≠[]
 w:∀w∈c.ways,1<=w.2/\w.2<=1000
 nd:(c.ways.map λ w=>w.1).Nodup
 g:-1000<=c.gain/\c.gain<=1000
 nm:c.name.length<=16
theorem J2{b:B}{x}(h:qv b=some x):-1000<=x.1/\x.1<=1000:=by
 obtain⟨y,_,h⟩:=bind_some h
 obtain⟨n,_,h⟩:=bind_some h
 obtain⟨q,h⟩:=jE h
 cases h
 show -1000<=(if y.1=true then -(n.1:Int) else (n.1:Int))/\(if y.1=true then -(n.1:Int) else (n.1:Int))<=1000
 split<;>omega
theorem GX{b:B}{x}(h:lW b=some x):Lv x.1:=by
 rw[n6] at h
 obtain⟨a,h1,h⟩:=bind_some h
 obtain⟨g,h2,h⟩:=bind_some h
 obtain⟨_,h⟩:=jE h
 obtain⟨y,h4,h⟩:=bind_some h
 obtain⟨r,h5,h⟩:=bind_some h
 obtain⟨_,h⟩:=jE h
 obtain⟨nd,h⟩:=jE h
 cases h
 refine⟨by simp,λ w hw=>?_,nd,J2 h2,Bw h1⟩
 rcases aC.mp hw with rfl | hw
 ·exact F2 h4
 ·exact XZ _ _ (aE _) _ h5 w hw
theorem X3:∀(n:Nat) (b:B),b.length<n->∀r,MC b=some r->∀c∈r.1,Lv c
 |0,b,h,_,_=>by omega
 |n+1,b,h,r,e=>by
  rw[zx] at e;have hp:=jQ 125 b
  split at e
  ·cases e;simp
  ·obtain⟨w,e1,e⟩:=bind_some e;obtain⟨z,e2,rfl⟩:=map_some e;have:=mR e1;intro c hc
   rcases aC.mp hc with rfl | hc
   ·exact GX e1
   ·exact X3 n w.2 (by omega) z e2 c hc
theorem Im{b:B}{x}(h:readState b=some x):x.1.choices.length<=8/\∀c∈x.1.choices,Lv c:=by
 rw[pF] at h
 obtain⟨a,h1,h⟩:=bind_some h
 obtain⟨_,h⟩:=jE h
 obtain⟨y,h4,h⟩:=bind_some h
 obtain⟨_,h⟩:=jE h
 obtain⟨r,h5,h⟩:=bind_some h
 obtain⟨l,h⟩:=jE h
 obtain⟨_,h⟩:=jE h
 cases h
 exact⟨l,X3 _ _ (aE _) _ h5⟩
theorem VO:∀(n:Nat) (b:B),b.length<n->∀r,MS b=some r->∀s∈r,s.choices.length<=8/\∀c∈s.choices,Lv c
 |0,b,h,_,_=>by omega
 |n+1,b,h,r,e=>by
  rw[zy] at e;have hp:=lH false b
  split at e
  ·cases e;simp
  ·obtain⟨w,e1,e⟩:=bind_some e;obtain⟨z,e2,rfl⟩:=map_some e;have:=m8 e1;intro s hs
   rcases aC.mp hs with rfl | hs
   ·exact Im e1
   ·exact VO n w.2 (by omega) z e2 s hs
theorem J3{names:List B}{x:B}(h:names.contains x=true):placeOf names x<names.length:=by
 have hm:x∈names:=by simpa using h
 unfold placeOf
 cases e:names.findIdx? (λ y=>y==x) with
 |none=>
  rw[dg] at e;have:=e x hm;simp at this
 |some j=>
  rw[bP] at e;obtain⟨h1,_⟩:=e;exact h1
theorem Io{b:B}{N:Net}(h:kT b=some N):Fq.Good N:=by
 rw[qh] at h
 obtain⟨raw,h1,h⟩:=bind_some h
 obtain⟨hl,h⟩:=jE h
 obtain⟨hn,h⟩:=jE h
 obtain⟨hc,h⟩:=jE h
 cases h
 have hg:=VO _ _ (aE _) _ h1
 have len:(placed raw).length=raw.length:=by unfold placed;simp
 have mem:∀s∈placed raw,∃r∈raw,s=⟨r.name,r.choices.map λ c=>⟨c.name,c.gain,c.ways.map λ w=>(placeOf (raw.map λ s=>s.name) w.1,w.2)⟩⟩:=λ s hs=>by
  obtain⟨r,hr,e⟩:=aB.mp hs;exact⟨r,hr,e.symm⟩
 refine⟨by rw[len];exact hl,λ s hs=>?_,λ s hs c R0=>?_⟩
 ·obtain⟨r,hr,rfl⟩:=mem s hs
  have:=(hg r hr).1
  simpa using this
 ·obtain⟨r,hr,rfl⟩:=mem s hs
  obtain⟨c',hc',rfl⟩:=aB.mp R0;have G:=(hg r hr).2 c' hc';have UA:∀w∈c'.ways,(raw.map λ s=>s.name).contains w.1=true:=λ w hw=>by
   have z1:=bz.mp hc r hr;have z2:=bz.mp z1 c' hc';exact bz.mp z2 w hw
  have nl:(raw.map λ s=>s.name).length=raw.length:=by simp
  refine⟨λ z=>G.ne (by simpa using z),?_,λ w hw=>?_,G.g⟩
  ·have:=AW (c'.ways.map λ w=>w.1) (raw.map λ s=>s.name) G.nd λ x hx=>by
    obtain⟨w,hw,rfl⟩:=aB.mp hx
    simpa using UA w hw
   simp only[ah] at this ⊢
   omega
  ·obtain⟨w',qY,rfl⟩:=aB.mp hw;refine⟨?_,G.w w' qY⟩;rw[len,<-nl];exact J3 (UA w' qY)
end Rd
end
noncomputable section
namespace Rd
open Ra61
theorem Ip{b:B}{x}(h:readState b=some x):x.1.name.length<=16:=by
 rw[pF] at h
 obtain⟨a,h1,h⟩:=bind_some h
 obtain⟨_,h⟩:=jE h
 obtain⟨y,h4,h⟩:=bind_some h
 obtain⟨_,h⟩:=jE h
 obtain⟨r,h5,h⟩:=bind_some h
 obtain⟨l,h⟩:=jE h
 obtain⟨_,h⟩:=jE h
 cases h
 exact Bw h4
theorem X4:∀(n:Nat) (b:B),b.length<n->∀r,MS b=some r->∀s∈r,s.name.length<=16
 |0,b,h,_,_=>by omega
 |n+1,b,h,r,e=>by
  rw[zy] at e;have hp:=lH false b
  split at e
  ·cases e;simp
  ·obtain⟨w,e1,e⟩:=bind_some e;obtain⟨z,e2,rfl⟩:=map_some e;have:=m8 e1;intro s hs
   rcases aC.mp hs with rfl | hs
   ·exact Ip e1
   ·exact X4 n w.2 (by omega) z e2 s hs
theorem Nf{b:B}{N:Net}(h:kT b=some N):∀s∈N,s.name.length<=16:=by
 rw[qh] at h
 obtain⟨raw,h1,h⟩:=bind_some h
 obtain⟨hl,h⟩:=jE h
 obtain⟨hn,h⟩:=jE h
 obtain⟨hc,h⟩:=jE h
 cases h
 intro s hs
 obtain⟨r,hr,rfl⟩:=aB.mp hs
 exact X4 _ _ (aE _) _ h1 r hr
theorem J4{b:B}{N:Net}(h:kT b=some N):∀s∈N,∀c∈s.choices,c.name.length<=16:=by
 rw[qh] at h
 obtain⟨raw,h1,h⟩:=bind_some h
 obtain⟨hl,h⟩:=jE h
 obtain⟨hn,h⟩:=jE h
 obtain⟨hc,h⟩:=jE h
 cases h
 intro s hs c hc
 obtain⟨r,hr,rfl⟩:=aB.mp hs
 obtain⟨c',hc',rfl⟩:=aB.mp hc
 exact ((VO _ _ (aE _) _ h1 r hr).2 c' hc').nm
end Rd
end
noncomputable section
namespace La
def sm:Nat->(Nat->Rat)->Rat
 |0,_=>0
 |n+1,f=>sm n f+f n
theorem lY{n:Nat}{f g:Nat->Rat}(h:∀i,i<n->f i=g i):sm n f=sm n g:=by
 induction n with
 |zero=>rfl
 |succ n ih=>simp only[sm];rw[ih λ i hi=>h i (cB hi),h n (aE n)]
theorem J5(n:Nat)(f g:Nat->Rat):sm n (λ i=>f i+g i)=sm n f+sm n g:=by
 induction n with
 |zero=>simp only[sm];grind
 |succ n ih=>simp only[sm];rw[ih];grind
theorem yZ(n:Nat)(k:Rat)(f:Nat->Rat):sm n (λ i=>k*f i)=k*sm n f:=by
 induction n with
 |zero=>simp[sm]
 |succ n ih=>simp only[sm];rw[ih];grind
theorem J6(n:Nat)(k:Rat)(f g:Nat->Rat):sm n (λ i=>f i-k*g i)=sm n f-k*sm n g:=by
 induction n with
 |zero=>simp only[sm];grind
 |succ n ih=>simp only[sm];rw[ih];grind
theorem B5{n:Nat}{f:Nat->Rat}(h:∀i,i<n->f i=0):sm n f=0:=by
 induction n with
 |zero=>rfl
 |succ n ih=>simp only[sm];rw[ih λ i hi=>h i (cB hi),h n (aE n)];grind
theorem AX{n i:Nat}{f:Nat->Rat}(hi:i<n)(h:∀j,j<n->j≠i->f j=0):sm n f=f i:=by
 induction n with
 |zero=>omega
 |succ n ih=>
  simp only[sm]
  by_cases e:i=n
  ·subst e;rw[B5 λ j hj=>h j (cB hj) (aZ hj)];grind
  ·rw[ih (by omega) λ j hj hn=>h j (cB hj) hn,h n (aE n) λ z=>e z.symm];grind
theorem UB{n:Nat}{f g:Nat->Rat}(h:∀i,i<n->f i<=g i):sm n f<=sm n g:=by
 induction n with
 |zero=>simp[sm]
 |succ n ih=>
  simp only[sm]
  have a:=ih λ i hi=>h i (cB hi)
  have b:=h n (aE n);grind
theorem Ng{n i:Nat}{f:Nat->Rat}(hi:i<n)(h:∀j,j<n->j≠i->f j<=0):sm n f<=f i:=by
 have a:sm n f<=sm n (λ j=>if j=i then f j else 0):=UB λ j hj=>by
  by_cases e:j=i
  ·simp[e]
  ·simp only[e,if_false];exact h j hj e
 have b:sm n (λ j=>if j=i then f j else 0)=(if i=i then f i else 0):=AX (f:=λ j=>if j=i then f j else 0) hi λ j _ e=>by simp only[e,if_false]
 rw[b,if_pos rfl] at a
 exact a
theorem sm_ext{n m:Nat}(h:n<=m){f:Nat->Rat}(z:∀i,n<=i->i<m->f i=0):sm m f=sm n f:=by
 induction m with
 |zero=>
   have:n=0:=by omega
   subst this;rfl
 |succ m ih=>
  by_cases e:n=m+1
  ·subst e;rfl
  ·simp only[sm]
   rw[ih (by omega) λ i a b=>z i a (by omega),z m (by omega) (by omega)];grind
def G(A:Nat->Nat->Rat):Nat->Nat->Nat->Rat
 |0=>A
 |k+1=>λ i j=>if i=k then G A k k j/G A k k k else G A k i j-G A k i k*(G A k k j/G A k k k)
section
variable{A:Nat->Nat->Rat}{n:Nat}
theorem VP(hp:∀k,k<n->G A k k k≠0):∀k,k<=n->∀i m,m<k->G A k i m=if i=m then 1 else 0
 |0,_,i,m,h=>absurd h (gi _)
 |k+1,hk,i,m,h=>by
  have p:=hp k hk;have I:=VP hp k (bg hk);simp only[G]
  by_cases e:m=k
  ·subst e
   by_cases e2:i=m
   ·simp only[e2,if_true];grind
   ·simp only[e2,if_false];grind
  ·have hm:m<k:=by omega
   have z:=I k m hm;rw[if_neg (by omega)] at z;rw[z,I i m hm]
   by_cases e2:i=k
   ·subst e2;simp only[if_true];rw[if_neg (by omega)];grind
   ·simp only[e2,if_false];grind
theorem Dm(hp:∀k,k<n->G A k k k≠0):∀k,k<=n->∀i j,A i j=sm k (λ m=>A i m*G A k m j)+(if k<=i then G A k i j else 0)
 |0,_,i,j=>by simp only[sm,G,bq,if_true];grind
 |k+1,hk,i,j=>by
  have p:=hp k hk;have I:=Dm hp k (bg hk) i;have Ij:=I j;have Ik:=I k;have e1:sm k (λ m=>A i m*G A (k+1) m j)=sm k (λ m=>A i m*G A k m j)-(G A k k j/G A k k k)*sm k (λ m=>A i m*G A k m k):=by
   rw[<-J6];refine lY λ m hm=>?_
   simp only[G,show m≠k from aZ hm,if_false]
   grind
  simp only[sm]
  rw[e1];have e2:G A (k+1) k j=G A k k j/G A k k k:=by simp[G]
  rw[e2]
  by_cases h:k+1<=i
  ·have h2:k<=i:=by omega
   simp only[h,h2,if_true] at Ij Ik ⊢
   have e3:G A (k+1) i j=G A k i j-G A k i k*(G A k k j/G A k k k):=by simp[G,show i≠k by omega]
   rw[e3];generalize G A k k j/G A k k k=x at *
   grind
  ·simp only[h,if_false]
   by_cases h2:k<=i
   ·have:i=k:=by omega
    subst this;simp only[au,if_true] at Ij Ik
    have:G A i i i*(G A i i j/G A i i i)=G A i i j:=by grind
    generalize G A i i j/G A i i i=x at *
    grind
   ·simp only[h2,if_false] at Ij Ik
    generalize G A k k j/G A k k k=x at *
    grind
structure Dom(A:Nat->Nat->Rat)(n:Nat)(u:Nat->Rat):Prop where
 off:∀i j,i<n->j<n->j≠i->A i j<=0
 pos:∀i,i<n->0<u i
 sum:∀i,i<n->0<sm n (λ j=>A i j*u j)
theorem PY{u:Nat->Rat}{k:Nat}{B:Nat->Rat}(hk:k<n)(pos:∀i,i<n->0<u i)(off:∀j,j<n->j≠k->B j<=0)(s:0<sm n (λ j=>B j*u j)):0<B k:=by
 have a:sm n (λ j=>B j*u j)<=B k*u k:=Ng (f:=λ j=>B j*u j) hk λ j hj e=>by
  have b:=off j hj e;have c:=pos j hj;have:0<=(-B j)*u j:=bD (by grind) (by grind);grind
 have b:0<B k*u k:=by grind
 have c:=pos k hk
 by_cases h:0<B k
 ·exact h
 ·have:0<=(-B k)*u k:=bD (by grind) (by grind)
  grind
theorem Lw{u:Nat->Rat}(D:Dom A n u):∀k,k<=n->(∀m,m<k->0<G A m m m)/\(∀i,k<=i->i<n->(∀j,j<n->j≠i->G A k i j<=0)/\0<sm n (λ j=>G A k i j*u j))
 |0,_=>⟨λ _ h=>absurd h (gi _),λ i _ hi=>⟨λ j hj e=>D.off i j hi hj e,D.sum i hi⟩⟩
 |k+1,hk=>by
  obtain⟨P,Q⟩:=Lw D k (bg hk);obtain⟨qo,qs⟩:=Q k (au k) hk;have pk:0<G A k k k:=PY (u:=u) hk D.pos qo qs;refine⟨λ m hm=>?_,λ i hi hin=>?_⟩
  ·by_cases e:m=k
   ·subst e;exact pk
   ·exact P m (by omega)
  ·obtain⟨ro,rs⟩:=Q i (by omega) hin;have f:=ro k hk (by omega);have x:0<=(-G A k i k)/G A k k k:=by
    rw[iR];exact bD (by grind) (bR (Rat.inv_pos.mpr pk))
   have step:∀j,G A (k+1) i j=G A k i j+((-G A k i k)/G A k k k)*G A k k j:=λ j=>by
    simp only[G,show i≠k by omega,if_false];grind
   refine⟨λ j hj e=>?_,?_⟩
   ·rw[step j]
    by_cases ej:j=k
    ·subst ej;grind
    ·have a:=ro j hj e;have b:=qo j hj ej;have:0<=((-G A k i k)/G A k k k)*(-G A k k j):=bD x (by grind);grind
   ·have e:sm n (λ j=>G A (k+1) i j*u j)=sm n (λ j=>G A k i j*u j)+((-G A k i k)/G A k k k)*sm n (λ j=>G A k k j*u j):=by
     rw[<-yZ,<-J5];refine lY λ j _=>?_
     rw[step j];grind
    rw[e];have:0<=((-G A k i k)/G A k k k)*sm n (λ j=>G A k k j*u j):=bD x (by grind);grind
end
theorem Dom.mono{A:Nat->Nat->Rat}{n:Nat}{u:Nat->Rat}(D:Dom A n u){x:Nat->Rat}(h:∀i,i<n->0<=sm n (λ j=>A i j*x j)):∀i,i<n->0<=x i:=by
 have least:∀m,m<=n->0<m->∃i,i<m/\∀j,j<m->x i*u j<=x j*u i:=by
  intro m
  induction m with
  |zero=>intro _ h;omega
  |succ m ih=>
   intro hm _
   by_cases e:m=0
   ·subst e;exact⟨0,by omega,λ j hj=>by
     have:j=0:=by omega
     subst this;exact bG⟩
   ·obtain⟨i,hi,hl⟩:=ih (by omega) (by omega);have ui:=D.pos i (by omega);have um:=D.pos m (by omega)
    by_cases c:x i*u m<=x m*u i
    ·refine⟨i,by omega,λ j hj=>?_⟩
     by_cases ej:j=m
     ·subst ej;exact c
     ·exact hl j (by omega)
    ·refine⟨m,by omega,λ j hj=>?_⟩
     by_cases ej:j=m
     ·subst ej;exact bG
     ·have a:=hl j (by omega);have uj:=D.pos j (by omega);have b:x m*u i*u j<=x i*u m*u j:=cO (by grind) (by grind);have d:x i*u j*u m<=x j*u i*u m:=cO a (by grind);have f:(x m*u j)*u i<=(x j*u m)*u i:=by grind
      exact Rat.le_of_mul_le_mul_right f ui
 intro i hi
 obtain⟨l,hl,low⟩:=least n (au n) (by omega)
 have ul:=D.pos l hl
 have key:0<=x l:=by
  by_cases c:0<=x l
  ·exact c
  ·exfalso
   have a:=h l hl;have s:=D.sum l hl;have b:sm n (λ j=>u l*(A l j*x j))<=sm n (λ j=>x l*(A l j*u j)):=UB λ j hj=>by
    by_cases e:j=l
    ·subst e;grind
    ·have o:=D.off l j hl hj e;have q:=low j hj;have:0<=(-A l j)*(x j*u l-x l*u j):=bD (by grind) (by grind);grind
   rw[yZ,yZ] at b;have t1:0<=u l*sm n (λ j=>A l j*x j):=bD (by grind) a;have t2:0<(-x l)*sm n (λ j=>A l j*u j):=fD (by grind) s;grind
 have ui:=D.pos i hi
 have:=low i hi
 have t:0<=x l*u i:=bD key (by grind)
 have t2:0<=x i*u l:=by grind
 by_cases c:0<=x i
 ·exact c
 ·have:0<(-x i)*u l:=fD (by grind) ul
  grind
def S(f:Nat->List Nat->Rat):List Nat->Rat
 |[]=>0
 |c::cs=>f c cs-S (λ d ds=>f d (c::ds)) cs
theorem tL{f g:Nat->List Nat->Rat}(h:∀c cs,f c cs=g c cs)(C:List Nat):S f C=S g C:=by
 have:f=g:=funext λ c=>funext λ cs=>h c cs
 rw[this]
theorem Lx:∀(C:List Nat) (f g:Nat->List Nat->Rat),S (λ c cs=>f c cs+g c cs) C=S f C+S g C
 |[],f,g=>by simp only[S];grind
 |a::C,f,g=>by simp only[S];rw[Lx C];grind
theorem PZ:∀(C:List Nat) (f:Nat->List Nat->Rat),S (λ c cs=>- f c cs) C = - S f C
 |[],f=>by simp only[S];grind
 |a::C,f=>by simp only[S];rw[PZ C];grind
theorem P0:∀(C:List Nat) (f:Nat->List Nat->Rat),(∀c cs,f c cs=0)->S f C=0
 |[],f,h=>rfl
 |a::C,f,h=>by simp only[S];rw[h,P0 C _ λ c cs=>h c _];grind
theorem UC:∀(C:List Nat) (h:Nat->Nat->List Nat->Rat),(∀c d cs,h c d cs=h d c cs)->S (λ c C'=>S (h c) C') C=0
 |[],h,sym=>rfl
 |a::C,h,sym=>by
  have e:∀c C',S (h c) (a::C')=h c a C' + - S (λ d ds=>h c d (a::ds)) C':=λ c C'=>by simp only[S];grind
  have e2:S (λ c C'=>S (h c) (a::C')) C=S (λ c C'=>h c a C') C + - S (λ c C'=>S (λ d ds=>h c d (a::ds)) C') C:=by
   rw[tL e,Lx,PZ]
  show S (h a) C-S (λ c C'=>S (h c) (a::C')) C=0;rw[e2,UC C (λ c d ds=>h c d (a::ds)) λ c d cs=>sym c d _,tL (f:=h a) (g:=λ c C'=>h c a C') λ c cs=>sym a c cs];grind
def D:List (Nat->Rat)->List Nat->Rat
 |[],_=>1
 |v::V,R=>S (λ r R'=>v r*D V R') R
theorem J7(v u:Nat->Rat)(V:List (Nat->Rat))(R:List Nat):D (v::u::V) R = - D (u::v::V) R:=by
 have z:=UC R (λ c d cs=>(v c*u d+u c*v d)*D V cs) λ c d cs=>by grind
 have pull:∀(a b:Nat->Rat) c C',S (λ d cs=>a c*b d*D V cs) C'=a c*S (λ d cs=>b d*D V cs) C':=by
  intro a b c C';have:∀(k:Rat) (g:Nat->List Nat->Rat) (C:List Nat),S (λ d cs=>k*g d cs) C=k*S g C:=by
   intro k g C
   induction C generalizing g with
   |nil=>simp only[S];grind
   |cons x C ih=>simp only[S];rw[ih];grind
  rw[<-this];exact tL (λ d cs=>by grind) C'
 have e:∀c C',S (λ d cs=>(v c*u d+u c*v d)*D V cs) C'=v c*S (λ d cs=>u d*D V cs) C'+u c*S (λ d cs=>v d*D V cs) C':=λ c C'=>by
  rw[<-pull v u,<-pull u v,<-Lx];exact tL (λ d cs=>by grind) C'
 rw[tL e,Lx] at z
 show S _ R = - S _ R
 simp only[D] at z ⊢
 grind
theorem Ly(v:Nat->Rat):∀(V₁ V₂:List (Nat->Rat)) (R:List Nat),D (v::(V₁++v::V₂)) R=0
 |[],V₂,R=>by have:=J7 v v V₂ R;rw[dS];grind
 |u::V₁,V₂,R=>by
  rw[fZ,J7];have:D (u::v::(V₁++v::V₂)) R=0:=P0 _ _ λ c cs=>by rw[Ly v V₁ V₂];grind
  grind
theorem J8(v:Nat->Rat):∀(V₁ V₂:List (Nat->Rat)),∃σ:Rat,(σ = 1\/σ = -1)/\∀R,D (v::(V₁++V₂)) R = σ*D (V₁++v::V₂) R
 |[],V₂=>⟨1,.inl rfl,λ R=>by rw[dS,dS];grind⟩
 |u::V₁,V₂=>by
  obtain⟨σ,hs,h⟩:=J8 v V₁ V₂;refine⟨-σ,by rcases hs with rfl | rfl<;>grind,λ R=>?_⟩;rw[fZ,J7];have e:D (u::v::(V₁++V₂)) R=S (λ r R'=>(σ*(u r*D (V₁++v::V₂) R'))) R:=tL (λ c cs=>by rw[h];grind) R;have e2:S (λ r R'=>(σ*(u r*D (V₁++v::V₂) R'))) R = σ*D (u::(V₁++v::V₂)) R:=by
   rcases hs with rfl | rfl
   ·rw[tL (g:=λ r R'=>u r*D (V₁++v::V₂) R') λ c cs=>by grind];simp only[D];grind
   ·rw[tL (g:=λ r R'=>- (u r*D (V₁++v::V₂) R')) λ c cs=>by grind,PZ];simp only[D];grind
  rw[e,e2,fZ];grind
def Dn(x:Rat):Prop:=∃z:Int,x=(z:Rat)
theorem Dn.mul{x y:Rat}(a:Dn x)(b:Dn y):Dn (x*y):=by
 obtain⟨p,rfl⟩:=a;obtain⟨q,rfl⟩:=b
 exact⟨p*q,by rw[aI]⟩
theorem Dn.sub{x y:Rat}(a:Dn x)(b:Dn y):Dn (x-y):=by
 obtain⟨p,rfl⟩:=a;obtain⟨q,rfl⟩:=b
 exact⟨p-q,by rw[gj]⟩
theorem Dn.neg{x:Rat}(a:Dn x):Dn (-x):=by
 obtain⟨p,rfl⟩:=a
 exact⟨-p,by rw[fm]⟩
theorem Lz:∀(C:List Nat) (f:Nat->List Nat->Rat),(∀c cs,Dn (f c cs))->Dn (S f C)
 |[],f,h=>⟨0,rfl⟩
 |a::C,f,h=>(h a C).sub (Lz C _ λ c cs=>h c _)
theorem B6:∀(V:List (Nat->Rat)) (R:List Nat),(∀v∈V,∀r,Dn (v r))->Dn (D V R)
 |[],R,h=>⟨1,rfl⟩
 |v::V,R,h=>Lz R _ λ c cs=>(h v (by simp) c).mul (B6 V cs λ u hu=>h u (by simp[hu]))
theorem LA{k:Nat}:∀(R:List Nat),(∀r∈R,r<k)->∀F:Nat->List Nat->Rat,∃c:Nat->Rat,∀a:Nat->Rat,S (λ r R'=>a r*F r R') R=sm k (λ m=>a m*c m)
 |[],_,F=>⟨λ _=>0,λ a=>by simp only[S];rw[B5 λ i _=>by grind]⟩
 |r::R,h,F=>by
  obtain⟨c,hc⟩:=LA R (λ x hx=>h x (by simp[hx])) λ d ds=>F d (r::ds)
  refine⟨λ m=>(if m=r then F r R else 0)-c m,λ a=>?_⟩;simp only[S]
  rw[hc];have e:sm k (λ m=>a m*((if m=r then F r R else 0)-c m))=sm k (λ m=>a m*(if m=r then F r R else 0))-1*sm k (λ m=>a m*c m):=by
   rw[<-J6];exact lY λ m _=>by grind
  have e3:sm k (λ m=>a m*(if m=r then F r R else 0))=a r*(if r=r then F r R else 0):=AX (f:=λ m=>a m*(if m=r then F r R else 0)) (h r (by simp)) λ j _ hj=>by simp only[hj,if_false];grind
  rw[e,e3,if_pos rfl];grind
theorem SN(n m:Nat)(f:Nat->Nat->Rat):sm n (λ i=>sm m (λ j=>f i j))=sm m (λ j=>sm n (λ i=>f i j)):=by
 induction n with
 |zero=>simp only[sm];rw[B5 λ _ _=>rfl]
 |succ n ih=>simp only[sm];rw[ih,<-J5]
def desc:Nat->List Nat
 |0=>[]
 |k+1=>k::desc k
theorem oq:∀{k i:Nat},i∈desc k↔i<k
 |0,i=>by simp[desc]
 |k+1,i=>by simp only[desc,aC,oq];omega
def col(A:Nat->Nat->Rat)(j:Nat):Nat->Rat:=λ r=>A r j
def dd(A:Nat->Nat->Rat):Nat->Rat
 |0=>1
 |k+1=>dd A k*G A k k k
section
variable{A:Nat->Nat->Rat}{n:Nat}
theorem Dq(hp:∀k,k<n->G A k k k≠0){k:Nat}(hk:k<=n)(c:Nat->Rat)(j:Nat):sm k (λ m=>A m j*c m)=sm k (λ l=>sm k (λ m=>A m l*c m)*G A k l j):=by
 have e:∀m,m<k->A m j*c m=sm k (λ l=>A m l*c m*G A k l j):=λ m hm=>by
  have b:=Dm hp k hk m j;rw[if_neg (by omega)] at b;have:sm k (λ l=>A m l*c m*G A k l j)=c m*sm k (λ l=>A m l*G A k l j):=by
   rw[<-yZ];exact lY λ l _=>by grind
  rw[this];grind
 rw[lY e,SN]
 refine lY λ l _=>?_
 rw[show sm k (λ m=>A m l*c m)*G A k l j=G A k l j*sm k (λ m=>A m l*c m) by grind,<-yZ]
 exact lY λ m _=>by grind
theorem P1(hp:∀k,k<n->G A k k k≠0):∀k,k<=n->D ((desc k).map (col A)) (desc k)=dd A k/\∀i j,k<=i->D (col A j::(desc k).map (col A)) (i::desc k)=dd A k*G A k i j:=by
 intro k
 have two:∀k,k<=n->D ((desc k).map (col A)) (desc k)=dd A k->∀i j,k<=i->D (col A j::(desc k).map (col A)) (i::desc k)=dd A k*G A k i j:=by
  intro k hk one i j hi;obtain⟨c,hc⟩:=LA (k:=k) (desc k) (λ r hr=>oq.mp hr) λ r R'=>D ((desc k).map (col A)) (i::R')
  have y:∀l,D (col A l::(desc k).map (col A)) (i::desc k)=A i l*dd A k-sm k (λ m=>A m l*c m):=λ l=>by
   show S (λ r R'=>col A l r*D ((desc k).map (col A)) R') (i::desc k)=_;simp only[S]
   rw[one];have:=hc (col A l);simp only[col] at this ⊢
   rw[this]
  have z:∀l,l<k->sm k (λ m=>A m l*c m)=A i l*dd A k:=λ l hl=>by
   obtain⟨s,t,e⟩:=dP (oq.mpr hl);have q:=Ly (col A l) (s.map (col A)) (t.map (col A)) (i::desc k);have e2:s.map (col A)++col A l::t.map (col A)=(desc k).map (col A):=by rw[e];simp
   rw[e2,y] at q;grind
  rw[y,Dq hp hk c j,lY (g:=λ l=>dd A k*(A i l*G A k l j)) λ l hl=>by rw[z l hl];grind,yZ];have b:=Dm hp k hk i j;rw[if_pos hi] at b;grind
 induction k with
 |zero=>exact λ hk=>⟨rfl,two 0 hk rfl⟩
 |succ k ih=>
  intro hk;have h1:D ((desc (k+1)).map (col A)) (desc (k+1))=dd A (k+1):=(ih (by omega)).2 k k (au k);exact⟨h1,two (k+1) hk h1⟩
theorem whole(hp:∀k,k<n->G A k k k≠0)(hz:∀i j,Dn (A i j))(k:Nat)(hk:k<=n):Dn (dd A k)/\∀i j,Dn (dd A k*G A k i j):=by
 have VQ:∀(l:List Nat),∀v∈l.map (col A),∀r,Dn (v r):=λ l v hv r=>by
  obtain⟨j,_,rfl⟩:=aB.mp hv;exact hz r j
 obtain⟨one,two⟩:=P1 hp k hk
 have dz:Dn (dd A k):=by rw[<-one];exact B6 _ _ (VQ _)
 refine⟨dz,λ i j=>?_⟩
 by_cases hi:k<=i
 ·rw[<-two i j hi];exact B6 _ _ (VQ (j::desc k))
 ·have hi:i<k:=by omega
  obtain⟨s,t,e⟩:=dP (oq.mpr hi);obtain⟨c,hc⟩:=LA (k:=k) (desc k) (λ r hr=>oq.mp hr) λ r R'=>D ((s++t).map (col A)) R'
  have y:∀l,D (col A l::(s++t).map (col A)) (desc k)=sm k (λ m=>A m l*c m):=λ l=>hc (col A l)
  obtain⟨σ,hs,mv⟩:=J8 (col A i) (s.map (col A)) (t.map (col A));have yi:sm k (λ m=>A m i*c m) = σ*dd A k:=by
   rw[<-y,bh,mv,<-one,e];simp
  have y0:∀l,l<k->l≠i->sm k (λ m=>A m l*c m)=0:=λ l hl hne=>by
   rw[<-y];have hm:l∈s++t:=by
    have:=oq.mpr hl;rw[e] at this;simp only[aY,aC] at this ⊢
    rcases this with h | h | h
    ·exact .inl h
    ·exact absurd h hne
    ·exact .inr h
   obtain⟨a,b,e2⟩:=dP hm;rw[e2,bh,aS];exact Ly _ _ _ _
  have yj:Dn (D (col A j::(s++t).map (col A)) (desc k)):=B6 _ _ (VQ (j::(s++t)));rw[y,Dq hp hk c j,AX (i:=i) hi λ l hl hne=>by rw[y0 l hl hne];grind,yi] at yj
  rcases hs with rfl | rfl
  ·have:(1:Rat)*dd A k*G A k i j=dd A k*G A k i j:=by grind
   rwa [this] at yj
  ·have:dd A k*G A k i j = - (-1*dd A k*G A k i j):=by grind
   rw[this];exact yj.neg
theorem Dt(hp:∀k,k<n->0<G A k k k):∀k,k<=n->0<dd A k
 |0,_=>by simp only[dd];decide
 |k+1,h=>fD (Dt hp k (bg h)) (hp k h)
theorem turn(hp:∀k,k<n->0<G A k k k){k:Nat}(hk:k<n)(i j:Nat):(dd A (k+1)*(dd A k*G A k i j)-(dd A k*G A k i k)*(dd A k*G A k k j))=dd A k*(if i=k then 0 else dd A (k+1)*G A (k+1) i j)/\dd A k*G A k k j=dd A (k+1)*G A (k+1) k j:=by
 have p:=hp k hk
 have d:=Dt hp k (bg hk)
 have e:G A k k k*(G A k k j/G A k k k)=G A k k j:=by grind
 constructor
 ·by_cases h:i=k
  ·subst h;simp only[if_true,dd];grind
  ·simp only[h,if_false,dd,G]
   generalize G A k k j/G A k k k=x at *
   grind
 ·simp only[dd,G,if_true];grind
end
def wj:List (Nat×Rat)->Nat->Rat
 |[],_=>0
 |w::ws,j=>(if j=w.1 then w.2 else 0)+wj ws j
def wd:List (Nat×Rat)->(Nat->Rat)->Rat
 |[],_=>0
 |w::ws,x=>w.2*x w.1+wd ws x
theorem UD{n:Nat}{x:Nat->Rat}:∀{ws:List (Nat×Rat)},(∀w∈ws,w.1<n)->sm n (λ j=>wj ws j*x j)=wd ws x
 |[],_=>B5 λ j _=>by simp only[wj];grind
 |w::ws,h=>by
  simp only[wd]
  rw[<-UD (ws:=ws) λ u hu=>h u (by simp[hu])];have e:sm n (λ j=>wj (w::ws) j*x j)=sm n (λ j=>(if j=w.1 then w.2 else 0)*x j)+sm n (λ j=>wj ws j*x j):=by
   rw[<-J5];exact lY λ j _=>by simp only[wj];grind
  have e2:sm n (λ j=>(if j=w.1 then w.2 else 0)*x j)=(if w.1=w.1 then w.2 else 0)*x w.1:=AX (f:=λ j=>(if j=w.1 then w.2 else 0)*x j) (h w (by simp)) λ j _ hj=>by simp only[hj,if_false];grind
  rw[e,e2,if_pos rfl]
theorem F3:∀{ws:List (Nat×Rat)},(∀w∈ws,0<=w.2)->∀j,0<=wj ws j
 |[],_,j=>by simp only[wj];exact bG
 |w::ws,h,j=>by
  have a:=F3 (ws:=ws) (λ u hu=>h u (by simp[hu])) j;have b:=h w (by simp);simp only[wj]
  split<;>grind
theorem B7{x y:Nat->Rat}{n:Nat}(h:∀i,i<n->x i<=y i):∀{ws:List (Nat×Rat)},(∀w∈ws,w.1<n)->(∀w∈ws,0<=w.2)->wd ws x<=wd ws y
 |[],_,_=>bG
 |w::ws,a,b=>by
  have i:=B7 h (ws:=ws) (λ u hu=>a u (by simp[hu])) λ u hu=>b u (by simp[hu])
  have c:=bw (h w.1 (a w (by simp))) (b w (by simp));simp only[wd];grind
theorem P4{x y:Nat->Rat}:∀(ws:List (Nat×Rat)),wd ws (λ i=>x i-y i)=wd ws x-wd ws y
 |[]=>by simp only[wd];grind
 |w::ws=>by simp only[wd];rw[P4 ws];grind
theorem Iq{x y:Nat->Rat}{n:Nat}(h:∀i,i<n->x i=y i):∀{ws:List (Nat×Rat)},(∀w∈ws,w.1<n)->wd ws x=wd ws y
 |[],_=>rfl
 |w::ws,a=>by simp only[wd];rw[Iq h (ws:=ws) λ u hu=>a u (by simp[hu]),h w.1 (a w (by simp))]
structure nV where
 tot:Rat
 ways:List (Nat×Rat)
 rhs:Rat
def nV.lhs(r:nV)(s:Nat)(x:Nat->Rat):Rat:=r.tot*x s-wd r.ways x
def nV.am(r:nV)(s j:Nat):Rat:=(if j=s then r.tot else 0)-wj r.ways j
theorem nV.dot{n s:Nat}{r:nV}{x:Nat->Rat}(hs:s<n)(h:∀w∈r.ways,w.1<n):sm n (λ j=>r.am s j*x j)=r.lhs s x:=by
 have e:sm n (λ j=>r.am s j*x j)=sm n (λ j=>(if j=s then r.tot else 0)*x j)-1*sm n (λ j=>wj r.ways j*x j):=by
  rw[<-J6];exact lY λ j _=>by simp only[nV.am];grind
 have e2:sm n (λ j=>(if j=s then r.tot else 0)*x j)=(if s=s then r.tot else 0)*x s:=AX (f:=λ j=>(if j=s then r.tot else 0)*x j) hs λ j _ hj=>by simp only[hj,if_false];grind
 rw[e,e2,if_pos rfl,UD h]
 simp only[nV.lhs];grind
structure Keeps(R:Nat->nV)(n:Nat)(u:Nat->Rat):Prop where
 to:∀s,s<n->∀w∈(R s).ways,w.1<n
 nn:∀s,s<n->∀w∈(R s).ways,0<=w.2
 pos:∀s,s<n->0<u s
 sum:∀s,s<n->0<(R s).lhs s u
theorem Keeps.dom{R:Nat->nV}{n:Nat}{u:Nat->Rat}(K:Keeps R n u):Dom (λ s j=>(R s).am s j) n u where
 off:=λ i j hi hj e=>by
  have:=F3 (K.nn i hi) j;simp only[nV.am,e,if_false];grind
 pos:=K.pos
 sum:=λ i hi=>by rw[nV.dot hi (K.to i hi)];exact K.sum i hi
theorem Keeps.up{R:Nat->nV}{n:Nat}{u:Nat->Rat}(K:Keeps R n u){x:Nat->Rat}(h:∀s,s<n->0<=(R s).lhs s x):∀s,s<n->0<=x s:=
 K.dom.mono λ i hi=>by rw[nV.dot hi (K.to i hi)];exact h i hi
theorem nV.SO(r:nV)(s:Nat)(x y:Nat->Rat):r.lhs s (λ i=>x i-y i)=r.lhs s x-r.lhs s y:=by
 simp only[nV.lhs];rw[P4];grind
theorem Keeps.le{R:Nat->nV}{n:Nat}{u:Nat->Rat}(K:Keeps R n u){x y:Nat->Rat}(h:∀s,s<n->(R s).lhs s x<=(R s).lhs s y):∀s,s<n->x s<=y s:=λ s hs=>by
 have:=K.up (x:=λ i=>y i-x i) (λ s hs=>by rw[nV.SO];have:=h s hs;grind) s hs
 grind
theorem Keeps.SQ{R:Nat->nV}{n:Nat}{u:Nat->Rat}(K:Keeps R n u){s:Nat}(hs:s<n):0<(R s).tot:=by
 have a:=K.sum s hs
 have b:=K.pos s hs
 have c:0<=wd (R s).ways u:=by
  have:=B7 (x:=λ _=>0) (y:=u) (n:=n) (λ i hi=>bR (K.pos i hi)) (K.to s hs) (K.nn s hs);have z:∀ws:List (Nat×Rat),wd ws (λ _=>0)=0:=λ ws=>by
   induction ws with
   |nil=>rfl
   |cons w ws ih=>simp only[wd];rw[ih];grind
  rw[z] at this;exact this
 simp only[nV.lhs] at a
 by_cases h:0<(R s).tot
 ·exact h
 ·have:0<=(-(R s).tot)*u s:=bD (by grind) (by grind)
  grind
theorem Keeps.better{R:Nat->nV}{n:Nat}{u:Nat->Rat}(K:Keeps R n u){x v:Nat->Rat}(hv:∀s,s<n->(R s).lhs s v=(R s).rhs)(hx:∀s,s<n->(R s).lhs s x<=(R s).rhs) :
  (∀s,s<n->x s<=v s)/\∀s,s<n->(R s).lhs s x<(R s).rhs->x s<v s:=by
 have le:=K.le (x:=x) (y:=v) λ s hs=>by rw[hv s hs];exact hx s hs
 refine⟨le,λ s hs h=>?_⟩
 have t:=K.SQ hs
 have m:=B7 le (K.to s hs) (K.nn s hs)
 have e:=hv s hs
 simp only[nV.lhs] at e h
 have:0<(R s).tot*(v s-x s):=by grind
 by_cases c:x s<v s
 ·exact c
 ·have:0<=(R s).tot*(x s-v s):=bD (by grind) (by grind)
  grind
def iter{α:Type}(f:α->α):Nat->α->α
 |0,x=>x
 |k+1,x=>iter f k (f x)
theorem ph{α:Type}(f:α->α):∀(k:Nat) (x:α),iter f (k+1) x=f (iter f k x)
 |0,x=>rfl
 |k+1,x=>ph f k (f x)
theorem Du{α:Type}[DecidableEq α](f:α->α)(P:α->Prop)(lt:α->α->Prop)(L:List α)(x₀:α)(h₀:P x₀)(hP:∀x,P x->P (f x))(hL:∀x,P x->x∈L)
  (up:∀x,P x->f x≠x->lt x (f x)) (tr:∀x y z,P x->P y->P z->lt x y->lt y z->lt x z) (ir:∀x,P x->¬lt x x):∃k,k<=L.length/\f (iter f k x₀)=iter f k x₀:=by
 have Pi:∀k,P (iter f k x₀):=λ k=>by
  induction k with
  |zero=>exact h₀
  |succ k ih=>rw[ph];exact hP _ ih
 by_cases h:∃k,k<=L.length/\f (iter f k x₀)=iter f k x₀
 ·exact h
 ·exfalso
  have ne:∀k,k<=L.length->f (iter f k x₀)≠iter f k x₀:=λ k hk e=>h ⟨k,hk,e⟩
  have lt1:∀b a,a<b->b<=L.length+1->lt (iter f a x₀) (iter f b x₀):=by
   intro b
   induction b with
   |zero=>intro a h;omega
   |succ b ih=>
    intro a hab hb;have s:=up _ (Pi b) (ne b (by omega));rw[<-ph f] at s
    by_cases e:a=b
    ·subst e;exact s
    ·exact tr _ _ _ (Pi a) (Pi b) (Pi (b+1)) (ih a (by omega) (by omega)) s
  have nd:((ay (L.length+1)).map λ k=>iter f k x₀).Nodup:=by
   rw[List.Nodup,di];refine fh ?_ (iD (n:=L.length+1));intro a b ha hb hab e;have:=lt1 b a hab (by have:=aF.mp hb;omega);rw[e] at this;exact ir _ (Pi b) this
  have:=Rd.AW _ L nd λ x hx=>by
   obtain⟨k,_,rfl⟩:=aB.mp hx;exact hL _ (Pi k)
  simp only[ah,cD] at this
  omega
def uN:List Nat->List (List Nat)
 |[]=>[[]]
 |b::bs=>(uN bs).flatMap λ r=>(ay (max 1 b)).map λ i=>i::r
theorem AY:∀{bs p:List Nat},p.length=bs.length->(∀s,s<bs.length->p.getD s 0<max 1 (bs.getD s 0))->p∈uN bs
 |[],[],_,_=>by simp[uN]
 |b::bs,i::p,hl,h=>by
  simp only[uN,f6,aB,aF]
  exact⟨p,AY (by simpa using hl) λ s hs=>by have:=h (s+1) (by simp;omega);simpa using this,i,by have:=h 0 (by simp);simpa using this,rfl⟩
theorem F4:∀{bs:List Nat}{m:Nat},1<=m->(∀b∈bs,b<=m)->(uN bs).length<=m^bs.length
 |[],_,_,_=>by simp[uN]
 |b::bs,m,hm,h=>by
  have i:=F4 (bs:=bs) hm λ x hx=>h x (by simp[hx])
  have hb:=h b (by simp);have e:(uN (b::bs)).length=(uN bs).length*max 1 b:=by
   simp only[uN,List.length_flatMap,ah,cD]
   generalize uN bs=l
   induction l with
   |nil=>simp
   |cons x l ih=>simp only[aS,dB,aK,ih,Nat.succ_mul];omega
  rw[e,aK,cC];exact Nat.mul_le_mul i (by omega)
end La
end
noncomputable section
namespace La
open Ra61
def mK(row oW:List Int)(t:Nat)(before:Int):List Int:=jl (λ x y=>(oW.getD t 0*x-row.getD t 0*y).fdiv before) row oW
def LB(t:Nat)(st:List (List Int)×Int):List (List Int)×Int:=
 (st.1.zipIdx.map λ x=>if x.2=t then x.1 else mK x.1 (st.1.getD t []) t st.2,(st.1.getD t []).getD t 0)
def jS(rows:List (List Int)):Nat->List (List Int)×Int
 |0=>(rows,1)
 |k+1=>LB k (jS rows k)
def ent(rows:List (List Int))(i j:Nat):Rat:=(((rows.getD i []).getD j 0:Int):Rat)
theorem Nh(rows:List (List Int))(i j:Nat):Dn (ent rows i j):=⟨_,rfl⟩
theorem P5{f:Int->Int->Int}{a b:List Int}{j:Nat}(ha:j<a.length)(hb:j<b.length):(jl f a b).getD j 0=f (a.getD j 0) (b.getD j 0):=by
 simp[aa,fT,af ha,af hb]
theorem Ni{a b:Int}{y:Rat}(hb:(0:Rat)<(b:Rat))(hy:Dn y)(h:((a:Int):Rat)=(b:Rat)*y):((a.fdiv b:Int):Rat)=y:=by
 obtain⟨z,rfl⟩:=hy
 have e:a=b*z:=by rw[<-aI] at h;exact cT.mp h
 have hb':b≠0:=λ q=>by rw[q] at hb;exact absurd hb (by decide)
 rw[e,Int.mul_fdiv_cancel_left _ hb']
theorem sG{rows:List (List Int)}{n:Nat}(hl:rows.length=n)(hw:∀r∈rows,r.length=n+1)(hp:∀k,k<n->0<G (ent rows) k k k) :
  ∀k,k<=n->(jS rows k).1.length=n/\(∀r∈(jS rows k).1,r.length=n+1)/\(((jS rows k).2:Int):Rat)=dd (ent rows) k/\∀i j,i<n->j<=n->ent (jS rows k).1 i j=dd (ent rows) k*G (ent rows) k i j
 |0,_=>⟨hl,hw,rfl,λ i j _ _=>by simp only[jS,dd,G];grind⟩
 |k+1,hk=>by
  obtain⟨a,b,c,d⟩:=sG hl hw hp k (bg hk);have JM:∀k,k<n->G (ent rows) k k k≠0:=λ k hk=>by have:=hp k hk;grind
  have dk:=Dt hp k (bg hk);have P6:∀i,i<n->((jS rows k).1.getD i []).length=n+1:=λ i hi=>by
   have:i<(jS rows k).1.length:=by omega
   rw[aa,af this];exact b _ (aV this)
  have Ro:∀i,i<n->(jS rows (k+1)).1.getD i []=if i=k then (jS rows k).1.getD i [] else mK ((jS rows k).1.getD i []) ((jS rows k).1.getD k []) k (jS rows k).2:=λ i hi=>by
   have h:i<(jS rows k).1.length:=by omega
   simp only[jS,LB]
   simp[aa,eL,af h]
  have piv:((((jS rows k).1.getD k []).getD k 0:Int):Rat)=dd (ent rows) (k+1):=by
   have:=d k k hk (bg hk);simp only[ent] at this
   rw[this];rfl
  refine⟨by simp only[jS,LB];simp[a],λ r hr=>?_,piv,λ i j hi hj=>?_⟩
  ·obtain⟨i,hi,rfl⟩:=bQ hr;have hi':i<n:=by simp only[jS,LB] at hi;simp[a] at hi;exact hi
   have e:=Ro i hi';rw[aa,af hi] at e;rw[show (jS rows (k+1)).1[i]=_ from e]
   split
   ·exact P6 i hi'
   ·simp only[mK,eZ,P6 i hi',P6 k hk];omega
  ·have T:=turn hp hk i j;simp only[ent]
   rw[Ro i hi]
   by_cases e:i=k
   ·subst e;rw[if_pos rfl];have:=d i j hi hj;simp only[ent] at this
    rw[this];exact T.2
   ·rw[if_neg e];simp only[mK]
    rw[P5 (by rw[P6 i hi];omega) (by rw[P6 k hk];omega)];have t1:=T.1;rw[if_neg e] at t1;refine Ni (by rw[c];exact dk) ((whole JM (Nh rows) (k+1) hk).2 i j) ?_;rw[c,<-t1,gj,aI,aI,piv];have q1:=d i j hi hj;have q2:=d i k hi (by omega);have q3:=d k j hk hj;simp only[ent] at q1 q2 q3
    rw[q1,q2,q3]
def mD(rows:List (List Int)):List Int×Int:=((jS rows rows.length).1.map λ r=>r.getD rows.length 0,(jS rows rows.length).2)
theorem P7{rows:List (List Int)}{n:Nat}(hl:rows.length=n)(hw:∀r∈rows,r.length=n+1){u:Nat->Rat}(K:Dom (ent rows) n u) :
  (0:Rat)<((mD rows).2:Rat)/\(mD rows).1.length=n/\∀i,i<n->sm n (λ m=>ent rows i m*(((mD rows).1.getD m 0:Int):Rat))=((mD rows).2:Rat)*ent rows i n:=by
 have hp:=(Lw K n (au n)).1
 have JM:∀k,k<n->G (ent rows) k k k≠0:=λ k hk=>by have:=hp k hk;grind
 obtain⟨a,b,c,d⟩:=sG hl hw hp n (au n)
 subst hl
 refine⟨by show (0:Rat)<((jS rows rows.length).2:Rat);rw[c];exact Dt hp _ (au _),by simp[mD,a],λ i hi=>?_⟩
 have Ro:∀m,m<rows.length->(((mD rows).1.getD m 0:Int):Rat)=dd (ent rows) rows.length*G (ent rows) rows.length m rows.length:=λ m hm=>by
  have:=d m rows.length hm (au _);rw[<-this];have hm':m<(jS rows rows.length).1.length:=by omega
  simp[mD,ent,aa,af hm']
 have bk:=Dm JM rows.length (au _) i rows.length
 rw[if_neg (by omega)] at bk
 rw[lY (g:=λ m=>dd (ent rows) rows.length*(ent rows i m*G (ent rows) rows.length m rows.length)) λ m hm=>by rw[Ro m hm];grind,yZ]
 show _=((jS rows rows.length).2:Rat)*_
 rw[c];grind
end La
end
noncomputable section
namespace La
open Ra61 Fq
def uO(ws:List (Nat×Nat))(row:List Int):List Int:=ws.foldl (λ row w=>row.set w.1 (row.getD w.1 0-(w.2:Int))) row
def LC(n place:Nat)(os:List kZ)(e:Int)(k:Nat):List Int:=
 if os.length=0 then ((aJ (n+1) (0:Int)).set place 1).set n e
 else (uO (os.getD k jR).ways ((aJ (n+1) (0:Int)).set place (os.getD k jR).tot)).set n ((os.getD k jR).gain*(os.getD k jR).tot)
def pI(ws:List (Nat×Nat)):List (Nat×Rat):=ws.map λ w=>(w.1,(w.2:Rat))
def sI(o:kZ):nV:=⟨(o.tot:Rat),pI o.ways,((o.gain*o.tot:Int):Rat)⟩
def yJ(os:List kZ)(e:Int)(k:Nat):nV:=if os.length=0 then ⟨1,[],(e:Rat)⟩ else sI (os.getD k jR)
theorem lQ{row:List Int}{i j:Nat}{x:Int}(hi:i<row.length):(row.set i x).getD j 0=if j=i then x else row.getD j 0:=by
 by_cases e:j=i
 ·subst e;simp[aa,fP,hi]
 ·rw[if_neg e];simp[aa,fP,show i≠j from λ z=>e z.symm]
theorem uP:∀(ws:List (Nat×Nat)) (row:List Int),(uO ws row).length=row.length
 |[],row=>rfl
 |w::ws,row=>by show (uO ws _).length=_;rw[uP ws];simp
theorem LD:∀(ws:List (Nat×Nat)) (row:List Int),(∀w∈ws,w.1<row.length)->∀j,(((uO ws row).getD j 0:Int):Rat)=((row.getD j 0:Int):Rat)-wj (pI ws) j
 |[],row,_,j=>by simp only[uO,gJ,pI,bV,wj];grind
 |w::ws,row,h,j=>by
  show (((uO ws (row.set w.1 (row.getD w.1 0-(w.2:Int)))).getD j 0:Int):Rat)=_;rw[LD ws _ (λ u hu=>by rw[cG];exact h u (by simp[hu])) j,lQ (h w (by simp))];simp only[pI,aS,wj]
  by_cases e:j=w.1
  ·subst e;simp only[if_true]
   rw[gj,bu];grind
  ·simp only[e,if_false];grind
theorem VR(n place:Nat)(os:List kZ)(e:Int)(k:Nat):(LC n place os e k).length=n+1:=by
 unfold LC;split<;>simp[uP]
theorem UE{n place:Nat}{os:List kZ}{e:Int}{k:Nat}(hp:place<n)(hw:∀w∈(os.getD k jR).ways,w.1<n) :
  (∀j,j<n->(((LC n place os e k).getD j 0:Int):Rat)=(yJ os e k).am place j)/\(((LC n place os e k).getD n 0:Int):Rat)=(yJ os e k).rhs:=by
 have rz:∀j,(aJ (n+1) (0:Int)).getD j 0=0:=λ j=>by
  rw[aa,fB];split<;>rfl
 by_cases h:os.length=0
 ·simp only[LC,yJ,h,if_true]
  constructor
  ·intro j hj;rw[lQ (by simp),if_neg (by omega),lQ (by simp;omega),rz];simp only[nV.am,wj]
   split<;>simp<;>grind
  ·rw[lQ (by simp),if_pos rfl]
 ·simp only[LC,yJ,h,if_false]
  constructor
  ·intro j hj;rw[lQ (by rw[uP];simp),if_neg (by omega),LD _ _ (λ w qY=>by simp;have:=hw w qY;omega),lQ (by simp;omega),rz];simp only[nV.am,sI]
   split<;>simp
  ·rw[lQ (by rw[uP];simp),if_pos rfl];rfl
section
variable(jr:List (List kZ))(ends:List Int)(n:Nat)
def lU(jC:List Int)(s:Nat):nV:=yJ (jr.getD s []) (ends.getD s 0) (jC.getD s 0).toNat
def ou(jC:List Int):List (List Int):=(ay n).map λ s=>LC n s (jr.getD s []) (ends.getD s 0) (jC.getD s 0).toNat
def kK(jC:List Int):List Int×Int:=mD (ou jr ends n jC)
def nE(jC jx:List Int)(bot:Int):List Int:=(ay n).map λ s=>if (jr.getD s []).length=0 then jC.getD s 0 else ((pick (jr.getD s []) jx bot (jC.getD s 0).toNat:Nat):Int)
def nextM(jC:List Int):List Int:=nE jr n jC (kK jr ends n jC).1 (kK jr ends n jC).2
def j7(v:List Int×Int)(s:Nat):Rat:=((v.1.getD s 0:Int):Rat)/((v.2:Int):Rat)
end
structure Fits(jr:List (List kZ))(n:Nat)(jC:List Int):Prop where
 len:jC.length=n
 at_:∀s,s<n->(jr.getD s []).length≠0->0<=jC.getD s 0/\(jC.getD s 0).toNat<(jr.getD s []).length
theorem getD_mem{os:List kZ}{k:Nat}(h:k<os.length):os.getD k jR∈os:=by
 rw[aa,af h];exact aV h
section
variable{jr:List (List kZ)}{ends:List Int}{n:Nat}{jC:List Int}
theorem LF(hw:∀os∈jr,∀o∈os,∀w∈o.ways,w.1<n)(F:Fits jr n jC):∀s,s<n->∀w∈((jr.getD s []).getD (jC.getD s 0).toNat jR).ways,w.1<n:=λ s hs w qY=>by
 by_cases h:(jr.getD s []).length=0
 ·have:jr.getD s []=[]:=cy.mp h
  rw[this] at qY;simp[jR] at qY
 ·have hk:=(F.at_ s hs h).2
  have hs':s<jr.length:=by
   by_cases q:s<jr.length
   ·exact q
   ·rw[aa,bA (by omega)] at h;exact absurd rfl h
  have m:jr.getD s []∈jr:=by rw[aa,af hs'];exact aV hs'
  exact hw _ m _ (getD_mem hk) w qY
theorem GY{i:Nat}(hi:i<n):(ou jr ends n jC).getD i []=LC n i (jr.getD i []) (ends.getD i 0) (jC.getD i 0).toNat:=by
 simp[ou,aa,ai,aL hi]
theorem B8:(ou jr ends n jC).length=n/\∀r∈ou jr ends n jC,r.length=n+1:=
 ⟨by simp[ou],λ r hr=>by
  obtain⟨s,_,rfl⟩:=aB.mp hr;exact VR _ _ _ _ _⟩
theorem GZ(hw:∀os∈jr,∀o∈os,∀w∈o.ways,w.1<n)(F:Fits jr n jC){i j:Nat}(hi:i<n)(hj:j<n):ent (ou jr ends n jC) i j=(lU jr ends jC i).am i j:=by
 unfold ent
 rw[GY hi];exact (UE hi (LF hw F i hi)).1 j hj
theorem LG(hw:∀os∈jr,∀o∈os,∀w∈o.ways,w.1<n)(F:Fits jr n jC){u:Nat->Rat}(K:Keeps (lU jr ends jC) n u):Dom (ent (ou jr ends n jC)) n u where
 off:=λ i j hi hj e=>by rw[GZ hw F hi hj];exact K.dom.off i j hi hj e
 pos:=K.pos
 sum:=λ i hi=>by
  rw[lY (g:=λ j=>(lU jr ends jC i).am i j*u j) λ j hj=>by rw[GZ hw F hi hj]];exact K.dom.sum i hi
end
theorem Dv{jr:List (List kZ)}{ends:List Int}{n:Nat}{jC:List Int}(hw:∀os∈jr,∀o∈os,∀w∈o.ways,w.1<n)(F:Fits jr n jC){u:Nat->Rat}(K:Keeps (lU jr ends jC) n u) :
  0<(kK jr ends n jC).2/\(kK jr ends n jC).1.length=n/\∀s,s<n->(lU jr ends jC s).lhs s (j7 (kK jr ends n jC))=(lU jr ends jC s).rhs:=by
 obtain⟨a,b,c⟩:=P7 B8.1 B8.2 (LG hw F K)
 have pos:0<(kK jr ends n jC).2:=by
  have:((0:Int):Rat)<((mD (ou jr ends n jC)).2:Rat):=a;exact cV.mp this
 refine⟨pos,b,λ s hs=>?_⟩
 have c':=c s hs
 unfold ent at c'
 rw[GY hs,(UE hs (LF hw F s hs)).2,lY (g:=λ m=>(lU jr ends jC s).am s m*(((mD (ou jr ends n jC)).1.getD m 0:Int):Rat)) λ m hm=>by have:=GZ (ends:=ends) hw F hs hm;unfold ent at this;rw[GY hs] at this;rw[this],nV.dot hs (K.to s hs)] at c'
 have sc:∀(r:nV) (x:Nat->Rat) (k:Rat),r.lhs s (λ t=>x t/k)=r.lhs s x/k:=λ r x k=>by
  have wdk:∀ws:List (Nat×Rat),wd ws (λ t=>x t/k)=wd ws x/k:=λ ws=>by
   induction ws with
   |nil=>simp only[wd];grind
   |cons w ws ih=>simp only[wd];rw[ih];grind
  simp only[nV.lhs];rw[wdk];grind
 show (lU jr ends jC s).lhs s (λ t=>(((mD (ou jr ends n jC)).1.getD t 0:Int):Rat)/((mD (ou jr ends n jC)).2:Rat))=_
 rw[sc,c']
 show _*(lU jr ends jC s).rhs/_=_
 grind
theorem Nj{o p q:kZ}{jx:List Int}{bot:Int}(ho:0<o.tot)(hp:0<p.tot)(hq:0<q.tot)(h:o.top jx bot*p.tot<p.top jx bot*o.tot)(k:Lu p q jx bot):o.top jx bot*q.tot<q.top jx bot*o.tot:=by
 unfold Lu at k
 have h1:=Int.mul_lt_mul_of_pos_right h hq
 have h2:=bW k (fO ho)
 generalize o.top jx bot=a at *
 generalize p.top jx bot=b at *
 generalize q.top jx bot=c at *
 have e1:a*p.tot*q.tot=a*q.tot*p.tot:=by grind
 have e2:b*o.tot*q.tot=b*q.tot*o.tot:=by grind
 have e3:c*p.tot*o.tot=c*o.tot*p.tot:=by grind
 have e:a*q.tot*p.tot<c*o.tot*p.tot:=by omega
 exact Int.lt_of_mul_lt_mul_right e (fO hp)
theorem xq{os:List kZ}{jx:List Int}{bot:Int}(ht:∀o∈os,0<o.tot):∀(r:List kZ) (i b:Nat),os.drop i=r->b<os.length ->
  lP os jx bot i r b=b\/(os.getD b jR).top jx bot*(os.getD (lP os jx bot i r b) jR).tot<(os.getD (lP os jx bot i r b) jR).top jx bot*(os.getD b jR).tot
 |[],i,b,_,hb=>.inl rfl
 |o::r,i,b,hd,hb=>by
  have hil:i<os.length:=by
   have:=congrArg eF hd;rw[fW] at this;simp at this;omega
  have XY:os[i]=o:=by
   rw[bC hil] at hd;exact (g8 hd).1
  have hdr:os.drop (i+1)=r:=by
   rw[bC hil] at hd;exact (g8 hd).2
  have gD:∀{j:Nat} (hj:j<os.length),os.getD j jR=os[j]:=λ hj=>by rw[aa,af hj];rfl
  have tD:∀{j:Nat} (hj:j<os.length),0<(os.getD j jR).tot:=λ hj=>by rw[gD hj];exact ht _ (aV hj)
  have un:lP os jx bot i (o::r) b=lP os jx bot (i+1) r (if o.better (os.getD b jR) jx bot=true then i else b):=rfl;rw[un]
  by_cases q:o.better (os.getD b jR) jx bot=true
  ·rw[if_pos q];obtain⟨i1,i2,i3⟩:=B4 ht r (i+1) i hdr hil;unfold kZ.better at q;rw[decide_eq_true_eq] at q;exact .inr (Nj (tD hb) (tD hil) (tD i1) (by rw[gD hil,XY];exact q) i2)
  ·rw[if_neg q];exact xq ht r (i+1) b hdr hb
theorem F5{jx:List Int}{bot:Int}(hb:0<bot):∀ws:List (Nat×Nat),((ahead ws jx:Int):Rat)=(bot:Rat)*wd (pI ws) (j7 (jx,bot))
 |[]=>by show ((0:Int):Rat)=_;simp only[pI,bV,wd];grind
 |w::ws=>by
  have i:=F5 (jx:=jx) hb ws;have e:ahead (w::ws) jx=(w.2:Int)*jx.getD w.1 0+ahead ws jx:=by simp[ahead]
  rw[e,gk,aI,i];have hb':(bot:Rat)≠0:=λ z=>by
   have:((bot:Int):Rat)=((0:Int):Rat):=z;rw[cT] at this;omega
  simp only[pI,aS,wd,j7,bu]
  grind
def B9(o:kZ)(v:Nat->Rat):Rat:=(sI o).rhs+wd (pI o.ways) v
theorem G0{o:kZ}{jx:List Int}{bot:Int}(hb:0<bot):((o.top jx bot:Int):Rat)=(bot:Rat)*B9 o (j7 (jx,bot)):=by
 unfold kZ.top B9
 rw[gk,F5 hb,aI]
 simp only[sI];grind
theorem mL{z:Int}(h:0<z):(0:Rat)<(z:Rat):=by
 have:((0:Int):Rat)<(z:Rat):=cV.mpr h
 exact this
theorem G1{o p:kZ}{jx:List Int}{bot:Int}(hb:0<bot):(o.top jx bot*p.tot<p.top jx bot*o.tot↔B9 o (j7 (jx,bot))*(p.tot:Rat)<B9 p (j7 (jx,bot))*(o.tot:Rat)) /\
  (Lu o p jx bot↔B9 o (j7 (jx,bot))*(p.tot:Rat)<=B9 p (j7 (jx,bot))*(o.tot:Rat)):=by
 have hb':=mL hb
 have e1:((o.top jx bot*p.tot:Int):Rat)=(bot:Rat)*(B9 o (j7 (jx,bot))*(p.tot:Rat)):=by rw[aI,G0 hb];grind
 have e2:((p.top jx bot*o.tot:Int):Rat)=(bot:Rat)*(B9 p (j7 (jx,bot))*(o.tot:Rat)):=by rw[aI,G0 hb];grind
 constructor
 ·rw[<-cV,e1,e2]
  exact⟨λ h=>eX h (bR hb'),λ h=>c9 h hb'⟩
 ·unfold Lu
  rw[<-cW,e1,e2];exact⟨λ h=>br h hb',λ h=>bw h (bR hb')⟩
section
variable{jr:List (List kZ)}{ends:List Int}{n:Nat}
theorem z4{s:Nat}(h:(jr.getD s []).length≠0):jr.getD s []∈jr:=by
 have hs':s<jr.length:=by
  by_cases q:s<jr.length
  ·exact q
  ·rw[aa,bA (by omega)] at h;exact absurd rfl h
 rw[aa,af hs'];exact aV hs'
theorem z6{jC:List Int}{s:Nat}(hs:s<n):(nextM jr ends n jC).getD s 0=if (jr.getD s []).length=0 then jC.getD s 0 else ((pick (jr.getD s []) (kK jr ends n jC).1 (kK jr ends n jC).2 (jC.getD s 0).toNat:Nat):Int):=by
 simp[nextM,nE,aa,ai,aL hs]
theorem Nk(ht:∀os∈jr,∀o∈os,0<o.tot){jC:List Int}(F:Fits jr n jC):Fits jr n (nextM jr ends n jC) where
 len:=by simp[nextM,nE]
 at_:=λ s hs h=>by
  rw[z6 hs,if_neg h];exact⟨by omega,by rw[bZ];exact (Dk (ht _ (z4 h)) (F.at_ s hs h).2).1⟩
theorem AZ(hw:∀os∈jr,∀o∈os,∀w∈o.ways,w.1<n)(ht:∀os∈jr,∀o∈os,0<o.tot){jC:List Int}(F:Fits jr n jC){u:Nat->Rat}(K:Keeps (lU jr ends jC) n u)(s:Nat)(hs:s<n) :
  (lU jr ends (nextM jr ends n jC) s).lhs s (j7 (kK jr ends n jC))<=(lU jr ends (nextM jr ends n jC) s).rhs /\
  ((nextM jr ends n jC).getD s 0≠jC.getD s 0->(lU jr ends (nextM jr ends n jC) s).lhs s (j7 (kK jr ends n jC))<(lU jr ends (nextM jr ends n jC) s).rhs):=by
 obtain⟨hb,hl,hv⟩:=Dv hw F K
 have v:=hv s hs
 by_cases h:(jr.getD s []).length=0
 ·have e:(nextM jr ends n jC).getD s 0=jC.getD s 0:=by rw[z6 hs,if_pos h]
  have e2:lU jr ends (nextM jr ends n jC) s=lU jr ends jC s:=by simp only[lU];rw[e]
  rw[e2,v];exact⟨bG,λ q=>absurd e q⟩
 ·have fit:=F.at_ s hs h
  have m:=z4 h;have nx:=z6 (jr:=jr) (ends:=ends) (n:=n) (jC:=jC) hs;rw[if_neg h] at nx;obtain⟨p1,p2⟩:=Dk (jx:=(kK jr ends n jC).1) (bot:=(kK jr ends n jC).2) (ht _ m) fit.2;have st:=xq (jx:=(kK jr ends n jC).1) (bot:=(kK jr ends n jC).2) (ht _ m) (jr.getD s []) 0 (jC.getD s 0).toNat rfl fit.2;generalize hk:pick (jr.getD s []) (kK jr ends n jC).1 (kK jr ends n jC).2 (jC.getD s 0).toNat=k at *
  have hk':lP (jr.getD s []) (kK jr ends n jC).1 (kK jr ends n jC).2 0 (jr.getD s []) (jC.getD s 0).toNat=k:=hk;rw[hk'] at st;have cur:=ht _ m _ (getD_mem fit.2);have new:=ht _ m _ (getD_mem p1);have sy:lU jr ends jC s=sI ((jr.getD s []).getD (jC.getD s 0).toNat jR):=by simp only[lU,yJ,h,if_false]
  have sy':lU jr ends (nextM jr ends n jC) s=sI ((jr.getD s []).getD k jR):=by simp only[lU,yJ,h,if_false];rw[nx,bZ]
  rw[sy] at v;rw[sy',nx];generalize hc:(jr.getD s []).getD (jC.getD s 0).toNat jR=c at *
  generalize hd:(jr.getD s []).getD k jR=d at *
  have le:=(G1 hb).2.mp (p2 c (by rw[<-hc];exact getD_mem fit.2));have cq:=mL cur;have dq:=mL new;have vv:j7 ((kK jr ends n jC).1,(kK jr ends n jC).2)=j7 (kK jr ends n jC):=rfl;rw[vv] at le;have bc:B9 c (j7 (kK jr ends n jC))=(c.tot:Rat)*j7 (kK jr ends n jC) s:=by
   unfold B9;simp only[nV.lhs,sI] at v;simp only[sI];grind
  have bd:(sI d).lhs s (j7 (kK jr ends n jC))=(d.tot:Rat)*j7 (kK jr ends n jC) s-B9 d (j7 (kK jr ends n jC))+(sI d).rhs:=by
   unfold B9;simp only[nV.lhs,sI];grind
  constructor
  ·rw[bd];have:(c.tot:Rat)*((d.tot:Rat)*j7 (kK jr ends n jC) s)<=(c.tot:Rat)*B9 d (j7 (kK jr ends n jC)):=by rw[bc] at le;grind
   have:=br this cq;grind
  ·intro q;have ne:k≠(jC.getD s 0).toNat:=λ z=>q (by rw[z];omega)
   have lt:=(G1 hb).1.mp (st.resolve_left ne);rw[vv,bc] at lt;rw[bd];have:(c.tot:Rat)*((d.tot:Rat)*j7 (kK jr ends n jC) s)<(c.tot:Rat)*B9 d (j7 (kK jr ends n jC)):=by grind
   have:=eX this (bR cq);grind
theorem Nl(hw:∀os∈jr,∀o∈os,∀w∈o.ways,w.1<n)(ht:∀os∈jr,∀o∈os,0<o.tot){jC:List Int}(F:Fits jr n jC){u:Nat->Rat}(K:Keeps (lU jr ends jC) n u)(e:nextM jr ends n jC=jC)(s:Nat)(hs:s<n) :
  ∀o∈jr.getD s [],B9 o (j7 (kK jr ends n jC))<=(o.tot:Rat)*j7 (kK jr ends n jC) s:=by
 intro o ho
 obtain⟨hb,hl,hv⟩:=Dv hw F K
 have v:=hv s hs
 have h:(jr.getD s []).length≠0:=λ z=>by rw[cy.mp z] at ho;cases ho
 have fit:=F.at_ s hs h
 have m:=z4 h
 have nx:=z6 (jr:=jr) (ends:=ends) (n:=n) (jC:=jC) hs
 rw[if_neg h,e] at nx
 obtain⟨p1,p2⟩:=Dk (jx:=(kK jr ends n jC).1) (bot:=(kK jr ends n jC).2) (ht _ m) fit.2
 have nx':(jC.getD s 0).toNat=pick (jr.getD s []) (kK jr ends n jC).1 (kK jr ends n jC).2 (jC.getD s 0).toNat:=by omega
 have le:=p2 o ho
 rw[<-nx'] at le
 have sy:lU jr ends jC s=sI ((jr.getD s []).getD (jC.getD s 0).toNat jR):=by simp only[lU,yJ,h,if_false]
 rw[sy] at v
 have cq:=mL (ht _ m _ (getD_mem fit.2))
 generalize hc:(jr.getD s []).getD (jC.getD s 0).toNat jR=c at *
 have le:=(G1 hb).2.mp le
 have bc:B9 c (j7 (kK jr ends n jC))=(c.tot:Rat)*j7 (kK jr ends n jC) s:=by
  unfold B9;simp only[nV.lhs,sI] at v;simp only[sI];grind
 have le':B9 o (j7 (kK jr ends n jC))*(c.tot:Rat)<=B9 c (j7 (kK jr ends n jC))*(o.tot:Rat):=le
 rw[bc] at le'
 have:(c.tot:Rat)*B9 o (j7 (kK jr ends n jC))<=(c.tot:Rat)*((o.tot:Rat)*j7 (kK jr ends n jC) s):=by grind
 exact br this cq
theorem Ir(hw:∀os∈jr,∀o∈os,∀w∈o.ways,w.1<n)(ht:∀os∈jr,∀o∈os,0<o.tot){π₀:List Int}(P:List Int->Prop)(h₀:P π₀)(hF:∀π,P π->Fits jr n π)(hE:∀π,P π->∀s,s<n->(jr.getD s []).length=0->π.getD s 0 = π₀.getD s 0)
  (hK:∀π,P π->∃u,Keeps (lU jr ends π) n u) (hN:∀π,P π->P (nextM jr ends n π)) :
  ∃k,nextM jr ends n (iter (nextM jr ends n) k π₀)=iter (nextM jr ends n) k π₀/\P (iter (nextM jr ends n) k π₀):=by
 let V:=λ π=>j7 (kK jr ends n π)
 have Pi:∀k,P (iter (nextM jr ends n) k π₀):=λ k=>by
  induction k with
  |zero=>exact h₀
  |succ k ih=>rw[ph];exact hN _ ih
 obtain⟨k,_,e⟩:=Du (nextM jr ends n) P (λ a b=>(∀s,s<n->V a s<=V b s)/\∃s,s<n/\V a s<V b s)
  ((uN ((ay n).map λ s=>(jr.getD s []).length)).map λ p=>(ay n).map λ s=>if (jr.getD s []).length=0 then π₀.getD s 0 else ((p.getD s 0:Nat):Int)) π₀ h₀ hN
  (λ π hp=>by
   have F:=hF π hp;refine aB.mpr ⟨(ay n).map λ s=>if (jr.getD s []).length=0 then 0 else (π.getD s 0).toNat,AY (by simp) λ s hs=>?_,?_⟩
   ·have hs:s<n:=by simpa using hs
    by_cases h:(jr.getD s []).length=0
    ·simp[aa,ai,aL hs] at h ⊢
     simp[h]
    ·have:=(F.at_ s hs h).2;simp[aa,ai,aL hs] at h this ⊢
     simp[h];omega
   ·refine eV (by simp[F.len]) λ s h1 h2=>?_
    have hs:s<n:=by simpa using h1
    have gp:π.getD s 0 = π[s]:=by rw[aa,af h2];rfl
    rw[<-gp]
    by_cases h:(jr.getD s []).length=0
    ·have:=hE π hp s hs h;simp only[iu,gK,h,if_true];exact this.symm
    ·have:=(F.at_ s hs h).1;have e:((ay n).map λ s=>if (jr.getD s []).length=0 then 0 else (π.getD s 0).toNat).getD s 0=(π.getD s 0).toNat:=by
      rw[aa,ai,aL hs];simp only[bH,dJ,h,if_false]
     simp only[iu,gK,h,if_false]
     rw[e];omega)
  (λ π hp ne=>by
   obtain⟨u,K⟩:=hK π hp;obtain⟨u',K'⟩:=hK _ (hN π hp);obtain⟨hb',hl',hv'⟩:=Dv hw (hF _ (hN π hp)) K';obtain⟨g1,g2⟩:=K'.better (x:=V π) hv' λ s hs=>(AZ hw ht (hF π hp) K s hs).1
   refine⟨g1,?_⟩;have:∃s,s<n/\(nextM jr ends n π).getD s 0≠π.getD s 0:=by
    by_cases q:∃s,s<n/\(nextM jr ends n π).getD s 0≠π.getD s 0
    ·exact q
    ·exfalso
     refine ne (eV (by rw[(hF π hp).len,(hF _ (hN π hp)).len]) λ s h1 h2=>?_);have hs:s<n:=by rw[(hF π hp).len] at h2;exact h2
     have gp:π.getD s 0 = π[s]:=by rw[aa,af h2];rfl
     have gq:(nextM jr ends n π).getD s 0=(nextM jr ends n π)[s]:=by rw[aa,af h1];rfl
     rw[<-gp,<-gq]
     by_cases z:(nextM jr ends n π).getD s 0 = π.getD s 0
     ·exact z
     ·exact absurd ⟨s,hs,z⟩ q
   obtain⟨s,hs,z⟩:=this;exact⟨s,hs,g2 s hs ((AZ hw ht (hF π hp) K s hs).2 z)⟩)
  (λ a b c _ _ _ h k=>⟨λ s hs=>jm (h.1 s hs) (k.1 s hs),by
   obtain⟨s,hs,lt⟩:=h.2;have:=k.1 s hs;exact⟨s,hs,by grind⟩⟩)
  (λ a _ h=>by obtain⟨s,_,lt⟩:=h.2;exact absurd lt Rat.lt_irrefl)
 exact⟨k,e,Pi k⟩
end
def val(x:Fr):Rat:=(x.num:Rat)/((x.den:Int):Rat)
structure BS(x:Fr):Prop where
 pos:0<x.den
 cop:bx x.num.natAbs x.den=1
theorem nc{x:Fr}(h:0<x.den):(0:Rat)<((x.den:Int):Rat):=mL (by omega)
theorem BS.eq{x y:Fr}(hx:BS x)(hy:BS y)(h:val x=val y):x=y:=by
 have dx:=nc hx.pos
 have dy:=nc hy.pos
 have e:x.num*(y.den:Int)=y.num*(x.den:Int):=by
  unfold val at h;have:(x.num:Rat)*((y.den:Int):Rat)=(y.num:Rat)*((x.den:Int):Rat):=by
   have a:(x.num:Rat)=(x.num:Rat)/((x.den:Int):Rat)*((x.den:Int):Rat):=by grind
   have b:(y.num:Rat)=(y.num:Rat)/((y.den:Int):Rat)*((y.den:Int):Rat):=by grind
   rw[h] at a;grind
  rw[<-aI,<-aI] at this;exact cT.mp this
 have e2:x.num.natAbs*y.den=y.num.natAbs*x.den:=by
  have:=congrArg Int.natAbs e
  rwa [gI,gI,gM,gM] at this
 have d1:x.den ∣ y.den:=by
  have:x.den ∣ x.num.natAbs*y.den:=⟨y.num.natAbs,by rw[e2,iz]⟩
  exact (Nat.Coprime.symm hx.cop).dvd_of_dvd_mul_left this
 have d2:y.den ∣ x.den:=by
  have:y.den ∣ y.num.natAbs*x.den:=⟨x.num.natAbs,by rw[<-e2,iz]⟩
  exact (Nat.Coprime.symm hy.cop).dvd_of_dvd_mul_left this
 have de:x.den=y.den:=Nat.dvd_antisymm d1 d2
 have ne:x.num=y.num:=by
  rw[de] at e;exact Int.eq_of_mul_eq_mul_right (by have:=hy.pos;omega) e
 cases x;cases y;simp only at de ne;rw[de,ne]
theorem Dw{z:Int}{d:Nat}(h:0<d):BS (fr z d):=by
 have g0:0<bx z.natAbs d:=dD _ h
 have gm:max 1 (bx z.natAbs d)=bx z.natAbs d:=by omega
 refine⟨PX h,?_⟩
 unfold fr
 simp only[gm]
 have:(z/((bx z.natAbs d:Nat):Int)).natAbs=z.natAbs/bx z.natAbs d:=by
  have dv:((bx z.natAbs d:Nat):Int) ∣ z:=by
   have:=Nat.gcd_dvd_left z.natAbs d;exact Int.ofNat_dvd_left.mpr this
  rw[Int.natAbs_ediv_of_dvd dv,gM]
 rw[this]
 exact Nat.gcd_div_gcd_div_gcd_of_pos_right h
theorem VS{x:Fr}{a b:Int}(h:Is x a b):val x=(a:Rat)/(b:Rat):=by
 have dx:=nc h.1
 have db:=mL h.2.1
 have e:(x.num:Rat)*(b:Rat)=(a:Rat)*((x.den:Int):Rat):=by rw[<-aI,<-aI,h.2.2]
 unfold val
 have:(x.num:Rat)=(a:Rat)*((x.den:Int):Rat)/(b:Rat):=by grind
 rw[this];grind
theorem VT{x:Fr}{a b:Int}(hx:0<x.den)(hb:0<b)(h:val x=(a:Rat)/(b:Rat)):Is x a b:=by
 have dx:=nc hx
 have db:=mL hb
 refine⟨hx,hb,?_⟩
 unfold val at h
 have:(x.num:Rat)*(b:Rat)=(a:Rat)*((x.den:Int):Rat):=by
  have a1:(x.num:Rat)=(x.num:Rat)/((x.den:Int):Rat)*((x.den:Int):Rat):=by grind
  rw[h] at a1;grind
 rw[<-aI,<-aI] at this
 exact cT.mp this
theorem y9{z:Int}{d:Nat}(h:0<d):val (fr z d)=(z:Rat)/((d:Int):Rat):=VS (XX h)
theorem G2{x y:Fr}(hx:0<x.den)(hy:0<y.den):BS (x.add y):=Dw (eO hx hy)
theorem LH{x y:Fr}(hx:0<x.den)(hy:0<y.den):BS (x.sub y):=Dw (eO hx hy)
theorem G3{x y:Fr}(hx:0<x.den)(hy:0<y.den):BS (x.mul y):=Dw (eO hx hy)
theorem val_add{x y:Fr}(hx:0<x.den)(hy:0<y.den):val (x.add y)=val x+val y:=by
 have a:=nc hx;have b:=nc hy
 unfold Fr.add
 rw[y9 (eO hx hy),gk,aI,aI,gn,aI]
 unfold val;grind
theorem val_sub{x y:Fr}(hx:0<x.den)(hy:0<y.den):val (x.sub y)=val x-val y:=by
 have a:=nc hx;have b:=nc hy
 unfold Fr.sub
 rw[y9 (eO hx hy),gj,aI,aI,gn,aI]
 unfold val;grind
theorem val_mul{x y:Fr}(hx:0<x.den)(hy:0<y.den):val (x.mul y)=val x*val y:=by
 have a:=nc hx;have b:=nc hy
 unfold Fr.mul
 rw[y9 (eO hx hy),aI,gn,aI]
 unfold val;grind
theorem Dy{x:Fr}(hx:0<x.den):x.num=0↔val x=0:=by
 have a:=nc hx
 unfold val
 constructor
 ·intro h;rw[h];show ((0:Int):Rat)/_=0;grind
 ·intro h
  have:(x.num:Rat)=((0:Int):Rat):=by
   have e:(x.num:Rat)=(x.num:Rat)/((x.den:Int):Rat)*((x.den:Int):Rat):=by grind
   rw[h] at e;rw[e];show 0*_=(0:Rat);grind
  exact cT.mp this
theorem LI{x y:Fr}(hx:0<x.den)(hy:0<y.den)(h:val y≠0):BS (x.div y):=by
 have:y.num≠0:=λ z=>h ((Dy hy).mp z)
 exact Dw (eO hx (by omega))
theorem LJ{x y:Fr}(hx:0<x.den)(hy:0<y.den)(h:val y≠0):val (x.div y)=val x/val y:=by
 have n0:y.num≠0:=λ z=>h ((Dy hy).mp z)
 have a:=nc hx;have b:=nc hy
 unfold Fr.div
 rw[y9 (eO hx (by omega)),gn,aI,aI,aI]
 have n1:(y.num:Rat)≠0:=λ z=>n0 (by have:(y.num:Rat)=((0:Int):Rat):=z;exact cT.mp this)
 rcases Int.lt_trichotomy y.num 0 with l | l | l
 ·rw[Int.sign_eq_neg_one_of_neg l,show ((y.num.natAbs:Nat):Int) = - y.num by omega,fm]
  show _*((-1:Int):Rat)/_=_;rw[show ((-1:Int):Rat) = -1 from rfl];unfold val;grind
 ·exact absurd l n0
 ·rw[Int.sign_eq_one_of_pos l,show ((y.num.natAbs:Nat):Int)=y.num by omega]
  show _*((1:Int):Rat)/_=_;rw[show ((1:Int):Rat)=1 from rfl];unfold val;grind
theorem Iu{x y:Fr}(hx:0<x.den)(hy:0<y.den):x.less y=decide (val x<val y):=by
 have a:=nc hx;have b:=nc hy
 unfold Fr.less
 refine decide_eq_decide.mpr ?_
 rw[<-cV,aI,aI]
 have ex:(x.num:Rat)=val x*((x.den:Int):Rat):=by unfold val;grind
 have ey:(y.num:Rat)=val y*((y.den:Int):Rat):=by unfold val;grind
 rw[ex,ey]
 have pq:(0:Rat)<((x.den:Int):Rat)*((y.den:Int):Rat):=fD a b
 constructor
 ·intro h
  have:(((x.den:Int):Rat)*((y.den:Int):Rat))*val x<(((x.den:Int):Rat)*((y.den:Int):Rat))*val y:=by grind
  exact eX this (bR pq)
 ·intro h
  have:=c9 h pq;grind
theorem qF:BS none_:=⟨by decide,by decide⟩
theorem G4:BS one_:=⟨by decide,by decide⟩
theorem qG:val none_=0:=by unfold val none_;show ((0:Int):Rat)/_=0;grind
theorem val_one:val one_=1:=by
 unfold val one_
 show ((1:Int):Rat)/((1:Int):Rat)=1
 rw[show ((1:Int):Rat)=1 from rfl];grind
theorem LK(z:Int):val ⟨z,1⟩=(z:Rat):=by
 unfold val
 show (z:Rat)/((1:Int):Rat)=z
 rw[show ((1:Int):Rat)=1 from rfl];grind
theorem SR(z:Int):BS ⟨z,1⟩:=⟨jq,by simp⟩
def rD(m:List Row)(i j:Nat):Rat:=val (at_ (m.getD i []) j)
def qk(m:List Row)(n:Nat):Prop:=m.length=n/\∀r∈m,r.length=n+1/\∀x∈r,BS x
theorem VU{r:Row}{j:Nat}(h:j<r.length):at_ r j∈r:=by
 unfold at_
 rw[aa,af h];exact aV h
theorem qk.row{m:List Row}{n i:Nat}(L:qk m n)(hi:i<n):m.getD i []∈m:=by
 have:i<m.length:=by rw[L.1];exact hi
 rw[aa,af this];exact aV this
theorem qk.low{m:List Row}{n i j:Nat}(L:qk m n)(hi:i<n)(hj:j<=n):BS (at_ (m.getD i []) j):=by
 obtain⟨a,b⟩:=L.2 _ (L.row hi)
 exact b _ (VU (by omega))
theorem Nn{p:Nat->Bool}{n i:Nat}(hi:i<n)(h1:p i=true)(h2:∀j,j<i->p j=false):(ay n).find? p=some i:=by
 rw[g5]
 exact⟨h1,by simpa using hi,λ j hj=>by rw[h2 j hj];rfl⟩
theorem VW{f:Fr->Fr->Fr}{a b:Row}{j:Nat}(ha:j<a.length)(hb:j<b.length):at_ (jl f a b) j=f (at_ a j) (at_ b j):=by
 simp[at_,aa,fT,af ha,af hb]
theorem P8{f:Fr->Fr}{a:Row}{j:Nat}(ha:j<a.length):at_ (a.map f) j=f (at_ a j):=by
 simp[at_,aa,ai,af ha]
theorem J9{m:List Row}{n k:Nat}(L:qk m n)(hk:k<n)(hp:rD m k k≠0) :
  qk (cleared m k) n/\∀i j,i<n->j<=n->rD (cleared m k) i j=if i=k then rD m k j/rD m k k else rD m i j-rD m i k*(rD m k j/rD m k k):=by
 have lk:=L.low hk (bg hk)
 have P9:=(L.2 _ (L.row hk)).1
 have fd:((ay m.length).find? λ j=>decide (k<=j)&&(at_ (m.getD j []) k).num != 0)=some k:=by
  rw[L.1];refine Nn hk ?_ λ j hj=>?_
  ·have:(at_ (m.getD k []) k).num≠0:=λ z=>hp ((Dy lk.pos).mp z)
   simp only[au,decide_true,b9,bne_iff_ne,ne_eq];exact this
  ·simp;omega
 have un:cleared m k=(((m.set k (m.getD k [])).set k ((m.getD k []).map λ a=>a.div (at_ (m.getD k []) k))).zipIdx.map λ x=>if x.2=k then x.1 else less x.1 (at_ x.1 k) ((m.getD k []).map λ a=>a.div (at_ (m.getD k []) k))):=by
  unfold cleared;rw[fd]
 have Ro:∀i,i<n->(cleared m k).getD i []=if i=k then (m.getD k []).map λ a=>a.div (at_ (m.getD k []) k) else less (m.getD i []) (at_ (m.getD i []) k) ((m.getD k []).map λ a=>a.div (at_ (m.getD k []) k)):=λ i hi=>by
  have hm:i<m.length:=by rw[L.1];exact hi
  have hkm:k<m.length:=by rw[L.1];exact hk
  rw[un]
  by_cases e:i=k
  ·subst e;simp[aa,eL,fP,hm]
  ·have e':k≠i:=λ z=>e z.symm
   simp[aa,eL,fP,hm,e,e']
 have X5:(cleared m k).length=n:=by rw[un];simp[L.1]
 refine⟨⟨X5,λ r hr=>?_⟩,λ i j hi hj=>?_⟩
 ·obtain⟨i,hi,rfl⟩:=bQ hr
  have hi':i<n:=by rw[X5] at hi;exact hi
  have e:=Ro i hi';rw[aa,af hi] at e;rw[show (cleared m k)[i]=_ from e];have ql:∀x∈(m.getD k []).map λ a=>a.div (at_ (m.getD k []) k),BS x:=λ x hx=>by
   obtain⟨a,ha,rfl⟩:=aB.mp hx;exact LI ((L.2 _ (L.row hk)).2 a ha).pos lk.pos hp
  split
  ·exact⟨by rw[ah,P9],ql⟩
  ·have li:=L.2 _ (L.row hi');refine⟨by simp only[less,eZ,ah,li.1,P9];omega,λ x hx=>?_⟩;obtain⟨t,ht,rfl⟩:=bQ hx;have hx2:BS ((less (m.getD i []) (at_ (m.getD i []) k) ((m.getD k []).map λ a=>a.div (at_ (m.getD k []) k)))[t]):=by
    simp only[less,List.getElem_zipWith]
    have ht':=ht;simp only[less,eZ,ah] at ht'
    have l1:=li.2 _ (aV (show t<(m.getD i []).length by omega));have l2:=ql _ (aV (show t<((m.getD k []).map λ a=>a.div (at_ (m.getD k []) k)).length by rw[ah];omega));exact LH l1.pos (G3 (L.low hi' (bg hk)).pos l2.pos).pos
   exact hx2
 ·simp only[rD]
  rw[Ro i hi]
  by_cases e:i=k
  ·rw[if_pos e,if_pos e,P8 (by rw[P9];omega),LJ (L.low hk hj).pos lk.pos hp]
  ·rw[if_neg e,if_neg e];have li:=(L.2 _ (L.row hi)).1;unfold less;rw[VW (by rw[li];omega) (by rw[ah,P9];omega),P8 (by rw[P9];omega)];have dv:=LI (L.low hk hj).pos lk.pos hp;rw[val_sub (L.low hi hj).pos (G3 (L.low hi (bg hk)).pos dv.pos).pos,val_mul (L.low hi (bg hk)).pos dv.pos,LJ (L.low hk hj).pos lk.pos hp]
theorem F6{m:List Row}{n:Nat}(L:qk m n)(hp:∀k,k<n->G (rD m) k k k≠0):∀k,k<=n->qk ((ay k).foldl cleared m) n/\∀i j,i<n->j<=n->rD ((ay k).foldl cleared m) i j=G (rD m) k i j
 |0,_=>⟨L,λ _ _ _ _=>rfl⟩
 |k+1,hk=>by
  obtain⟨a,b⟩:=F6 L hp k (bg hk);rw[iJ,dw,dR,gJ];obtain⟨c,d⟩:=J9 a hk (by rw[b k k hk (bg hk)];exact hp k hk);refine⟨c,λ i j hi hj=>?_⟩;rw[d i j hi hj,b k j hk hj,b k k hk (bg hk),b i j hi hj,b i k hi (bg hk)];rfl
theorem Np{m:List Row}{n:Nat}(L:qk m n){u:Nat->Rat}(K:Dom (rD m) n u):(solved m).length=n/\(∀i,i<n->BS (at_ (solved m) i))/\∀i,i<n->sm n (λ t=>rD m i t*val (at_ (solved m) t))=rD m i n:=by
 have hp:=(Lw K n (au n)).1
 have JM:∀k,k<n->G (rD m) k k k≠0:=λ k hk=>by have:=hp k hk;grind
 obtain⟨a,b⟩:=F6 L JM n (au n)
 have sv:∀i,i<n->at_ (solved m) i=at_ (((ay n).foldl cleared m).getD i []) n:=λ i hi=>by
  have:i<((ay n).foldl cleared m).length:=by rw[a.1];exact hi
  unfold solved;rw[L.1];simp[at_,aa,ai,af this]
 refine⟨by unfold solved;rw[L.1,ah,a.1],λ i hi=>by rw[sv i hi];exact a.low hi (au n),λ i hi=>?_⟩
 have bk:=Dm JM n (au n) i n
 rw[if_neg (by omega)] at bk
 rw[lY (g:=λ t=>rD m i t*G (rD m) n t n) λ t ht=>by
  have:=b t n ht (au n);simp only[rD] at this ⊢
  rw[sv t ht,this]]
 grind
def A0(x:Fr×List (Nat×Fr)):nV:=⟨1,x.2.map λ y=>(y.1,val y.2),val x.1⟩
theorem z7{t:Nat}:∀(ys:List (Nat×Fr)) (a:Fr),0<a.den->(∀y∈ys,0<y.2.den)->0<((ys.filter λ y=>y.1==t).foldl (λ a y=>a.add y.2) a).den/\val ((ys.filter λ y=>y.1==t).foldl (λ a y=>a.add y.2) a)=val a+wj (ys.map λ y=>(y.1,val y.2)) t
 |[],a,ha,_=>⟨ha,by simp only[List.filter_nil,gJ,bV,wj];grind⟩
 |y::ys,a,ha,h=>by
  have hy:=h y (by simp)
  by_cases e:(y.1==t)=true
  ·rw[List.filter_cons_of_pos (p:=λ y:Nat×Fr=>y.1==t) e,dR];obtain⟨p,q⟩:=z7 (t:=t) ys (a.add y.2) (G2 ha hy).pos λ z hz=>h z (by simp[hz])
   refine⟨p,?_⟩;rw[q,val_add ha hy];simp only[aS,wj]
   rw[if_pos (beq_iff_eq.mp e).symm];grind
  ·rw[List.filter_cons_of_neg (p:=λ y:Nat×Fr=>y.1==t) e];obtain⟨p,q⟩:=z7 (t:=t) ys a ha λ z hz=>h z (by simp[hz])
   refine⟨p,?_⟩;rw[q];simp only[aS,wj]
   rw[if_neg (λ z=>e (beq_iff_eq.mpr z.symm))];grind
theorem Bx{n:Nat}{f:Nat->Fr×List (Nat×Fr)}{u:Nat->Rat}(hl:∀s,s<n->BS (f s).1/\∀y∈(f s).2,0<y.2.den)(K:Keeps (λ s=>A0 (f s)) n u) :
  (standing n f).length=n/\(∀s,s<n->BS (at_ (standing n f) s))/\∀s,s<n->(A0 (f s)).lhs s (λ t=>val (at_ (standing n f) t))=(A0 (f s)).rhs:=by
 let m:List Row:=(ay n).map λ s=>((ay n).map λ t=>(if t=s then one_ else none_).sub (((f s).2.filter λ y=>y.1==t).foldl (λ a y=>a.add y.2) none_))++[(f s).1]
 have hst:standing n f=solved m:=rfl
 have rowAt:∀s,s<n->m.getD s []=((ay n).map λ t=>(if t=s then one_ else none_).sub (((f s).2.filter λ y=>y.1==t).foldl (λ a y=>a.add y.2) none_))++[(f s).1]:=λ s hs=>by
  simp[m,aa,ai,aL hs]
 have e0:∀t s:Nat,BS (if t=s then one_ else none_):=λ t s=>by split;exact G4;exact qF
 have L:qk m n:=by
  refine⟨by simp[m],λ r hr=>?_⟩;obtain⟨s,hs,rfl⟩:=aB.mp hr;have hs:=aF.mp hs;refine⟨by simp,λ x hx=>?_⟩
  rcases aY.mp hx with h | h
  ·obtain⟨t,_,rfl⟩:=aB.mp h;exact LH (e0 t s).pos (z7 _ _ qF.pos (hl s hs).2).1
  ·rw[List.mem_singleton.mp h];exact (hl s hs).1
 have eA:∀s t,s<n->t<n->rD m s t=(A0 (f s)).am s t:=λ s t hs ht=>by
  simp only[rD]
  rw[rowAt s hs];have:at_ (((ay n).map λ t=>(if t=s then one_ else none_).sub (((f s).2.filter λ y=>y.1==t).foldl (λ a y=>a.add y.2) none_))++[(f s).1]) t=(if t=s then one_ else none_).sub (((f s).2.filter λ y=>y.1==t).foldl (λ a y=>a.add y.2) none_):=by
   unfold at_;rw[aa,bO (by simpa using ht),ai,aL ht];rfl
  obtain⟨p,q⟩:=z7 (t:=t) _ _ qF.pos (hl s hs).2;rw[this,val_sub (e0 t s).pos p,q,qG];simp only[nV.am,A0]
  by_cases e:t=s
  ·simp only[e,if_true,val_one];grind
  ·simp only[e,if_false,qG];grind
 have eN:∀s,s<n->rD m s n=(A0 (f s)).rhs:=λ s hs=>by
  simp only[rD]
  rw[rowAt s hs];have:at_ (((ay n).map λ t=>(if t=s then one_ else none_).sub (((f s).2.filter λ y=>y.1==t).foldl (λ a y=>a.add y.2) none_))++[(f s).1]) n=(f s).1:=by
   unfold at_;rw[aa,cZ (by simp)];simp
  rw[this];rfl
 have D:Dom (rD m) n u:={
  off:=λ i j hi hj e=>by rw[eA i j hi hj];exact K.dom.off i j hi hj e
  pos:=K.pos
  sum:=λ i hi=>by
   rw[lY (g:=λ j=>(A0 (f i)).am i j*u j) λ j hj=>by rw[eA i j hi hj]];exact K.dom.sum i hi }
 obtain⟨a,b,c⟩:=Np L D
 rw[hst]
 refine⟨a,b,λ s hs=>?_⟩
 have c':=c s hs
 rw[eN s hs,lY (g:=λ t=>(A0 (f s)).am s t*val (at_ (solved m) t)) λ t ht=>by rw[eA s t hs ht],nV.dot hs (K.to s hs)] at c'
 exact c'
theorem za{α:Type}{f:α->α}{x:α}(h:f x=x):∀k,iter f k x=x
 |0=>rfl
 |k+1=>by show iter f k (f x)=x;rw[h];exact za h k
theorem By(value:Plan->Row)(change:Plan->Row->Plan):∀(fuel k:Nat) (p:Plan),k<=fuel->change (iter (λ p=>change p (value p)) k p) (value (iter (λ p=>change p (value p)) k p))=iter (λ p=>change p (value p)) k p ->
  improved value change fuel p=value (iter (λ p=>change p (value p)) k p)
 |0,k,p,hk,_=>by
  have:k=0:=by omega
  subst this;rfl
 |fuel+1,0,p,_,h=>by
  have h':change p (value p)=p:=h;show (if change p (value p)=p then value p else improved value change fuel (change p (value p)))=value p;rw[if_pos h']
 |fuel+1,k+1,p,hk,h=>by
  show (if change p (value p)=p then value p else improved value change fuel (change p (value p)))=_
  by_cases e:change p (value p)=p
  ·rw[if_pos e,za (f:=λ p=>change p (value p)) e]
  ·rw[if_neg e];exact By value change fuel k (change p (value p)) (by omega) h
theorem Dz{v:Row}{n:Nat}(hv:∀s,s<n->0<(at_ v s).den):∀(ps:List (Nat×Fr)) (a:Fr),0<a.den->(∀y∈ps,0<y.2.den/\y.1<n) ->
  0<(ps.foldl (λ a w=>a.add (w.2.mul (at_ v w.1))) a).den/\val (ps.foldl (λ a w=>a.add (w.2.mul (at_ v w.1))) a)=val a+wd (ps.map λ y=>(y.1,val y.2)) (λ t=>val (at_ v t))
 |[],a,ha,_=>⟨ha,by simp only[gJ,bV,wd];grind⟩
 |y::ys,a,ha,h=>by
  obtain⟨h1,h2⟩:=h y (by simp);have hm:=G3 h1 (hv y.1 h2);obtain⟨p,q⟩:=Dz hv ys (a.add (y.2.mul (at_ v y.1))) (G2 ha hm.pos).pos λ z hz=>h z (by simp[hz])
  rw[dR];refine⟨p,?_⟩;rw[q,val_add ha hm.pos,val_mul h1 (hv y.1 h2)];simp only[aS,wd];grind
theorem A2{c:Choice}(hW:0<c.weight):∀y∈c.parts,BS y.2:=λ y hy=>by
 obtain⟨w,_,rfl⟩:=aB.mp hy
 exact Dw hW
theorem z8{c:Choice}(hW:0<c.weight)(x:Nat->Rat):(((c.weight:Nat):Int):Rat)*wd (c.parts.map λ y=>(y.1,val y.2)) x=wd (pI c.ways) x:=by
 have hq:=mL (show (0:Int)<(c.weight:Int) by omega)
 have:∀ws:List (Nat×Nat),(((c.weight:Nat):Int):Rat)*wd ((ws.map λ w=>(w.1,fr (w.2:Nat) c.weight)).map λ y=>(y.1,val y.2)) x=wd (pI ws) x:=λ ws=>by
  induction ws with
  |nil=>simp only[bV,wd,pI];grind
  |cons w ws ih=>
   simp only[aS,wd,pI] at ih ⊢
   rw[<-ih,y9 hW,bu,bu];rw[bu] at hq;grind
 exact this c.ways
theorem G5{c:Choice}(hW:0<c.weight):wd (c.parts.map λ y=>(y.1,val y.2)) (λ _=>1)=1:=by
 have hq:=mL (show (0:Int)<(c.weight:Int) by omega)
 have e:=z8 hW (λ _=>1)
 have:∀ws:List (Nat×Nat),wd (pI ws) (λ _=>1)=((((ws.map λ w=>w.2).sum:Nat):Int):Rat):=λ ws=>by
  induction ws with
  |nil=>simp only[pI,bV,wd,List.sum_nil];rfl
  |cons w ws ih=>
   simp only[pI,aS,wd,dB] at ih ⊢
   rw[ih,Int.natCast_add,gk,bu w.2];grind
 rw[this] at e
 have e':(((c.weight:Nat):Int):Rat)*wd (c.parts.map λ y=>(y.1,val y.2)) (λ _=>1)=(((c.weight:Nat):Int):Rat):=e
 clear e this
 generalize wd (c.parts.map λ y=>(y.1,val y.2)) (λ _=>1)=x at *
 generalize (((c.weight:Nat):Int):Rat)=a at *
 have h1:a*x<=a*1:=by grind
 have h2:a*1<=a*x:=by grind
 have:=br h1 hq
 have:=br h2 hq
 grind
section
variable{N:Net}{p q:Nat}
theorem lu(G:Good N){s:Nat}{c:Choice}(h:c∈choicesOf N s):0<c.weight/\(∀w∈c.ways,w.1<N.length)/\(choicesOf N s).length<=8:=by
 obtain⟨x,hx,hc⟩:=o9 h
 obtain⟨a,b,d,_⟩:=G.ways x hx c hc
 refine⟨Dl a λ w hw=>(d w hw).2.1,λ w hw=>(d w hw).1,?_⟩
 unfold choicesOf at h ⊢
 cases e:N[s]? with
 |none=>simp
 |some y=>simp only[bH,dJ];exact G.few y (aq e)
end
section
variable{N:Net}{p q:Nat}
end
theorem Nq{a b c:Rat}(h:a+b<=c):a<=c-b:=by grind
section
variable{N:Net}{p q:Nat}
def zeros(n:Nat):List Int:=(ay n).map λ _=>0
theorem Qa(n s:Nat):(zeros n).getD s 0=0:=by
 simp only[zeros,aa,ai]
 cases (ay n)[s]? <;> rfl
end
end La
end
noncomputable section
namespace La
def In(x b:Rat):Prop:=-b<=x/\x<=b
theorem In.mul{x y a b:Rat}(ha:In x a)(hb:In y b)(a0:0<=a)(b0:0<=b):In (x*y) (a*b):=by
 obtain⟨p,q⟩:=ha
 obtain⟨r,s⟩:=hb
 have h1:0<=(a-x)*(b+y):=bD (by grind) (by grind)
 have h2:0<=(a+x)*(b-y):=bD (by grind) (by grind)
 have h3:0<=(a-x)*(b-y):=bD (by grind) (by grind)
 have h4:0<=(a+x)*(b+y):=bD (by grind) (by grind)
 constructor<;>grind
theorem X6{X:Rat}:∀(C:List Nat) (f:Nat->List Nat->Rat),(∀c cs,c∈C->(∀x∈cs,x∈C)->cs.length+1=C.length->In (f c cs) X)->In (S f C) ((C.length:Rat)*X)
 |[],f,_=>by
  show In 0 (((0:Nat):Rat)*X);have:((0:Nat):Rat)=0:=rfl;rw[this]
  constructor<;>grind
 |a::C,f,h=>by
  have i:=X6 C (λ d ds=>f d (a::ds)) λ c cs hc hcs hl=>h c (a::cs) (by simp[hc]) (λ x hx=>by
   rcases aC.mp hx with rfl | hx
   ·simp
   ·simp[hcs x hx]) (by simp[hl])
  have j:=h a C (by simp) (λ x hx=>by simp[hx]) rfl;have e:(((a::C).length:Nat):Rat)=(C.length:Rat)+1:=by rw[aK,Rat.natCast_add];rfl
  simp only[S]
  rw[e];obtain⟨p,q⟩:=i;obtain⟨r,s⟩:=j
  constructor<;>grind
theorem SS{M L:Rat}(hM:0<=M)(hL:0<=L)(h1:1<=L*M):∀(V:List (Nat->Rat)) (R:List Nat),(R.length:Rat)<=L->(∀v∈V,∀r∈R,In (v r) M)->In (D V R) ((L*M)^V.length)
 |[],R,_,_=>by
  show In 1 ((L*M)^0);rw[gz]
  constructor<;>grind
 |v::V,R,hR,h=>by
  have X0:0<=(L*M)^V.length:=by
   have:0<L*M:=by grind
   induction V.length with
   |zero=>rw[gz];grind
   |succ k ih=>rw[dQ];exact bD ih (by grind)
  have s:=X6 (X:=M*(L*M)^V.length) R (λ r R'=>v r*D V R') λ c cs hc hcs hl=>by
   refine In.mul (h v (by simp) c hc) (SS hM hL h1 V cs ?_ λ u hu r hr=>h u (by simp[hu]) r (hcs r hr)) hM X0;have:(cs.length:Rat)<=(R.length:Rat):=cE.mpr (by omega);grind
  rw[aK,dQ];have m:(R.length:Rat)*(M*(L*M)^V.length)<=L*(M*(L*M)^V.length):=cO hR (bD hM X0);show In (S (λ r R'=>v r*D V R') R) _;obtain⟨p,q⟩:=s
  constructor<;>grind
theorem sJ:∀k,(desc k).length=k
 |0=>rfl
 |k+1=>by simp[desc,sJ k]
section
variable{A:Nat->Nat->Rat}{n:Nat}
theorem Nr{x:Rat}(h:1<=x):∀{a b:Nat},a<=b->x^a<=x^b:=λ {a b} hab=>by
 induction b with
 |zero=>
   have:a=0:=by omega
   subst this;exact bG
 |succ b ih=>
  by_cases e:a=b+1
  ·subst e;exact bG
  ·have i:=ih (by omega);have p:0<=x^b:=by
    clear i ih hab e
    induction b with
    |zero=>rw[gz];grind
    |succ b ih=>rw[dQ];exact bD ih (by grind)
   have q:=bw h p;rw[dQ];grind
theorem SV{M L:Rat}(hM:0<=M)(hL:0<=L)(h1:1<=L*M)(hn:((n+1:Nat):Rat)<=L)(hA:∀i j,i<n->j<=n->In (A i j) M)(hp:∀k,k<n->G A k k k≠0)(k:Nat)(hk:k<=n) :
  In (dd A k) ((L*M)^(n+1))/\∀i j,i<n->j<=n->In (dd A k*G A k i j) ((L*M)^(n+1)):=by
 have up:∀{x:Rat} {a:Nat},a<=n+1->In x ((L*M)^a)->In x ((L*M)^(n+1)):=λ {x a} ha h=>by
  have:=Nr h1 ha;obtain⟨p,q⟩:=h
  constructor<;>grind
 have len:∀m:Nat,m<=n+1->((m:Nat):Rat)<=L:=λ m hm=>jm (cE.mpr hm) hn
 obtain⟨one,two⟩:=P1 hp k hk
 have VX:∀(l:List Nat),(∀x∈l,x<=n)->∀(R:List Nat),(∀r∈R,r<n)->∀v∈l.map (col A),∀r∈R,In (v r) M:=λ l hl R hR v hv r hr=>by
  obtain⟨j,hj,rfl⟩:=aB.mp hv;exact hA r j (hR r hr) (hl j hj)
 have dk:∀x∈desc k,x<n:=λ x hx=>aM (oq.mp hx) hk
 refine⟨?_,λ i j hi hj=>?_⟩
 ·rw[<-one]
  refine up (a:=((desc k).map (col A)).length) (by rw[ah,sJ];omega) (SS hM hL h1 _ _ (by rw[sJ];exact len k (by omega)) (VX _ (λ x hx=>bg (dk x hx)) _ dk))
 ·by_cases hik:k<=i
  ·rw[<-two i j hik];refine up (a:=(col A j::(desc k).map (col A)).length) (by rw[aK,ah,sJ];omega) (SS hM hL h1 _ _ (by rw[aK,sJ];exact len (k+1) (by omega)) (VX (j::desc k) (λ x hx=>?_) _ λ r hr=>?_))
   ·rcases aC.mp hx with rfl | hx
    ·exact hj
    ·exact bg (dk x hx)
   ·rcases aC.mp hr with rfl | hr
    ·exact hi
    ·exact dk r hr
  ·have hi':i<k:=by omega
   obtain⟨s,t,e⟩:=dP (oq.mpr hi');obtain⟨c,hc⟩:=LA (k:=k) (desc k) (λ r hr=>oq.mp hr) λ r R'=>D ((s++t).map (col A)) R'
   have y:∀l,D (col A l::(s++t).map (col A)) (desc k)=sm k (λ m=>A m l*c m):=λ l=>hc (col A l)
   obtain⟨σ,hs,mv⟩:=J8 (col A i) (s.map (col A)) (t.map (col A));have yi:sm k (λ m=>A m i*c m) = σ*dd A k:=by
    rw[<-y,bh,mv,<-one,e];simp
   have y0:∀l,l<k->l≠i->sm k (λ m=>A m l*c m)=0:=λ l hl hne=>by
    rw[<-y];have hm:l∈s++t:=by
     have:=oq.mpr hl;rw[e] at this;simp only[aY,aC] at this ⊢
     rcases this with h | h | h
     ·exact .inl h
     ·exact absurd h hne
     ·exact .inr h
    obtain⟨a,b,e2⟩:=dP hm;rw[e2,bh,aS];exact Ly _ _ _ _
   have stl:∀x∈s++t,x∈desc k:=λ x hx=>by
    rw[e]
    rcases aY.mp hx with h | h
    ·exact aY.mpr (.inl h)
    ·exact aY.mpr (.inr (aO _ h))
   have ln:(s++t).length+1=k:=by
    have:=congrArg eF e;rw[sJ] at this;simp at this ⊢;omega
   have yj:In (D (col A j::(s++t).map (col A)) (desc k)) ((L*M)^(n+1)):=by
    refine up (a:=(col A j::(s++t).map (col A)).length) (by rw[aK,ah,ln];omega) (SS hM hL h1 _ _ (by rw[sJ];exact len k (by omega)) (VX (j::(s++t)) (λ x hx=>?_) _ dk))
    rcases aC.mp hx with rfl | hx
    ·exact hj
    ·exact bg (dk x (stl x hx))
   rw[y,Dq hp hk c j,AX (i:=i) hi' λ l hl hne=>by rw[y0 l hl hne];grind,yi] at yj
   rcases hs with rfl | rfl
   ·have:(1:Rat)*dd A k*G A k i j=dd A k*G A k i j:=by grind
    rwa [this] at yj
   ·have:dd A k*G A k i j = - (-1*dd A k*G A k i j):=by grind
    rw[this];obtain⟨p,q⟩:=yj
    constructor<;>grind
end
theorem Iv{rows:List (List Int)}{n:Nat}(hl:rows.length=n)(hw:∀r∈rows,r.length=n+1)(hn:n<=16)(hA:∀i j,i<n->j<=n->((rows.getD i []).getD j 0).natAbs<2^40)(hp:∀k,k<n->0<G (ent rows) k k k)(k:Nat)(hk:k<=n) :
  (jS rows k).2.natAbs<2^1000/\∀i j,i<n->j<=n->(((jS rows k).1.getD i []).getD j 0).natAbs<2^1000:=by
 obtain⟨a,b,c,d⟩:=sG hl hw hp k hk
 have JM:∀k,k<n->G (ent rows) k k k≠0:=λ k hk=>by have:=hp k hk;grind
 have toIn:∀{z:Int} {m:Nat},z.natAbs<m->In (z:Rat) ((m:Nat):Rat):=λ {z m} h=>by
  constructor
  ·have:(((-(m:Int)):Int):Rat)<=(z:Rat):=cW.mpr (by omega);rw[fm,bu] at this;exact this
  ·have:(z:Rat)<=(((m:Nat):Int):Rat):=cW.mpr (by omega);rw[bu] at this;exact this
 have Qc:∀{z:Int} {m:Nat},In (z:Rat) ((m:Nat):Rat)->z.natAbs<=m:=λ {z m} h=>by
  obtain⟨p,q⟩:=h;rw[<-bu] at p q;rw[<-fm] at p;have:=cW.mp p;have:=cW.mp q;omega
 obtain⟨e,f⟩:=SV (A:=ent rows) (n:=n) (M:=((2^40:Nat):Rat)) (L:=((17:Nat):Rat)) gO gO (by
  rw[<-fq];have:((1:Nat):Rat)<=((17*2^40:Nat):Rat):=cE.mpr (by decide);exact this) (cE.mpr (by omega)) (λ i j hi hj=>toIn (hA i j hi hj)) JM k hk
 have pw:(((17:Nat):Rat)*((2^40:Nat):Rat))^(n+1)=(((17*2^40)^(n+1):Nat):Rat):=by
  rw[<-fq];generalize 17*2^40=q
  induction (n+1) with
  |zero=>rw[gz,Nat.pow_zero];rfl
  |succ m ih=>rw[dQ,cC,fq,ih]
 rw[pw] at e f
 have small:(17*2^40)^(n+1)<2^1000:=by
  have:(17*2^40)^(n+1)<=(17*2^40)^17:=eG (by decide) (by omega);exact bJ this (by decide +kernel)
 rw[<-c] at e
 refine⟨bJ (Qc e) small,λ i j hi hj=>?_⟩
 have g:=f i j hi hj
 rw[<-d i j hi hj] at g
 exact bJ (Qc g) small
theorem UG{n:Nat}{u:Nat->Rat}{U d:Rat}:∀{ws:List (Nat×Rat)}{w₀:Nat×Rat},w₀∈ws->(∀w∈ws,w.1<n/\0<=w.2)->(∀t,t<n->u t<=U)->u w₀.1<=U-d->wd ws u<=wd ws (λ _=>1)*U-w₀.2*d
 |w::ws,w₀,h,a,b,c=>by
  have rest:wd ws u<=wd ws (λ _=>1)*U:=by
   have e:wd ws (λ _=>U)=wd ws (λ _=>1)*U:=by
    clear a h
    induction ws with
    |nil=>simp only[wd];grind
    |cons x ws ih=>simp only[wd];rw[ih];grind
   rw[<-e];exact B7 (n:=n) b (λ x hx=>(a x (by simp[hx])).1) λ x hx=>(a x (by simp[hx])).2
  have w0:=(a w (by simp)).2;simp only[wd]
  by_cases e:w₀ = w
  ·subst e;have:=bw c w0;grind
  ·have hm:w₀∈ws:=by
    rcases aC.mp h with z | z
    ·exact absurd z e
    ·exact z
   have i:=UG hm (λ x hx=>a x (by simp[hx])) b c;have:=bw (b w.1 (a w (by simp)).1) w0;grind
structure Kc(R:Nat->nV)(n K:Nat):Prop where
 row:∀s,s<n->((R s).tot=1/\(R s).ways=[])\/((R s).ways≠[]/\0<(R s).tot/\wd (R s).ways (λ _=>1)=(R s).tot)
 way:∀s,s<n->∀w∈(R s).ways,w.1<n/\0<w.2/\(R s).tot<=(K:Rat)*w.2
theorem DA{x:Rat}(h:0<x):∀k:Nat,0<x^k
 |0=>by rw[gz];decide
 |k+1=>by rw[dQ];exact fD (DA h k) h
theorem Kd{R:Nat->nV}{n K B:Nat}(L:Kc R n K)(rk:Nat->Nat)(hB:∀s,s<n->rk s<=B)(hr:∀s,s<n->(R s).ways≠[]->∃w∈(R s).ways,rk w.1<rk s) :
  ∃u,Keeps R n u:=by
 let x:Rat:=(K:Rat)+1
 have k0:(0:Rat)<=(K:Rat):=gO
 have x0:0<x:=by show 0<(K:Rat)+1;grind
 have x1:1<=x:=by show 1<=(K:Rat)+1;grind
 let g:Nat->Rat:=λ s=>x^(B-rk s)
 have g0:∀s,0<g s:=λ s=>DA x0 _
 have mono:∀a b:Nat,a<=b->x^a<=x^b:=λ a b h=>by
  induction b with
  |zero=>
    have:a=0:=by omega
    subst this;exact bG
  |succ b ih=>
   by_cases e:a=b+1
   ·subst e;exact bG
   ·have:=ih (by omega);rw[dQ];have q:=bw x1 (bR (DA x0 b));grind
 let U:Rat:=x^B+1
 have gU:∀s,g s<U:=λ s=>by
  have:=mono (B-rk s) B (by omega);show x^(B-rk s)<x^B+1;grind
 refine⟨λ s=>U-g s,λ s hs w hw=>(L.way s hs w hw).1,λ s hs w hw=>bR (L.way s hs w hw).2.1,λ s _=>by have:=gU s;grind,λ s hs=>?_⟩
 rcases L.row s hs with ⟨e1,e2⟩ | ⟨ne,t0,e1⟩
 ·simp only[nV.lhs]
  rw[e1,e2];have:=gU s;simp only[wd];grind
 ·obtain⟨w,hw,lt⟩:=hr s hs ne
  obtain⟨wn,wp,wk⟩:=L.way s hs w hw;have b:=UG (n:=n) (u:=λ s=>U-g s) (U:=U) (d:=g w.1) hw (λ y hy=>⟨(L.way s hs y hy).1,bR (L.way s hs y hy).2.1⟩) (λ t _=>by have:=g0 t;grind) bG;rw[e1] at b;simp only[nV.lhs]
  have step:(K:Rat)*g s<g w.1:=by
   have h1:x^(B-rk s+1)<=x^(B-rk w.1):=mono _ _ (by have:=hB s hs;omega);rw[dQ] at h1;have:=g0 s;show (K:Rat)*x^(B-rk s)<x^(B-rk w.1);have e:x^(B-rk s)*x=(K:Rat)*x^(B-rk s)+x^(B-rk s):=by show _*((K:Rat)+1)=_;grind
   have:0<x^(B-rk s):=g0 s;grind
  have s1:=c9 step wp;have s2:(R s).tot*g s<=((K:Rat)*w.2)*g s:=cO wk (bR (g0 s));grind
def zb(R:Nat->nV)(n:Nat):Prop:=∀C:Nat->Prop,(∃s,C s)->(∀s,C s->s<n/\(R s).ways≠[])->∃s,C s/\∃w∈(R s).ways,¬C w.1
theorem least{p:Nat->Prop}:∀k,p k->∃j,p j/\∀i,i<j->¬p i:=by
 intro k
 induction k using iI with
 |_ k ih=>
  intro h
  by_cases e:∃i,i<k/\p i
  ·obtain⟨i,hi,hp⟩:=e;exact ih i hi hp
  ·exact⟨k,h,λ i hi hp=>e ⟨i,hi,hp⟩⟩
def Qe(R:Nat->nV):Nat->Nat->Prop
 |0,s=>(R s).ways=[]
 |k+1,s=>Qe R k s\/∃w∈(R s).ways,Qe R k w.1
theorem SW{R:Nat->nV}{n:Nat}(P:zb R n)(hw:∀s,s<n->∀w∈(R s).ways,w.1<n):∃(rk:Nat->Nat) (B:Nat),(∀s,s<n->rk s<=B)/\∀s,s<n->(R s).ways≠[]->∃w∈(R s).ways,rk w.1<rk s:=by
 have all:∀s,s<n->∃k,Qe R k s:=by
  by_cases h:∃s,s<n/\∀k,¬Qe R k s
  ·exfalso
   obtain⟨s₀,h0,h1⟩:=h;obtain⟨s,⟨hs,hc⟩,w,qY,hn⟩:=P (λ s=>s<n/\∀k,¬Qe R k s) ⟨s₀,h0,h1⟩ λ s hs=>⟨hs.1,λ z=>hs.2 0 z⟩
   refine hn ⟨hw s hs w qY,λ k hk=>hc (k+1) (.inr ⟨w,qY,hk⟩)⟩
  ·intro s hs
   by_cases e:∃k,Qe R k s
   ·exact e
   ·exact absurd ⟨s,hs,λ k hk=>e ⟨k,hk⟩⟩ h
 have pick:∀s,∃j,s<n->Qe R j s/\∀i,i<j->¬Qe R i s:=λ s=>by
  by_cases hs:s<n
  ·obtain⟨k,hk⟩:=all s hs;obtain⟨j,a,b⟩:=least (p:=λ k=>Qe R k s) k hk;exact⟨j,λ _=>⟨a,b⟩⟩
  ·exact⟨0,λ h=>absurd h hs⟩
 let rk:Nat->Nat:=λ s=>iw (pick s)
 have hrk:∀s,s<n->Qe R (rk s) s/\∀i,i<rk s->¬Qe R i s:=λ s hs=>fU (pick s) hs
 have bound:∀m,∃B,∀s,s<m->rk s<=B:=λ m=>by
  induction m with
  |zero=>exact⟨0,λ s h=>absurd h (gi s)⟩
  |succ m ih=>
   obtain⟨B,hB⟩:=ih;refine⟨max B (rk m),λ s hs=>?_⟩
   by_cases e:s=m
   ·subst e;omega
   ·have:=hB s (by omega);omega
 obtain⟨B,hB⟩:=bound n
 refine⟨rk,B,hB,λ s hs ne=>?_⟩
 obtain⟨a,b⟩:=hrk s hs
 cases e:rk s with
 |zero=>rw[e] at a;exact absurd a ne
 |succ k=>
  rw[e] at a b
  rcases a with a | ⟨w,qY,hk⟩
  ·exact absurd a (b k (aE k))
  ·refine⟨w,qY,?_⟩;have:=(hrk w.1 (hw s hs w qY)).2
   by_cases z:rk w.1<k+1
   ·exact z
   ·exact absurd hk (this k (by omega))
theorem zb.keeps{R:Nat->nV}{n K:Nat}(P:zb R n)(L:Kc R n K):∃u,Keeps R n u:=by
 obtain⟨rk,B,h1,h2⟩:=SW P λ s hs w hw=>(L.way s hs w hw).1
 exact Kd L rk h1 h2
theorem vt{v:Nat->Rat}:∀(n:Nat) (C:Nat->Prop),(∃s,s<n/\C s)->∃m,m<n/\C m/\∀s,s<n->C s->v s<=v m
 |0,C,h=>by obtain⟨s,hs,_⟩:=h;omega
 |n+1,C,h=>by
  by_cases e:∃s,s<n/\C s
  ·obtain⟨m,hm,cm,hx⟩:=vt (v:=v) n C e
   by_cases q:C n/\v m<v n
   ·refine⟨n,by omega,q.1,λ s hs hc=>?_⟩
    by_cases z:s=n
    ·subst z;exact bG
    ·have:=hx s (by omega) hc;have:=q.2;grind
   ·refine⟨m,by omega,cm,λ s hs hc=>?_⟩
    by_cases z:s=n
    ·subst z;have:¬v m<v s:=λ y=>q ⟨hc,y⟩
     grind
    ·exact hx s (by omega) hc
  ·obtain⟨s,hs,hc⟩:=h;have:s=n:=by
    by_cases z:s=n
    ·exact z
    ·exact absurd ⟨s,by omega,hc⟩ e
   subst this;refine⟨s,hs,hc,λ t ht hct=>?_⟩;have:t=s:=by
    by_cases z:t=s
    ·exact z
    ·exact absurd ⟨t,by omega,hct⟩ e
   subst this;exact bG
theorem z9{v:Nat->Rat}{M:Rat}:∀{ws:List (Nat×Rat)},(∀w∈ws,0<w.2/\v w.1<=M)->wd ws v<=wd ws (λ _=>1)*M/\(wd ws v=wd ws (λ _=>1)*M->∀w∈ws,v w.1=M)
 |[],_=>⟨by simp only[wd];grind,λ _ w hw=>by cases hw⟩
 |x::ws,h=>by
  obtain⟨a,b⟩:=z9 (ws:=ws) λ w hw=>h w (by simp[hw])
  obtain⟨p,q⟩:=h x (by simp);have m:=bw q (bR p);refine⟨by simp only[wd];grind,λ e w hw=>?_⟩;simp only[wd] at e
  have e1:x.2*v x.1=x.2*M:=by grind
  have e2:wd ws v=wd ws (λ _=>1)*M:=by grind
  rcases aC.mp hw with rfl | hw
  ·have l1:=br (a:=M) (b:=v w.1) (c:=w.2) (by rw[e1];exact bG) p;grind
  ·exact b e2 w hw
theorem BA{R':Nat->nV}{n K:Nat}(L':Kc R' n K){v:Nat->Rat}(h:∀s,s<n->(R' s).ways≠[]->(R' s).lhs s v<0):zb R' n:=by
 intro C hne hC
 by_cases z:∃s,C s/\∃w∈(R' s).ways,¬C w.1
 ·exact z
 ·exfalso
  have closed:∀s,C s->∀w∈(R' s).ways,C w.1:=λ s hs w hw=>by
   by_cases q:C w.1
   ·exact q
   ·exact absurd ⟨s,hs,w,hw,q⟩ z
  obtain⟨s₀,hs₀⟩:=hne;obtain⟨m,hm,cm,most⟩:=vt (v:=v) n C ⟨s₀,(hC s₀ hs₀).1,hs₀⟩;obtain⟨hn,ne⟩:=hC m cm;obtain⟨_,t0,sum⟩:=(L'.row m hn).resolve_left λ y=>ne y.2
  obtain⟨b1,b2⟩:=z9 (v:=v) (M:=v m) (ws:=(R' m).ways) λ w hw=>⟨(L'.way m hn w hw).2.1,most _ (L'.way m hn w hw).1 (closed m cm w hw)⟩
  rw[sum] at b1;have:=h m hn ne;simp only[nV.lhs] at this
  grind
end La
end
noncomputable section
namespace La
open Ra61 Fq
theorem uQ{α:Type}(f:α->α)(μ:α->Nat)(n:Nat)(P:α->Prop)(hP:∀x,P x->P (f x))(hb:∀x,P x->μ x<=n)(hm:∀x,P x->f x≠x->μ x<μ (f x)) :
  ∀(k:Nat) (x:α),P x->n<=μ x+k->f (iter f k x)=iter f k x
 |0,x,p,h=>by
  apply az
  intro e;have:=hm x p e;have:=hb _ (hP x p);omega
 |k+1,x,p,h=>by
  apply Classical.byCases (p:=f x=x)
  ·intro e;rw[za e,e]
  ·intro e;have:=hm x p e;exact uQ f μ n P hP hb hm k (f x) (hP x p) (by omega)
theorem mS{α:Type}{f:α->α}{P:α->Prop}(hP:∀x,P x->P (f x)):∀(k:Nat) (x:α),P x->P (iter f k x)
 |0,_,p=>p
 |k+1,x,p=>mS hP k (f x) (hP x p)
def lF(r:Rat)(c:Choice):nV:=⟨1,c.parts.map λ y=>(y.1,val y.2),r⟩
theorem A3{c:Choice}(hW:0<c.weight)(m:Int)(r:Rat)(s:Nat)(x:Nat->Rat) :
  (sI (kX m c)).lhs s x=(((c.weight:Nat):Int):Rat)*(lF r c).lhs s x/\(sI (kX m c)).rhs=(((c.weight:Nat):Int):Rat)*((c.gain*m:Int):Rat)/\(0:Rat)<(((c.weight:Nat):Int):Rat):=by
 refine⟨?_,?_,mL (by omega)⟩
 ·have e:=z8 hW x
  show (((c.weight:Nat):Int):Rat)*x s-wd (pI c.ways) x=(((c.weight:Nat):Int):Rat)*(1*x s-wd (c.parts.map λ y=>(y.1,val y.2)) x);rw[<-e];grind
 ·show ((c.gain*m*((c.weight:Nat):Int):Int):Rat)=_
  rw[aI];grind
theorem nV.LL(r:nV)(s:Nat)(x:Nat->Rat):r.lhs s (λ i=>- x i) = - r.lhs s x:=by
 have:∀ws:List (Nat×Rat),wd ws (λ i=>- x i) = - wd ws x:=λ ws=>by
  induction ws with
  |nil=>simp only[wd];grind
  |cons w ws ih=>simp only[wd];rw[ih];grind
 simp only[nV.lhs];rw[this];grind
theorem F7{N:Net}(G:Good N){s:Nat}{c:Choice}(hc:c∈choicesOf N s):c.weight<=16000/\∀w∈c.ways,1<=w.2:=by
 obtain⟨x,hx,hc'⟩:=o9 hc
 obtain⟨a,b,d,_⟩:=G.ways x hx c hc'
 have:∀ws:List (Nat×Nat),(∀w∈ws,w.2<=1000)->(ws.map λ w=>w.2).sum<=ws.length*1000:=λ ws=>by
  induction ws with
  |nil=>intro _;simp
  |cons w ws ih=>
   intro h;have i:=ih λ x hx=>h x (by simp[hx])
   have:=h w (by simp);rw[aS,dB,aK];omega
 have t:=this c.ways λ w hw=>(d w hw).2.2
 refine⟨?_,λ w hw=>(d w hw).2.1⟩
 show (c.ways.map λ w=>w.2).sum<=16000
 omega
theorem xR{N:Net}(G:Good N){s:Nat}{c:Choice}(hc:c∈choicesOf N s):c.ways≠[]:=by
 obtain⟨x,hx,hc'⟩:=o9 hc
 exact (G.ways x hx c hc').1
structure LM(N:Net)(r:nV):Prop where
 row:(r.tot=1/\r.ways=[])\/(r.ways≠[]/\0<r.tot/\wd r.ways (λ _=>1)=r.tot)
 way:∀w∈r.ways,w.1<N.length/\0<w.2/\r.tot<=((16000:Nat):Rat)*w.2
theorem Ca(N:Net)(x:Rat):LM N ⟨1,[],x⟩:=⟨.inl ⟨rfl,rfl⟩,λ w hw=>by cases hw⟩
theorem oX{N:Net}(G:Good N){s:Nat}{c:Choice}(hc:c∈choicesOf N s)(r:Rat):LM N (lF r c):=by
 obtain⟨hW,hn,_⟩:=lu G hc
 obtain⟨w16,w1⟩:=F7 G hc
 refine⟨.inr ⟨?_,by show (0:Rat)<1;decide,G5 hW⟩,λ w hw=>?_⟩
 ·intro e
  have e:(c.parts.map λ y=>(y.1,val y.2))=[]:=e;have:c.ways=[]:=by
   unfold Choice.parts at e;rw[dO] at e;exact e7.mp e
  exact xR G hc this
 ·obtain⟨y,hy,rfl⟩:=aB.mp hw
  obtain⟨w',qY,rfl⟩:=aB.mp hy;have a:=w1 w' qY;have q:=mL (show (0:Int)<((c.weight:Nat):Int) by omega);have p:=mL (show (0:Int)<((w'.2:Nat):Int) by omega);refine⟨hn w' qY,?_,?_⟩
  ·show 0<val (fr (w'.2:Nat) c.weight);rw[y9 hW,iR];exact fD p (Rat.inv_pos.mpr q)
  ·show 1<=_*val (fr (w'.2:Nat) c.weight);rw[y9 hW];have le:((c.weight:Nat):Rat)<=((16000*w'.2:Nat):Rat):=cE.mpr (by omega);rw[fq] at le;rw[bu] at p q ⊢;rw[bu];generalize ((c.weight:Nat):Rat)=x at *
   generalize ((w'.2:Nat):Rat)=y at *
   generalize ((16000:Nat):Rat)=k at *
   have e:x*(k*(y/x))=k*y:=by grind
   exact br (a:=1) (b:=k*(y/x)) (c:=x) (by rw[e];grind) q
theorem SY{N:Net}(G:Good N){s:Nat}{c:Choice}(hc:c∈choicesOf N s)(m:Int):LM N (sI (kX m c)):=by
 obtain⟨hW,hn,_⟩:=lu G hc
 obtain⟨w16,w1⟩:=F7 G hc
 have q:=mL (show (0:Int)<((c.weight:Nat):Int) by omega)
 refine⟨.inr ⟨?_,q,?_⟩,λ w hw=>?_⟩
 ·intro e
  exact xR G hc (e7.mp (show (c.ways.map λ w=>(w.1,(w.2:Rat)))=[] from e))
 ·have e:=z8 hW (λ _=>1)
  rw[G5 hW] at e;show wd (pI c.ways) (λ _=>1)=(((c.weight:Nat):Int):Rat);rw[<-e];grind
 ·obtain⟨w',qY,rfl⟩:=aB.mp hw
  have a:=w1 w' qY;refine⟨hn w' qY,?_,?_⟩
  ·have p:=mL (show (0:Int)<((w'.2:Nat):Int) by omega);rw[bu] at p;exact p
  ·show (((c.weight:Nat):Int):Rat)<=_*((w'.2:Nat):Rat);rw[bu,<-fq];exact cE.mpr (by omega)
theorem G6{N:Net}{R:Nat->nV}(h:∀s,s<N.length->LM N (R s)):Kc R N.length 16000:=⟨λ s hs=>(h s hs).row,λ s hs w hw=>(h s hs).way w hw⟩
theorem sL{N:Net}{l:Plan}{stay:Nat->Bool}{ok:Choice->Bool}{better:Nat->Choice->Bool}{s:Nat}(hs:s<N.length) :
  (stay s=true/\(changed N l stay ok better).getD s 0=l.getD s 0)\/(stay s=false/\(((changed N l stay ok better).getD s 0=l.getD s 0/\∀c∈choicesOf N s,(ok c&&better s c)=false) \/
   ∃c,(choicesOf N s)[(changed N l stay ok better).getD s 0]? = some c/\(ok c&&better s c)=true)):=by
 have e:(changed N l stay ok better).getD s 0=if stay s=true then l.getD s 0 else ((choicesOf N s).findIdx? λ c=>ok c&&better s c).getD (l.getD s 0):=by
  simp[changed,aa,ai,aL hs]
 rw[e]
 cases h:stay s with
 |true=>exact .inl ⟨rfl,by rw[if_pos rfl]⟩
 |false=>
  refine .inr ⟨rfl,?_⟩;rw[if_neg (by simp)]
  cases q:(choicesOf N s).findIdx? λ c=>ok c&&better s c with
  |none=>
   rw[dg] at q;exact .inl ⟨rfl,q⟩
  |some j=>
   rw[bP] at q;obtain⟨hj,h1,_⟩:=q;exact .inr ⟨(choicesOf N s)[j],af hj,h1⟩
structure EN(N:Net)(l:Plan):Prop where
 len:l.length=N.length
 at_:∀s,s<N.length->l.getD s 0<max 1 (choicesOf N s).length
theorem EN.change{N:Net}{l:Plan}(F:EN N l)(stay:Nat->Bool)(ok:Choice->Bool)(better:Nat->Choice->Bool):EN N (changed N l stay ok better) where
 len:=by simp[changed]
 at_:=λ s hs=>by
  rcases sL (l:=l) (stay:=stay) (ok:=ok) (better:=better) hs with ⟨_,e⟩ | ⟨_,⟨e,_⟩ | ⟨c,e,_⟩⟩
  ·rw[e];exact F.at_ s hs
  ·rw[e];exact F.at_ s hs
  ·have:=(ao.mp e).1;omega
theorem F8(N:Net):EN N (first N):=by
 have z:∀s,(first N).getD s 0=0:=λ s=>by
  simp only[first,aa,ai]
  cases N[s]? <;> rfl
 exact⟨by simp[first],λ s hs=>by rw[z];omega⟩
theorem DB{N:Net}(G:Good N)(value:Plan->Row)(change:Plan->Row->Plan)(start:Plan)(P:Plan->Prop)(V:Plan->Nat->Rat)(h0:P start)(hf:∀l,P l->EN N l)(hs:∀l,P l->P (change l (value l)))
  (up:∀l,P l->(∀s,s<N.length->V l s<=V (change l (value l)) s)/\∀s,s<N.length->(change l (value l)).getD s 0≠l.getD s 0->V l s<V (change l (value l)) s) :
  ∃l,P l/\improved value change PLANS start=value l/\change l (value l)=l:=by
 let f:=λ l=>change l (value l)
 obtain⟨k,hk,e⟩:=Du f P (λ a b=>(∀s,s<N.length->V a s<=V b s)/\∃s,s<N.length/\V a s<V b s) (uN ((ay N.length).map λ s=>(choicesOf N s).length)) start h0 hs
  (λ l p=>AY (by rw[(hf l p).len];simp) λ s hs=>by
   have hs:s<N.length:=by simpa using hs
   have e:((ay N.length).map λ s=>(choicesOf N s).length).getD s 0=(choicesOf N s).length:=by
    rw[aa,ai,aL hs];rfl
   rw[e];exact (hf l p).at_ s hs)
  (λ l p ne=>by
   obtain⟨g1,g2⟩:=up l p;refine⟨g1,?_⟩
   by_cases z:∃s,s<N.length/\(f l).getD s 0≠l.getD s 0
   ·obtain⟨s,hs,z⟩:=z;exact⟨s,hs,g2 s hs z⟩
   ·exfalso
    have F:=hf l p;have F':=hf _ (hs l p);refine ne (eV (by rw[F.len];exact F'.len) λ s h1 h2=>?_);have hs:s<N.length:=by rw[F.len] at h2;exact h2
    have gp:l.getD s 0=l[s]:=by rw[aa,af h2];rfl
    have gq:(f l).getD s 0=(f l)[s]:=by rw[aa,af h1];rfl
    rw[<-gp,<-gq]
    by_cases y:(f l).getD s 0=l.getD s 0
    ·exact y
    ·exact absurd ⟨s,hs,y⟩ z)
  (λ a b c _ _ _ h k=>⟨λ s hs=>jm (h.1 s hs) (k.1 s hs),by
   obtain⟨s,hs,lt⟩:=h.2;have:=k.1 s hs;exact⟨s,hs,by grind⟩⟩)
  (λ a _ h=>by obtain⟨s,_,lt⟩:=h.2;exact absurd lt Rat.lt_irrefl)
 have few:(uN ((ay N.length).map λ s=>(choicesOf N s).length)).length<=PLANS:=by
  refine bf (F4 (m:=8) (by decide) λ b hb=>?_) ?_
  ·obtain⟨s,hs,rfl⟩:=aB.mp hb;have hs:=aF.mp hs;unfold choicesOf
   cases e:N[s]? with
   |none=>simp
   |some y=>simp only[bH,dJ];exact G.few y (aq e)
  ·rw[ah,cD];have:8^N.length<=8^16:=eG (by decide) G.len.2;exact bf this (by decide)
 exact⟨iter f k start,mS hs k start h0,By value change PLANS k start (bf hk few) e,e⟩
theorem F9{N:Net}(G:Good N){v:Row}(hv:∀s,s<N.length->BS (at_ v s)){s:Nat}{c:Choice}(hc:c∈choicesOf N s) :
  0<(c.behind v).den/\val (c.behind v)=wd (c.parts.map λ y=>(y.1,val y.2)) (λ t=>val (at_ v t)):=by
 obtain⟨hW,hw,_⟩:=lu G hc
 obtain⟨b1,b2⟩:=Dz (v:=v) (n:=N.length) (λ s hs=>(hv s hs).pos) c.parts none_ qF.pos λ y hy=>⟨(A2 hW y hy).pos,by
  obtain⟨w,qY,rfl⟩:=aB.mp hy;exact hw w qY⟩
 have b2':val (c.behind v)=val none_+wd (c.parts.map λ y=>(y.1,val y.2)) (λ t=>val (at_ v t)):=b2
 exact⟨b1,by rw[b2',qG];grind⟩
theorem uR{c:Choice}{r:Rat}{w:Nat×Rat}(h:w∈(lF r c).ways):∃w'∈c.ways,w.1=w'.1:=by
 obtain⟨y,hy,rfl⟩:=aB.mp h
 obtain⟨w',qY,rfl⟩:=aB.mp hy
 exact⟨w',qY,rfl⟩
theorem qH{c:Choice}{r:Rat}{w:Nat×Nat}(h:w∈c.ways):∃w'∈(lF r c).ways,w'.1=w.1:=
 ⟨(w.1,val (fr (w.2:Nat) c.weight)),aB.mpr ⟨(w.1,fr (w.2:Nat) c.weight),aB.mpr ⟨w,h,rfl⟩,rfl⟩,rfl⟩
theorem vy{p q:Nat->Bool}:∀l:List Nat,(∀x∈l,p x=true->q x=true)->(l.filter p).length<=(l.filter q).length/\((∃x∈l,q x=true/\p x=false)->(l.filter p).length<(l.filter q).length)
 |[],_=>⟨by simp,λ⟨x,hx,_⟩=>by cases hx⟩
 |y::l,h=>by
  obtain⟨a,b⟩:=vy (p:=p) (q:=q) l λ x hx=>h x (by simp[hx])
  have hy:=h y (by simp)
  constructor
  ·cases hp:p y with
   |true=>simp[cz,hp,hy hp];exact a
   |false=>
    cases hq:q y with
    |true=>simp[cz,hp,hq];omega
    |false=>simp[cz,hp,hq];exact a
  ·rintro⟨x,hx,q1,p1⟩
   rcases aC.mp hx with rfl | hx
   ·simp[cz,p1,q1];omega
   ·have:=b ⟨x,hx,q1,p1⟩
    cases hp:p y with
    |true=>simp[cz,hp,hy hp];exact this
    |false=>
     cases hq:q y with
     |true=>simp[cz,hp,hq];omega
     |false=>simp[cz,hp,hq];exact this
theorem DC{α β:Type}{step:α->β->α}{P:α->Prop}:∀(l:List β) (x:α),(∀x b,b∈l->P x->P (step x b))->P x->P (l.foldl step x)
 |[],_,_,p=>p
 |a::l,x,h,p=>DC l (step x a) (λ x b hb=>h x b (by simp[hb])) (h x a (by simp) p)
def on(m:List Int)(s:Nat):Prop:=m.getD s 0≠0
def UH(m m':List Int):Prop:=∀s,on m s->on m' s
structure pV(m:List Int)(n:Nat):Prop where
 len:m.length=n
 bit:∀s,m.getD s 0=0\/m.getD s 0=1
theorem pV.set{m:List Int}{n s:Nat}(B:pV m n):pV (m.set s 1) n:=
 ⟨by rw[cG];exact B.len,λ t=>by
  by_cases hs:s<m.length
  ·rw[lQ hs];split
   ·exact .inr rfl
   ·exact B.bit t
  ·rw[g9 (by omega)];exact B.bit t⟩
theorem pV.ext{m m':List Int}{n:Nat}(B:pV m n)(B':pV m' n)(h:UH m m')(k:UH m' m):m=m':=by
 refine eV (by rw[B.len,B'.len]) λ s h1 h2=>?_
 have e1:m.getD s 0=m[s]:=by rw[aa,af h1];rfl
 have e2:m'.getD s 0=m'[s]:=by rw[aa,af h2];rfl
 rw[<-e1,<-e2]
 have a:=h s
 have b:=k s
 unfold on at a b
 have c:=B.bit s
 have c':=B'.bit s
 omega
theorem S0{m:List Int}{s:Nat}:UH m (m.set s 1):=λ t h=>by
 unfold on at h ⊢
 by_cases hs:s<m.length
 ·rw[lQ hs];split
  ·decide
  ·exact h
 ·rw[g9 (by omega)];exact h
def cnt(n:Nat)(m:List Int):Nat:=((ay n).filter λ s=>decide (m.getD s 0≠0)).length
theorem Qg(n:Nat)(m:List Int):cnt n m<=n:=by
 have:=cK (λ s=>decide (m.getD s 0≠0)) (ay n)
 rw[cD] at this;exact this
theorem Qh{n:Nat}{m m':List Int}(B:pV m n)(B':pV m' n)(h:UH m m')(ne:m'≠m):cnt n m<cnt n m':=by
 refine (vy (ay n) λ x _ hx=>?_).2 ?_
 ·exact decide_eq_true (p:=m'.getD x 0≠0) (h x (of_decide_eq_true (p:=m.getD x 0≠0) hx))
 ·apply az
  intro no;refine ne (pV.ext B' B (λ s hs=>?_) h);apply az
  intro q;have hn:s<n:=by
   rw[<-B'.len];apply az
   intro z;unfold on at hs;rw[aa,bA (by omega)] at hs;exact hs rfl
  exact no ⟨s,aF.mpr hn,decide_eq_true (p:=m'.getD s 0≠0) hs,decide_eq_false (p:=m.getD s 0≠0) q⟩
def vz(o:kZ)(m:List Int):Bool:=o.ways.any λ w=>decide (m.getD w.1 0≠0)
theorem A4{o:kZ}{m:List Int}:vz o m=true↔∃w∈o.ways,on m w.1:=by
 unfold vz on
 simp
section
variable{jr:List (List kZ)}{n:Nat}
end
section
variable{N:Net}{g:Nat}
theorem Iw{R R':Nat->nV}{n:Nat}{u:Nat->Rat}(K:Keeps R n u)(h:∀s,(R' s).tot=(R s).tot/\(R' s).ways=(R s).ways):Keeps R' n u:=
 ⟨λ s hs w hw=>K.to s hs w (by rw[<-(h s).2];exact hw),λ s hs w hw=>K.nn s hs w (by rw[<-(h s).2];exact hw),K.pos,λ s hs=>by
  have:=K.sum s hs;simp only[nV.lhs] at this ⊢
  rw[(h s).1,(h s).2];exact this⟩
end
theorem G7{N:Net}{g s:Nat}{m:Int}(h:s<N.length):(sF N g m).getD s []=if isGoal g s=true then [] else (choicesOf N s).map (kX m):=by
 simp[sF,aa,ai,aL h]
theorem Qi(r:nV)(s:Nat):r.lhs s (λ _=>0)=0:=by
 have:∀ws:List (Nat×Rat),wd ws (λ _=>0)=0:=λ ws=>by
  induction ws with
  |nil=>rfl
  |cons w ws ih=>simp only[wd];rw[ih];grind
 simp only[nV.lhs];rw[this];grind
theorem Qj(ws:List (Nat×Rat))(x:Nat->Rat):wd ws (λ i=>- x i) = - wd ws x:=by
 induction ws with
 |nil=>simp only[wd];grind
 |cons w ws ih=>simp only[wd];rw[ih];grind
theorem S1{N:Net}(G:Good N){s:Nat}{c:Choice}(hc:c∈choicesOf N s){m:Int}{V:Nat->Rat}(h:B9 (kX m c) V<=((kX m c).tot:Rat)*V s):((c.gain*m:Int):Rat)<=(lF 0 c).lhs s V:=by
 obtain⟨a,b,d⟩:=A3 (lu G hc).1 m 0 s V
 have h2:(sI (kX m c)).rhs<=(sI (kX m c)).lhs s V:=by
  unfold B9 at h;have t1:(sI (kX m c)).tot=((kX m c).tot:Rat):=rfl;have t2:(sI (kX m c)).ways=pI (kX m c).ways:=rfl;simp only[nV.lhs]
  rw[t1,t2];exact Nq h
 rw[a,b] at h2
 exact br h2 d
section
variable{N:Net}{g:Nat}
end
theorem DE{α β:Type}{step:α->β->α}{P:α->Prop}{le:α->α->Prop}(tr:∀x y z,le x y->le y z->le x z)(rf:∀x,le x x)(anti:∀x y,le x y->le y x->y=x):∀(l:List β) (x:α),(∀x b,b∈l->P x->P (step x b)/\le x (step x b))->P x ->
  P (l.foldl step x)/\le x (l.foldl step x)/\(l.foldl step x=x->∀b∈l,step x b=x)
 |[],x,_,p=>⟨p,rf x,λ _ b hb=>by cases hb⟩
 |a::l,x,h,p=>by
  obtain⟨p1,l1⟩:=h x a (by simp) p;obtain⟨p2,l2,fx⟩:=DE tr rf anti l (step x a) (λ x b hb=>h x b (by simp[hb])) p1;refine⟨p2,tr _ _ _ l1 l2,λ e b hb=>?_⟩;have e:l.foldl step (step x a)=x:=e;rw[e] at l2;have ea:=anti _ _ l1 l2
  rcases aC.mp hb with rfl | hb
  ·exact ea
  ·rw[ea] at e fx;exact fx e b hb
abbrev Js:=List Int×List Int
def lV(os:List kZ)(s:Nat)(x:Js)(j:Nat):Js:=if x.1.getD s 0=0/\vz (os.getD j jR) x.1=true then (x.1.set s 1,x.2.set s (j:Int)) else x
def nO(jr:List (List kZ))(x:Js)(s:Nat):Js:=(ay (jr.getD s []).length).foldl (lV (jr.getD s []) s) x
def nF(jr:List (List kZ))(n:Nat)(x:Js):Js:=(ay n).foldl (nO jr) x
def minus(n:Nat):List Int:=(ay n).map λ _=>-1
def rE(jr:List (List kZ))(m:List Int)(n:Nat):Js:=iter (nF jr n) n (m,minus n)
structure pJ(jr:List (List kZ))(m:List Int)(n:Nat)(x:Js):Prop where
 bits:pV x.1 n
 len:x.2.length=n
 old:UH m x.1
 from_:∀s,on x.1 s->on m s\/0<=x.2.getD s 0
 at_:∀s,s<n->0<=x.2.getD s 0->(x.2.getD s 0).toNat<(jr.getD s []).length/\on x.1 s/\¬on m s
 well:∀C:Nat->Prop,(∃s,C s)->(∀s,C s->s<n/\0<=x.2.getD s 0)->∃s,C s/\∃w∈((jr.getD s []).getD (x.2.getD s 0).toNat jR).ways,¬C w.1/\on x.1 w.1
def S2(n:Nat)(x y:Js):Prop:=cnt n x.1<=cnt n y.1/\(cnt n x.1=cnt n y.1->y=x)
theorem DF(n:Nat)(x:Js):S2 n x x:=⟨au _,λ _=>rfl⟩
theorem Ga(n:Nat)(x y z:Js)(h:S2 n x y)(k:S2 n y z):S2 n x z:=⟨bf h.1 k.1,λ e=>by
 have h1:=h.1;have k1:=k.1
 have a:=h.2 (by omega)
 have b:=k.2 (by omega)
 rw[b,a]⟩
theorem Iz(n:Nat)(x y:Js)(h:S2 n x y)(k:S2 n y x):y=x:=h.2 (Nat.le_antisymm h.1 k.1)
theorem IA(n s:Nat):(minus n).getD s 0=if s<n then -1 else 0:=by
 unfold minus
 rw[aa,ai]
 by_cases h:s<n
 ·rw[aL h,if_pos h];rfl
 ·rw[bA (by simpa using h),if_neg h];rfl
section
variable{jr:List (List kZ)}{m:List Int}{n:Nat}
theorem DG(B:pV m n):pJ jr m n (m,minus n) where
 bits:=B
 len:=by simp[minus]
 old:=λ _ h=>h
 from_:=λ _ h=>.inl h
 at_:=λ s hs h=>by
  have h:0<=(minus n).getD s 0:=h;rw[IA,if_pos hs] at h;exact absurd h (by decide)
 well:=λ C hne hC=>by
  obtain⟨s,hs⟩:=hne;obtain⟨a,b⟩:=hC s hs;have b:0<=(minus n).getD s 0:=b;rw[IA,if_pos a] at b;exact absurd b (by decide)
theorem IB{x:Js}{s j:Nat}(T:pJ jr m n x)(hs:s<n)(hj:j<(jr.getD s []).length):pJ jr m n (lV (jr.getD s []) s x j)/\S2 n x (lV (jr.getD s []) s x j):=by
 unfold lV
 split
 ·rename_i c
  obtain⟨c0,cl⟩:=c;have l1:s<x.1.length:=by rw[T.bits.len];exact hs
  have l2:s<x.2.length:=by rw[T.len];exact hs
  have g2:∀t,(x.2.set s (j:Int)).getD t 0=if t=s then (j:Int) else x.2.getD t 0:=λ t=>lQ l2
  have o1:∀t,on (x.1.set s 1) t↔(t=s\/on x.1 t):=λ t=>by
   unfold on;rw[lQ l1]
   split
   ·rename_i e
    exact⟨λ _=>.inl e,λ _=>by decide⟩
   ·rename_i e
    exact⟨.inr,λ z=>z.resolve_left e⟩
  have nm:¬on m s:=λ z=>T.old s z c0
  obtain⟨w,hw,wo⟩:=A4.mp cl;refine⟨⟨T.bits.set,by rw[cG];exact T.len,λ t h=>(o1 t).mpr (.inr (T.old t h)),λ t h=>?_,λ t ht h=>?_,λ C hne hC=>?_⟩,?_⟩
  ·show on m t\/0<=(x.2.set s (j:Int)).getD t 0;rw[g2]
   rcases (o1 t).mp h with rfl | q
   ·rw[if_pos rfl];exact .inr (by omega)
   ·split
    ·exact .inr (by omega)
    ·exact T.from_ t q
  ·have h:0<=(x.2.set s (j:Int)).getD t 0:=h;show ((x.2.set s (j:Int)).getD t 0).toNat<_/\on (x.1.set s 1) t/\¬on m t;rw[g2] at h ⊢
   split
   ·rename_i e
    subst e;exact⟨by simpa using hj,(o1 t).mpr (.inl rfl),nm⟩
   ·rename_i e
    rw[if_neg e] at h;obtain⟨a,b,d⟩:=T.at_ t ht h;exact⟨a,(o1 t).mpr (.inr b),d⟩
  ·have ge:∀t,t≠s->(x.2.set s (j:Int)).getD t 0=x.2.getD t 0:=λ t e=>by rw[g2,if_neg e]
   by_cases q:∃t,C t/\t≠s
   ·obtain⟨t,⟨ct,es⟩,w',qY,n',o'⟩:=T.well (λ t=>C t/\t≠s) q λ t ht=>by
     obtain⟨a,b⟩:=hC t ht.1;have b:0<=(x.2.set s (j:Int)).getD t 0:=b;rw[ge t ht.2] at b;exact⟨a,b⟩
    refine⟨t,ct,w',?_,λ z=>n' ⟨z,λ e=>?_⟩,(o1 _).mpr (.inr o')⟩
    ·show w'∈((jr.getD t []).getD ((x.2.set s (j:Int)).getD t 0).toNat jR).ways;rw[ge t es];exact qY
    ·rw[e] at o';exact o' c0
   ·obtain⟨t,ct⟩:=hne;have e:t=s:=by
     apply az
     intro z;exact q ⟨t,ct,z⟩
    subst e;refine⟨t,ct,w,?_,λ z=>?_,(o1 _).mpr (.inr wo)⟩
    ·show w∈((jr.getD t []).getD ((x.2.set t (j:Int)).getD t 0).toNat jR).ways;rw[g2,if_pos rfl];exact hw
    ·apply q
     refine⟨w.1,z,λ e=>?_⟩;rw[e] at wo;exact wo c0
  ·have lt:cnt n x.1<cnt n (x.1.set s 1):=Qh T.bits T.bits.set S0 λ e=>by
    have:on (x.1.set s 1) s:=(o1 s).mpr (.inl rfl);rw[e] at this;exact this c0
   exact⟨bg lt,λ e=>absurd e (by have:cnt n x.1<cnt n (x.1.set s 1):=lt;show cnt n x.1≠cnt n (x.1.set s 1);omega)⟩
 ·exact⟨T,DF n x⟩
theorem xS{x:Js}{s:Nat}(T:pJ jr m n x)(hs:s<n):pJ jr m n (nO jr x s)/\S2 n x (nO jr x s)/\(nO jr x s=x->∀j∈ay (jr.getD s []).length,lV (jr.getD s []) s x j=x):=
 DE (P:=pJ jr m n) (Ga n) (DF n) (Iz n) _ x (λ _ _ hj T=>IB T hs (aF.mp hj)) T
theorem xr{x:Js}(T:pJ jr m n x):pJ jr m n (nF jr n x)/\S2 n x (nF jr n x)/\(nF jr n x=x->∀s∈ay n,nO jr x s=x):=
 DE (P:=pJ jr m n) (Ga n) (DF n) (Iz n) _ x (λ _ _ hj T=>⟨(xS T (aF.mp hj)).1,(xS T (aF.mp hj)).2.1⟩) T
theorem DH(B:pV m n):pJ jr m n (rE jr m n):=mS (P:=pJ jr m n) (λ _ T=>(xr T).1) n _ (DG B)
theorem Qk(B:pV m n):nF jr n (rE jr m n)=rE jr m n:=
 uQ (nF jr n) (λ x=>cnt n x.1) n (pJ jr m n) (λ _ T=>(xr T).1) (λ x _=>Qg n x.1) (λ x T ne=>by
  obtain⟨_,l,_⟩:=xr T;have:=l.1
  by_cases e:cnt n x.1=cnt n (nF jr n x).1
  ·exact absurd (l.2 e) ne
  ·omega) n _ (DG B) (by omega)
theorem LN(B:pV m n){s:Nat}(hs:s<n)(h:¬on (rE jr m n).1 s):∀o∈jr.getD s [],vz o (rE jr m n).1=false:=λ o ho=>by
 cases e:vz o (rE jr m n).1 with
 |false=>rfl
 |true=>
  exfalso
  have T:=DH (jr:=jr) B;have r1:=(xr T).2.2 (Qk B) s (aF.mpr hs);obtain⟨j,hj,ej⟩:=bQ ho;have r2:=(xS T hs).2.2 r1 j (aF.mpr hj);have go:(jr.getD s []).getD j jR=o:=by rw[aa,af hj,ej];rfl
  have z:(rE jr m n).1.getD s 0=0:=by
   apply az
   intro q;exact h q
  unfold lV at r2;rw[if_pos ⟨z,by rw[go];exact e⟩] at r2;have e1:=congrArg Prod.fst r2;have e1:(rE jr m n).1.set s 1=(rE jr m n).1:=e1;have:((rE jr m n).1.set s 1).getD s 0=1:=by rw[lQ (by rw[T.bits.len];exact hs),if_pos rfl]
  rw[e1,z] at this;exact absurd this (by decide)
end
section
variable{N:Net}{g:Nat}
def X7(next:Nat->List Nat)(n:Nat)(l:List Nat):List Nat:=(ay n).filter λ s=>l.contains s||(next s).any λ t=>l.contains t
theorem vA(next:Nat->List Nat)(n:Nat):∀(k:Nat) (l:List Nat),comes next k n l=iter (X7 next n) k l
 |0,_=>rfl
 |k+1,l=>vA next n k (X7 next n l)
theorem Gb{n:Nat}(f:Nat->Bool):(ay n).filter f=(ay n).filter λ s=>((ay n).filter f).contains s:=by
 refine gY λ x hx=>?_
 cases e:f x with
 |true=>exact (by simp[e,aF.mp hx]:_=true).symm
 |false=>exact (by simp[e]:_=false).symm
theorem Ke(next:Nat->List Nat)(n:Nat)(f:Nat->Bool):X7 next n (comes next n n ((ay n).filter f))=comes next n n ((ay n).filter f):=by
 rw[vA]
 refine uQ (X7 next n) eF n (λ l=>l=(ay n).filter λ s=>l.contains s) (λ l _=>Gb _) (λ l h=>?_) (λ l h ne=>?_) n _ (Gb f) (by omega)
 ·rw[h]
  have:=cK (λ s=>l.contains s) (ay n);rw[cD] at this;exact this
 ·have e:=vy (p:=λ s=>l.contains s) (q:=λ s=>l.contains s||(next s).any λ t=>l.contains t) (ay n) λ x _ hx=>by rw[hx];rfl
  have lt:=e.2 ?_
  ·rw[<-h] at lt;exact lt
  ·apply az
   intro no;refine ne ?_;have:(ay n).filter (λ s=>l.contains s||(next s).any λ t=>l.contains t)=(ay n).filter λ s=>l.contains s:=gY λ x hx=>by
    cases q:l.contains x||(next x).any λ t=>l.contains t with
    |false=>exact (gg.mp q).1.symm
    |true=>
     cases p:l.contains x with
     |true=>rfl
     |false=>exact absurd ⟨x,hx,q,p⟩ no
   exact this.trans h.symm
def Gd(N:Net)(g:Nat)(l:Plan)(s:Nat):List Nat:=if isGoal g s=true then [] else ((chosen N l s).map λ c=>c.ways.map λ w=>w.1).getD []
def p9(N:Net)(g:Nat)(l:Plan):List Nat:=comes (Gd N g l) N.length N.length (goals N g)
theorem Ql{l:Plan}:X7 (Gd N g l) N.length (p9 N g l)=p9 N g l:=Ke _ _ _
theorem IC{l:Plan}{s:Nat}(hs:s<N.length)(h:isGoal g s=true):s∈p9 N g l:=by
 unfold p9
 rw[vA]
 refine mS (P:=λ l=>s∈l) (λ l hl=>aH.mpr ⟨aF.mpr hs,?_⟩) _ _ (aH.mpr ⟨aF.mpr hs,h⟩)
 rw[show l.contains s=true by simpa using hl];rfl
theorem DI{l:Plan}{s t:Nat}(hs:s<N.length)(h:t∈Gd N g l s)(k:t∈p9 N g l):s∈p9 N g l:=by
 rw[<-Ql]
 refine aH.mpr ⟨aF.mpr hs,gw.mpr (.inr (cN.mpr ⟨t,h,by simpa using k⟩))⟩
theorem Nt{l:Plan}{C:Nat->Prop}(h0:∀s,s<N.length->isGoal g s=true->C s)(h1:∀s,s<N.length->∀t∈Gd N g l s,C t->C s):∀s∈p9 N g l,C s:=by
 unfold p9
 rw[vA]
 refine mS (P:=λ l=>∀s∈l,C s) (λ l hl s hs=>?_) _ _ λ s hs=>h0 s (aF.mp (aH.mp hs).1) (aH.mp hs).2
 obtain⟨a,b⟩:=aH.mp hs
 rcases gw.mp b with q | q
 ·exact hl s (by simpa using q)
 ·obtain⟨t,ht,q⟩:=cN.mp q
  exact h1 s (aF.mp a) t ht (hl t (by simpa using q))
theorem Aa{l:Plan}{s:Nat}{c:Choice}(hg:isGoal g s=false)(e:(choicesOf N s)[l.getD s 0]? = some c):Gd N g l s=c.ways.map λ w=>w.1:=by
 unfold Gd chosen
 rw[if_neg (by rw[hg];simp),e];rfl
def fC(N:Net)(g:Nat)(l:Plan)(s:Nat):Fr×List (Nat×Fr):=if isGoal g s=true then (one_,[]) else if (p9 N g l).contains s=false then (none_,[]) else (none_,((chosen N l s).map Choice.parts).getD [])
def Rp(N:Net)(g:Nat)(l:Plan)(v:Row):Plan:=changed N l (isGoal g) (λ _=>true) λ s c=>(at_ v s).less (c.behind v)
def qb(N:Net)(g:Nat)(l:Plan)(s:Nat):nV:=if isGoal g s=true then ⟨1,[],1⟩ else if (p9 N g l).contains s=false then ⟨1,[],0⟩ else match (choicesOf N s)[l.getD s 0]? with
 |some c=>lF 0 c
 |none=>⟨1,[],0⟩
theorem LO(l:Plan)(s:Nat):A0 (fC N g l s)=qb N g l s:=by
 unfold fC qb chosen
 split
 ·show (⟨1,[],val one_⟩:nV)=_
  rw[val_one]
 ·split
  ·show (⟨1,[],val none_⟩:nV)=_;rw[qG]
  ·cases (choicesOf N s)[l.getD s 0]? with
   |none=>
    show (⟨1,[],val none_⟩:nV)=_;rw[qG]
   |some c=>
    show (⟨1,c.parts.map λ y=>(y.1,val y.2),val none_⟩:nV)=_;rw[qG];rfl
theorem rH{l:Plan}{s:Nat}(h:isGoal g s=true):qb N g l s=⟨1,[],1⟩:=by unfold qb;rw[if_pos h]
theorem xu{l:Plan}{s:Nat}(hg:isGoal g s=false)(h:s ∉ p9 N g l):qb N g l s=⟨1,[],0⟩:=by
 unfold qb
 rw[if_neg (by rw[hg];simp),if_pos (by simpa using h)]
theorem xT{l:Plan}{s:Nat}(hg:isGoal g s=false)(h:s∈p9 N g l){c:Choice}(e:(choicesOf N s)[l.getD s 0]? = some c):qb N g l s=lF 0 c:=by
 unfold qb
 rw[if_neg (by rw[hg];simp),if_neg (by simpa using h),e]
theorem sM{l:Plan}{s:Nat}(hg:isGoal g s=false):qb N g l s=⟨1,[],0⟩\/(s∈p9 N g l/\∃c∈choicesOf N s,(choicesOf N s)[l.getD s 0]? = some c/\qb N g l s=lF 0 c):=by
 by_cases h:s∈p9 N g l
 ·cases e:(choicesOf N s)[l.getD s 0]? with
  |none=>
   left
   unfold qb;rw[if_neg (by rw[hg];simp),if_neg (by simpa using h),e]
  |some c=>exact .inr ⟨h,c,aq e,rfl,xT hg h e⟩
 ·exact .inl (xu hg h)
theorem xU(G:Good N)(l:Plan):Kc (qb N g l) N.length 16000:=G6 λ s hs=>by
 cases hg:isGoal g s with
 |true=>rw[rH hg];exact Ca N _
 |false=>
  rcases sM (N:=N) (l:=l) hg with e | ⟨_,c,hc,_,e⟩
  ·rw[e];exact Ca N _
  ·rw[e];exact oX G hc 0
theorem A5{l:Plan}{s:Nat}(ne:(qb N g l s).ways≠[]):isGoal g s=false/\s∈p9 N g l/\∃c∈choicesOf N s,(choicesOf N s)[l.getD s 0]? = some c/\qb N g l s=lF 0 c:=by
 have hg:isGoal g s=false:=by
  cases e:isGoal g s with
  |false=>rfl
  |true=>rw[rH e] at ne;exact absurd rfl ne
 rcases sM (N:=N) (l:=l) hg with e | h
 ·rw[e] at ne;exact absurd rfl ne
 ·exact⟨hg,h⟩
theorem pA(l:Plan):zb (qb N g l) N.length:=by
 intro C hne hC
 apply az
 intro no
 have out:∀s∈p9 N g l,¬C s:=Nt (λ s hs hg cs=>by rw[(A5 (hC s cs).2).1] at hg;cases hg) λ s hs t ht nt cs=>by
  obtain⟨hg,_,c,hc,e,er⟩:=A5 (hC s cs).2;rw[Aa hg e] at ht;obtain⟨w,hw,rfl⟩:=aB.mp ht;obtain⟨w',qY,e'⟩:=qH (r:=0) hw;exact no ⟨s,cs,w',by rw[er];exact qY,by rw[e'];exact nt⟩
 obtain⟨s,hs⟩:=hne
 exact out s (A5 (hC s hs).2).2.1 hs
def xC(N:Net)(g:Nat)(l:Plan)(s:Nat):Rat:=val (at_ (chances N g l) s)
theorem nP(G:Good N)(l:Plan):(chances N g l).length=N.length/\(∀s,s<N.length->BS (at_ (chances N g l) s))/\∀s,s<N.length->(qb N g l s).lhs s (xC N g l)=(qb N g l s).rhs:=by
 obtain⟨u,K⟩:=(pA (N:=N) (g:=g) l).keeps (xU G l)
 obtain⟨a,b,c⟩:=Bx (f:=fC N g l) (λ s hs=>by
  unfold fC
  split
  ·exact⟨G4,λ y hy=>by cases hy⟩
  ·split
   ·exact⟨qF,λ y hy=>by cases hy⟩
   ·refine⟨qF,λ y hy=>?_⟩;unfold chosen at hy
    cases e:(choicesOf N s)[l.getD s 0]? with
    |none=>rw[e] at hy;cases hy
    |some c=>rw[e] at hy;exact (A2 (lu G (aq e)).1 y hy).pos) (u:=u) (by
   have:(λ s=>A0 (fC N g l s))=qb N g l:=funext λ s=>LO l s
   rw[this];exact K)
 refine⟨a,b,λ s hs=>?_⟩
 have:=c s hs
 rw[LO] at this
 exact this
theorem LP(G:Good N){l:Plan}{s:Nat}(hs:s<N.length)(hg:isGoal g s=true):xC N g l s=1:=by
 have:=(nP (g:=g) G l).2.2 s hs
 rw[rH hg] at this
 have h2:1*xC N g l s-0=1:=this
 grind
theorem DJ(G:Good N){l:Plan}{s:Nat}(hs:s<N.length)(e:qb N g l s=⟨1,[],0⟩):xC N g l s=0:=by
 have:=(nP (g:=g) G l).2.2 s hs
 rw[e] at this
 have h2:1*xC N g l s-0=0:=this
 grind
theorem X8(G:Good N)(l:Plan):∀s,s<N.length->0<=xC N g l s:=by
 obtain⟨u,K⟩:=(pA (N:=N) (g:=g) l).keeps (xU G l)
 refine K.le (x:=λ _=>0) λ s hs=>?_
 rw[(nP G l).2.2 s hs,Qi]
 cases hg:isGoal g s with
 |true=>rw[rH hg];show (0:Rat)<=1;decide
 |false=>
  rcases sM (N:=N) (l:=l) hg with e | ⟨_,c,hc,_,e⟩
  ·rw[e];exact bG
  ·rw[e];exact bG
theorem Kf{M:Rat}{x:Nat->Rat}:∀{ws:List (Nat×Rat)},(∀w∈ws,x w.1=M)->wd ws x=wd ws (λ _=>1)*M
 |[],_=>by simp only[wd];grind
 |w::ws,h=>by
  have i:=Kf (x:=x) (ws:=ws) λ y hy=>h y (by simp[hy])
  have:=h w (by simp);simp only[wd];rw[i,this];grind
theorem Ab(G:Good N){s:Nat}{c:Choice}(hc:c∈choicesOf N s)(r:Rat):wd (lF r c).ways (λ _=>1)=1:=G5 (lu G hc).1
theorem DK(G:Good N){l:Plan}{s:Nat}(hs:s<N.length)(hg:isGoal g s=false){c:Choice}(e:(choicesOf N s)[l.getD s 0]? = some c):(lF 0 c).lhs s (xC N g l)=0:=by
 by_cases h:s∈p9 N g l
 ·have:=(nP (g:=g) G l).2.2 s hs
  rw[xT hg h e] at this;exact this
 ·have hc:=aq e
  have z:=DJ (g:=g) G hs (xu hg h);have a:wd (lF 0 c).ways (xC N g l)=wd (lF 0 c).ways (λ _=>1)*0:=Kf λ w hw=>by
   obtain⟨w',qY,ew⟩:=uR hw;rw[ew];have lt:=(lu G hc).2.1 w' qY;have no:w'.1 ∉ p9 N g l:=λ q=>h (DI hs (by rw[Aa hg e];exact aB.mpr ⟨w',qY,rfl⟩) q)
   have ng:isGoal g w'.1=false:=by
    cases q:isGoal g w'.1 with
    |false=>rfl
    |true=>exact absurd (IC lt q) no
   exact DJ G lt (xu ng no)
  show 1*xC N g l s-wd (lF 0 c).ways (xC N g l)=0;rw[a,z];grind
theorem Qm(G:Good N){l:Plan}{s:Nat}(hs:s<N.length){c:Choice}(hc:c∈choicesOf N s):(at_ (chances N g l) s).less (c.behind (chances N g l))=decide ((lF 0 c).lhs s (xC N g l)<0):=by
 obtain⟨_,b,_⟩:=nP (g:=g) G l
 obtain⟨p,e⟩:=F9 G b hc
 rw[Iu (b s hs).pos p,e]
 refine decide_eq_decide.mpr ?_
 show xC N g l s<wd (lF 0 c).ways (xC N g l)↔1*xC N g l s-wd (lF 0 c).ways (xC N g l)<0
 constructor<;>intro h<;>grind
theorem DL(G:Good N){l:Plan}{s:Nat}(hs:s<N.length)(hg:isGoal g s=false) :
  ((Rp N g l (chances N g l)).getD s 0=l.getD s 0/\∀c∈choicesOf N s,0<=(lF 0 c).lhs s (xC N g l)) \/
  ((Rp N g l (chances N g l)).getD s 0≠l.getD s 0/\∃c∈choicesOf N s,(choicesOf N s)[(Rp N g l (chances N g l)).getD s 0]? = some c/\(lF 0 c).lhs s (xC N g l)<0):=by
 rcases sL (l:=l) (stay:=isGoal g) (ok:=λ _=>true) (better:=λ s c=>(at_ (chances N g l) s).less (c.behind (chances N g l))) hs with ⟨st,e⟩ | ⟨st,⟨e,no⟩ | ⟨c,e,yes⟩⟩
 ·rw[hg] at st;cases st
 ·refine .inl ⟨e,λ c hc=>?_⟩
  have:=no c hc;rw[b9,Qm G hs hc,decide_eq_false_iff_not] at this;grind
 ·have e:(choicesOf N s)[(Rp N g l (chances N g l)).getD s 0]? = some c:=e
  have hc:=aq e;rw[b9,Qm G hs hc,decide_eq_true_eq] at yes;refine .inr ⟨λ z=>?_,c,hc,e,yes⟩;rw[z] at e;rw[DK G hs hg e] at yes;exact absurd yes (by grind)
theorem Qn(G:Good N){l:Plan}(F:EN N l){s:Nat}(hs:s<N.length)(h:s ∉ p9 N g (Rp N g l (chances N g l))):xC N g l s=0:=by
 generalize hl:Rp N g l (chances N g l)=l' at *
 apply az
 intro nz
 obtain⟨m,hm,cm,most⟩:=vt (v:=xC N g l) N.length (λ t=>t ∉ p9 N g l') ⟨s,hs,h⟩
 have m0:0<xC N g l m:=by
  have a:=most s hs h;have b:=X8 (g:=g) G l s hs;grind
 have key:∀t,(t<N.length/\t ∉ p9 N g l'/\xC N g l t=xC N g l m)->∃c∈choicesOf N t,(choicesOf N t)[l.getD t 0]? = some c/\qb N g l t=lF 0 c/\∀w∈c.ways,(w.1<N.length/\w.1 ∉ p9 N g l'/\xC N g l w.1=xC N g l m):=λ t ⟨tn,tc,te⟩=>by
  have tg:isGoal g t=false:=by
   cases q:isGoal g t with
   |false=>rfl
   |true=>exact absurd (IC tn q) tc
  have row:∃c∈choicesOf N t,(choicesOf N t)[l.getD t 0]? = some c/\qb N g l t=lF 0 c:=by
   rcases sM (N:=N) (l:=l) tg with e | ⟨_,c,hc,e1,e2⟩
   ·have:=DJ G tn e;rw[te] at this;exact absurd m0 (by rw[this];grind)
   ·exact⟨c,hc,e1,e2⟩
  have stay:∀c∈choicesOf N t,(choicesOf N t)[l'.getD t 0]? = some c->(lF 0 c).lhs t (xC N g l)<=0->(lF 0 c).lhs t (xC N g l)=0/\∀w∈c.ways,(w.1<N.length/\w.1 ∉ p9 N g l'/\xC N g l w.1=xC N g l m):=λ c hc e le=>by
   have Qo:∀w∈c.ways,w.1<N.length/\w.1 ∉ p9 N g l':=λ w hw=>⟨(lu G hc).2.1 w hw,λ q=>tc (DI tn (by rw[Aa tg e];exact aB.mpr ⟨w,hw,rfl⟩) q)⟩
   obtain⟨b1,b2⟩:=z9 (v:=xC N g l) (M:=xC N g l m) (ws:=(lF 0 c).ways) λ w hw=>by
    obtain⟨w',qY,ew⟩:=uR hw;obtain⟨i1,i2⟩:=Qo w' qY;exact⟨((oX G hc 0).way w hw).2.1,by rw[ew];exact most _ i1 i2⟩
   rw[Ab G hc] at b1 b2;have le2:1*xC N g l t-wd (lF 0 c).ways (xC N g l)<=0:=le;have eq:wd (lF 0 c).ways (xC N g l)=1*xC N g l m:=by rw[te] at le2;grind
   refine⟨?_,λ w hw=>?_⟩
   ·show 1*xC N g l t-wd (lF 0 c).ways (xC N g l)=0;rw[eq,te];grind
   ·obtain⟨w',h1,h2⟩:=qH (r:=0) hw;have:=b2 eq w' h1;rw[h2] at this;exact⟨(Qo w hw).1,(Qo w hw).2,this⟩
  have ch:=DL (g:=g) (l:=l) G tn tg;rw[hl] at ch;obtain⟨c,hc,e1,e2⟩:=row
  rcases ch with ⟨same,_⟩ | ⟨_,c',hc',e',lt⟩
  ·exact⟨c,hc,e1,e2,(stay c hc (by rw[same];exact e1) (by rw[DK G tn tg e1];exact bG)).2⟩
  ·have:=(stay c' hc' e' (bR lt)).1;rw[this] at lt;exact absurd lt (by grind)
 obtain⟨t,ct,w,hw,nw⟩:=pA (N:=N) (g:=g) l (λ t=>t<N.length/\t ∉ p9 N g l'/\xC N g l t=xC N g l m) ⟨m,hm,cm,rfl⟩ λ t ht=>by
  obtain⟨c,hc,_,e,_⟩:=key t ht;refine⟨ht.1,?_⟩;rw[e];intro z;obtain⟨w,hw⟩:=cI _ (xR G hc);obtain⟨w',h1,_⟩:=qH (r:=0) hw;rw[z] at h1;cases h1
 obtain⟨c,hc,_,e,cl⟩:=key t ct
 rw[e] at hw
 obtain⟨w',qY,ew⟩:=uR hw
 rw[ew] at nw
 exact nw (cl w' qY)
theorem Kg(G:Good N):∃l,EN N l/\best N g=chances N g l/\Rp N g l (chances N g l)=l:=by
 refine DB G (chances N g) (Rp N g) (first N) (EN N) (xC N g) (F8 N) (λ _ h=>h) (λ l F=>F.change _ _ _) λ l F=>?_
 have ch:=λ s (hs:s<N.length) hg=>DL (g:=g) (l:=l) (s:=s) G hs hg
 have oz:=λ s (hs:s<N.length) h=>Qn (g:=g) (l:=l) (s:=s) G F hs h
 have st:∀s,s<N.length->isGoal g s=true->(Rp N g l (chances N g l)).getD s 0=l.getD s 0:=λ s hs hg=>by
  rcases sL (l:=l) (stay:=isGoal g) (ok:=λ _=>true) (better:=λ s c=>(at_ (chances N g l) s).less (c.behind (chances N g l))) hs with ⟨_,e⟩ | ⟨q,_⟩
  ·exact e
  ·rw[hg] at q;cases q
 generalize Rp N g l (chances N g l)=l' at *
 obtain⟨u,K⟩:=(pA (N:=N) (g:=g) l').keeps (xU G l')
 have rows:∀s,s<N.length->(qb N g l' s).lhs s (xC N g l)<=(qb N g l' s).rhs/\(l'.getD s 0≠l.getD s 0->isGoal g s=false->(qb N g l' s).lhs s (xC N g l)<(qb N g l' s).rhs):=λ s hs=>by
  cases hg:isGoal g s with
  |true=>
   refine⟨?_,λ _ z=>by cases z⟩;rw[rH hg];show 1*xC N g l s-0<=1;rw[LP G hs hg];grind
  |false=>
   by_cases hc':s∈p9 N g l'
   ·rcases ch s hs hg with ⟨same,_⟩ | ⟨_,c,hc,e,lt⟩
    ·refine⟨?_,λ z=>absurd same z⟩
     rcases sM (N:=N) (l:=l') hg with e | ⟨_,c,hc,e1,e2⟩
     ·-- no choice at all
      have none:(choicesOf N s)[l'.getD s 0]? = none:=by
       cases q:(choicesOf N s)[l'.getD s 0]? with
       |none=>rfl
       |some c=>
        exfalso
        rw[xT hg hc' q] at e;have e2:=congrArg nV.ways e;obtain⟨w,hw⟩:=cI _ (xR G (aq q));obtain⟨w',h1,_⟩:=qH (r:=0) hw;rw[e2] at h1;cases h1
      have z:xC N g l s=0:=DJ G hs (by
       by_cases h:s∈p9 N g l
       ·unfold qb;rw[if_neg (by rw[hg];simp),if_neg (by simpa using h),<-same,none]
       ·exact xu hg h)
      rw[e];show 1*xC N g l s-0<=0;rw[z];grind
     ·rw[e2,DK G hs hg (by rw[<-same];exact e1)];exact bG
    ·rw[xT hg hc' e];exact⟨bR lt,λ _ _=>lt⟩
   ·have z:=oz s hs hc';refine⟨?_,λ ne _=>?_⟩
    ·rw[xu hg hc'];show 1*xC N g l s-0<=0;rw[z];grind
    ·exfalso
     rcases ch s hs hg with ⟨same,_⟩ | ⟨_,c,hc,e,lt⟩
     ·exact ne same
     ·have a:wd (lF 0 c).ways (xC N g l)=wd (lF 0 c).ways (λ _=>1)*0:=Kf λ w hw=>by
       obtain⟨w',qY,ew⟩:=uR hw;rw[ew];exact oz _ ((lu G hc).2.1 w' qY) λ q=>hc' (DI hs (by rw[Aa hg e];exact aB.mpr ⟨w',qY,rfl⟩) q)
      have lt:1*xC N g l s-wd (lF 0 c).ways (xC N g l)<0:=lt;rw[a,z] at lt;exact absurd lt (by grind)
 obtain⟨g1,g2⟩:=K.better (x:=xC N g l) (nP G l').2.2 λ s hs=>(rows s hs).1
 refine⟨g1,λ s hs z=>g2 s hs ((rows s hs).2 z ?_)⟩
 cases hg:isGoal g s with
 |false=>rfl
 |true=>exact absurd (st s hs hg) z
end
section
variable{N:Net}{g:Nat}
theorem xw{s:Nat}(h:s<N.length):(m9 N g).getD s 0=if isGoal g s=true then 1 else 0:=by
 simp only[m9,aa,ai,aL h,bH,dJ]
theorem qc:pV (m9 N g) N.length where
 len:=by simp[m9]
 bit:=λ s=>by
  by_cases h:s<N.length
  ·rw[xw h];split
   ·exact .inr rfl
   ·exact .inl rfl
  ·rw[aa,bA (by simpa [m9] using h)];exact .inl rfl
theorem DM{s:Nat}(h:s<N.length):on (m9 N g) s↔isGoal g s=true:=by
 unfold on
 rw[xw h]
 split
 ·rename_i e;exact⟨λ _=>e,λ _=>by decide⟩
 ·rename_i e;exact⟨λ z=>absurd rfl z,λ z=>absurd z e⟩
end
def stays(r:List Int)(o:kZ):Bool:=o.ways.all λ w=>decide (r.getD w.1 0≠0)
theorem rJ{r:List Int}{o:kZ}:stays r o=true↔∀w∈o.ways,on r w.1:=by
 unfold stays on
 simp
abbrev Nu:=List Int×List (List kZ)
def mZ(m:List Int)(n:Nat)(x:Nu):Nu:=((rE x.2 m n).1,x.2.map λ os=>os.filter (stays (rE x.2 m n).1))
def ones(n:Nat):List Int:=(ay n).map λ _=>1
def BB(jr:List (List kZ))(m:List Int)(n:Nat):Nu:=iter (mZ m n) n (ones n,jr)
theorem Ac{n s:Nat}(h:s<n):(ones n).getD s 0=1:=by
 unfold ones
 rw[aa,ai,aL h];rfl
theorem Nv(n:Nat):pV (ones n) n:=⟨by simp[ones],λ s=>by
 by_cases h:s<n
 ·exact .inr (Ac h)
 ·rw[aa,bA (by simpa [ones] using h)];exact .inl rfl⟩
theorem UI{m:List Int}{n s:Nat}(B:pV m n)(h:on m s):s<n:=by
 apply az
 intro q
 unfold on at h
 rw[aa,bA (by rw[B.len];omega)] at h
 exact h rfl
theorem Ad{jr:List (List kZ)}{p:kZ->Bool}{s:Nat}:(jr.map λ os=>os.filter p).getD s []=(jr.getD s []).filter p:=by
 rw[aa,aa,ai]
 cases jr[s]? <;> rfl
structure uc(jr:List (List kZ))(m:List Int)(n:Nat)(x:Nu):Prop where
 bits:pV x.1 n
 old:UH m x.1
 jr:x.2=jr.map λ os=>os.filter (stays x.1)
 out:∀s,s<n->¬on x.1 s->x.2.getD s []=[]
section
variable{jr:List (List kZ)}{m:List Int}{n:Nat}
theorem xV(B:pV m n)(hw:∀os∈jr,∀o∈os,∀w∈o.ways,w.1<n):uc jr m n (ones n,jr) where
 bits:=Nv n
 old:=λ s h=>by
  show (ones n).getD s 0≠0;rw[Ac (UI B h)];decide
 jr:=by
  show jr=jr.map λ os=>os.filter (stays (ones n))
  have:∀l:List (List kZ),(∀os∈l,∀o∈os,∀w∈o.ways,w.1<n)->l=l.map λ os=>os.filter (stays (ones n)):=λ l=>by
   induction l with
   |nil=>intro _;rfl
   |cons os l ih=>
    intro h;rw[aS,<-ih λ x hx=>h x (by simp[hx])]
    congr 1
    refine (List.filter_eq_self.mpr λ o ho=>rJ.mpr λ w qY=>?_).symm;show (ones n).getD w.1 0≠0;rw[Ac (h os (by simp) o ho w qY)];decide
  exact this jr hw
 out:=λ s hs h=>absurd (show on (ones n) s by unfold on;rw[Ac hs];decide) h
theorem uT(B:pV m n)(hne:∀os∈jr,∀o∈os,o.ways≠[]){x:Nu}(S:uc jr m n x):uc jr m n (mZ m n x)/\UH (mZ m n x).1 x.1:=by
 have T:=DH (jr:=x.2) B
 have le:UH (rE x.2 m n).1 x.1:=λ s h=>by
  have hs:=UI T.bits h
  rcases T.from_ s h with q | q
  ·exact S.old s q
  ·have lt:=(T.at_ s hs q).1;apply az
   intro z;rw[S.out s hs z] at lt;exact absurd lt (gi _)
 refine⟨⟨T.bits,T.old,?_,λ s hs h=>?_⟩,le⟩
 ·show (x.2.map λ os=>os.filter (stays (rE x.2 m n).1))=jr.map λ os=>os.filter (stays (rE x.2 m n).1)
  generalize rE x.2 m n=y at *
  rw[S.jr,dO];refine iX λ os _=>?_
  show (os.filter (stays x.1)).filter (stays y.1)=_;rw[List.filter_filter];refine gY λ o _=>?_
  cases e:stays y.1 o with
  |false=>rfl
  |true=>exact rJ.mpr λ w hw=>le _ (rJ.mp e w hw)
 ·show (x.2.map λ os=>os.filter (stays (rE x.2 m n).1)).getD s []=[]
  rw[Ad];refine List.filter_eq_nil_iff.mpr λ o ho st=>?_
  have no:=LN B hs h o ho;have ho':o∈(jr.getD s []).filter (stays x.1):=by
   have:=S.jr;rw[this,Ad] at ho;exact ho
  have hm:=(aH.mp ho').1;have hos:jr.getD s []∈jr:=z4 (λ z=>by rw[cy.mp z] at hm;cases hm);obtain⟨w,hw⟩:=cI _ (hne _ hos o hm);have yes:=A4.mpr ⟨w,hw,rJ.mp st w hw⟩;rw[yes] at no;cases no
theorem S3(B:pV m n)(hw:∀os∈jr,∀o∈os,∀w∈o.ways,w.1<n)(hne:∀os∈jr,∀o∈os,o.ways≠[]):uc jr m n (BB jr m n):=mS (P:=uc jr m n) (λ _ S=>(uT B hne S).1) n _ (xV B hw)
theorem Ny(B:pV m n)(hw:∀os∈jr,∀o∈os,∀w∈o.ways,w.1<n)(hne:∀os∈jr,∀o∈os,o.ways≠[]):(rE (BB jr m n).2 m n).1=(BB jr m n).1:=by
 have:mZ m n (BB jr m n)=BB jr m n:=
  uQ (mZ m n) (λ x=>n-cnt n x.1) n (uc jr m n) (λ _ S=>(uT B hne S).1) (λ x _=>by omega) (λ x S ne=>by
   obtain⟨S',le⟩:=uT B hne S;have n1:x.1≠(mZ m n x).1:=λ e=>ne (by
    have e2:=S'.jr;rw[<-e,<-S.jr] at e2;exact gH e.symm e2)
   have:=Qh S'.bits S.bits le n1;have:=Qg n x.1;omega) n _ (xV B hw) (by omega)
 exact congrArg Prod.fst this
theorem Kl(B:pV m n)(hw:∀os∈jr,∀o∈os,∀w∈o.ways,w.1<n)(hne:∀os∈jr,∀o∈os,o.ways≠[]){D:Nat->Prop}{ch:Nat->kZ}(h1:∀s,D s->s<n)(h2:∀s,D s->¬on m s->ch s∈jr.getD s []/\∀w∈(ch s).ways,D w.1)
  (h3:∀C:Nat->Prop,(∃s,C s)->(∀s,C s->D s/\¬on m s)->∃s,C s/\∃w∈(ch s).ways,¬C w.1):∀s,D s->on (BB jr m n).1 s:=by
 refine (mS (P:=λ x=>uc jr m n x/\∀s,D s->on x.1 s) (λ x ⟨S,h⟩=>⟨(uT B hne S).1,λ s hs=>?_⟩) n _ ⟨xV B hw,λ s hs=>by
  show (ones n).getD s 0≠0;rw[Ac (h1 s hs)];decide⟩).2
 apply az
 intro no
 have T:=DH (jr:=x.2) B
 obtain⟨t,⟨dt,nt⟩,w,qY,nw⟩:=h3 (λ s=>D s/\¬on (rE x.2 m n).1 s) ⟨s,hs,no⟩ λ s hs=>⟨hs.1,λ z=>hs.2 (T.old s z)⟩
 obtain⟨c1,c2⟩:=h2 t dt λ z=>nt (T.old t z)
 have yes:on (rE x.2 m n).1 w.1:=by
  apply az
  intro z;exact nw ⟨c2 w qY,z⟩
 have:=LN B (h1 t dt) nt (ch t) (by
  rw[S.jr,Ad];exact aH.mpr ⟨c1,rJ.mpr λ w hw=>h _ (c2 w hw)⟩)
 rw[A4.mpr ⟨w,qY,yes⟩] at this
 cases this
end
section
variable{N:Net}{g:Nat}
def Qp(N:Net)(g:Nat):Nu:=BB (sF N g (-1)) (m9 N g) N.length
abbrev rN(N:Net)(g:Nat):List Int:=(Qp N g).1
def jN(N:Net)(g:Nat):List (List kZ):=(Qp N g).2
def VY(N:Net)(g:Nat):Js:=rE (jN N g) (m9 N g) N.length
def tM(N:Net)(g:Nat):List Int:=(VY N g).2
theorem DN{m:Int}{os:List kZ}(h:os∈sF N g m):∀o∈os,∃s,∃c∈choicesOf N s,o=kX m c:=λ o ho=>by
 obtain⟨s,hs,rfl⟩:=aB.mp h
 split at ho
 ·cases ho
 ·obtain⟨c,hc,rfl⟩:=aB.mp ho
  exact⟨s,c,hc,rfl⟩
theorem vB(G:Good N){m:Int}:(∀os∈sF N g m,∀o∈os,∀w∈o.ways,w.1<N.length)/\∀os∈sF N g m,∀o∈os,o.ways≠[]:=by
 refine⟨λ os hos o ho w hw=>?_,λ os hos o ho=>?_⟩
 ·obtain⟨s,c,hc,rfl⟩:=DN hos o ho
  exact (lu G hc).2.1 w hw
 ·obtain⟨s,c,hc,rfl⟩:=DN hos o ho
  exact xR G hc
theorem A6(G:Good N):uc (sF N g (-1)) (m9 N g) N.length (Qp N g):=S3 qc (vB G).1 (vB G).2
theorem Qq(G:Good N):pJ (jN N g) (m9 N g) N.length (VY N g)/\(VY N g).1=rN N g:=⟨DH qc,Ny qc (vB G).1 (vB G).2⟩
def Ae(N:Net)(g:Nat)(c:Choice):Bool:=stays (rN N g) (kX (-1) c)
theorem A7{c:Choice}:Ae N g c=true↔∀w∈c.ways,on (rN N g) w.1:=rJ (o:=kX (-1) c)
theorem xx(G:Good N){s:Nat}(hs:s<N.length)(hg:isGoal g s=false):(jN N g).getD s []=((choicesOf N s).filter (Ae N g)).map (kX (-1)):=by
 have e:jN N g=(sF N g (-1)).map λ os=>os.filter (stays (rN N g)):=(A6 G).jr
 rw[e,Ad,G7 hs,if_neg (by rw[hg];simp),List.filter_map];rfl
theorem DO(G:Good N){s:Nat}(hs:s<N.length)(hg:isGoal g s=true):(jN N g).getD s []=[]:=by
 have e:jN N g=(sF N g (-1)).map λ os=>os.filter (stays (rN N g)):=(A6 G).jr
 rw[e,Ad,G7 hs,if_pos hg];rfl
theorem A8(G:Good N){os:List kZ}(h:os∈jN N g):∀o∈os,∃s,∃c∈choicesOf N s,o=kX (-1) c:=λ o ho=>by
 have e:jN N g=(sF N g (-1)).map λ os=>os.filter (stays (rN N g)):=(A6 G).jr
 rw[e] at h
 obtain⟨os',h',rfl⟩:=aB.mp h
 exact DN h' o (aH.mp ho).1
theorem qI(G:Good N):(∀os∈jN N g,∀o∈os,∀w∈o.ways,w.1<N.length)/\∀os∈jN N g,∀o∈os,0<o.tot:=by
 refine⟨λ os hos o ho w hw=>?_,λ os hos o ho=>?_⟩
 ·obtain⟨s,c,hc,rfl⟩:=A8 G hos o ho
  exact (lu G hc).2.1 w hw
 ·obtain⟨s,c,hc,rfl⟩:=A8 G hos o ho
  have:=(lu G hc).1;show (0:Int)<((c.weight:Nat):Int);omega
theorem Af(G:Good N){s:Nat}(hs:s<N.length)(hr:on (rN N g) s)(hg:isGoal g s=false):0<=(tM N g).getD s 0/\∃c∈choicesOf N s,Ae N g c=true/\((jN N g).getD s []).getD ((tM N g).getD s 0).toNat jR=kX (-1) c:=by
 obtain⟨T,e⟩:=Qq (g:=g) G
 have hp:0<=(tM N g).getD s 0:=(T.from_ s (by rw[e];exact hr)).resolve_left λ z=>by
  rw[(DM hs).mp z] at hg;cases hg
 refine⟨hp,?_⟩
 have lt:=(T.at_ s hs hp).1
 have lt:((tM N g).getD s 0).toNat<((jN N g).getD s []).length:=lt
 rw[xx G hs hg] at lt ⊢
 rw[ah] at lt
 have hm:=aV lt
 refine⟨_,(aH.mp hm).1,(aH.mp hm).2,?_⟩
 rw[aa,ai,af lt];rfl
theorem Qs(G:Good N){C:Nat->Prop}(hne:∃s,C s)(hC:∀s,C s->s<N.length/\on (rN N g) s/\isGoal g s=false):∃s,C s/\∃c∈choicesOf N s,Ae N g c=true/\((jN N g).getD s []).getD ((tM N g).getD s 0).toNat jR=kX (-1) c/\∃w∈c.ways,¬C w.1/\on (rN N g) w.1:=by
 obtain⟨T,e⟩:=Qq (g:=g) G
 obtain⟨s,cs,w,hw,nw,ow⟩:=T.well C hne λ s hs=>⟨(hC s hs).1,(Af G (hC s hs).1 (hC s hs).2.1 (hC s hs).2.2).1⟩
 obtain⟨_,c,hc,st,eo⟩:=Af G (hC s cs).1 (hC s cs).2.1 (hC s cs).2.2
 have hw:w∈(((jN N g).getD s []).getD ((tM N g).getD s 0).toNat jR).ways:=hw
 rw[eo] at hw
 rw[e] at ow
 exact⟨s,cs,c,hc,st,eo,w,hw,nw,ow⟩
theorem UJ(G:Good N)(l:Plan):∀s,s<N.length->xC N g l s<=1:=by
 obtain⟨u,K⟩:=(pA (N:=N) (g:=g) l).keeps (xU G l)
 refine K.le (y:=λ _=>1) λ s hs=>?_
 rw[(nP G l).2.2 s hs]
 cases hg:isGoal g s with
 |true=>rw[rH hg];show (1:Rat)<=1*1-0;grind
 |false=>
  rcases sM (N:=N) (l:=l) hg with e | ⟨_,c,hc,_,e⟩
  ·rw[e];show (0:Rat)<=1*1-0;grind
  ·rw[e];show (0:Rat)<=1*1-wd (lF 0 c).ways (λ _=>1);rw[Ab G hc];grind
theorem oA(G:Good N){s:Nat}:s∈sure N g↔s<N.length/\on (rN N g) s:=by
 obtain⟨l,FS,es,fx⟩:=Kg (g:=g) G
 obtain⟨sl,Qt,sv⟩:=nP (g:=g) G l
 have rest:∀s,s<N.length->isGoal g s=false->∀c∈choicesOf N s,0<=(lF 0 c).lhs s (xC N g l):=λ s hs hg=>by
  rcases DL (l:=l) G hs hg with ⟨_,q⟩ | ⟨q,_⟩
  ·exact q
  ·rw[fx] at q;exact absurd rfl q
 have one:∀s,s<N.length->((at_ (best N g) s==one_)=true↔xC N g l s=1):=λ s hs=>by
  rw[es,beq_iff_eq]
  constructor
  ·intro e;unfold xC;rw[e];exact val_one
  ·intro e;exact (Qt s hs).eq G4 (by rw[val_one];exact e)
 have key:∀s,s<N.length->(xC N g l s=1↔on (rN N g) s):=λ s hs=>by
  constructor
  ·intro e
   let ch:Nat->kZ:=λ s=>kX (-1) ((choicesOf N s).getD (l.getD s 0) ⟨[],0,[]⟩)
   have row:∀t,t<N.length->xC N g l t=1->isGoal g t=false->∃c∈choicesOf N t,(choicesOf N t)[l.getD t 0]? = some c/\qb N g l t=lF 0 c/\ch t=kX (-1) c/\∀w∈c.ways,w.1<N.length/\xC N g l w.1=1:=λ t ht et tg=>by
    rcases sM (N:=N) (l:=l) tg with q | ⟨_,c,hc,e1,e2⟩
    ·have:=DJ G ht q;rw[et] at this;exact absurd this (by decide)
    ·refine⟨c,hc,e1,e2,by show kX (-1) ((choicesOf N t).getD (l.getD t 0) ⟨[],0,[]⟩)=_;rw[aa (l:=choicesOf N t),e1];rfl,λ w hw=>?_⟩;have wn:=(lu G hc).2.1 w hw;refine⟨wn,?_⟩;have v:=sv t ht;rw[e2] at v;have v:1*xC N g l t-wd (lF 0 c).ways (xC N g l)=0:=v;obtain⟨_,b2⟩:=z9 (v:=xC N g l) (M:=1) (ws:=(lF 0 c).ways) λ w hw=>⟨((oX G hc 0).way w hw).2.1,UJ G l _ ((oX G hc 0).way w hw).1⟩
     rw[Ab G hc] at b2;obtain⟨w',h1,h2⟩:=qH (r:=0) hw;have:=b2 (by rw[et] at v;grind) w' h1;rw[h2] at this;exact this
   refine Kl (jr:=sF N g (-1)) (m:=m9 N g) (n:=N.length) qc (vB G).1 (vB G).2 (D:=λ t=>t<N.length/\xC N g l t=1) (ch:=ch) (λ t h=>h.1) (λ t h nm=>?_) (λ C hne hC=>?_) s ⟨hs,e⟩
   ·have tg:isGoal g t=false:=by
     cases q:isGoal g t with
     |false=>rfl
     |true=>exact absurd ((DM h.1).mpr q) nm
    obtain⟨c,hc,_,_,ec,hw⟩:=row t h.1 h.2 tg;rw[ec];exact⟨by rw[G7 h.1,if_neg (by rw[tg];simp)];exact aB.mpr ⟨c,hc,rfl⟩,hw⟩
   ·have tg:∀t,C t->isGoal g t=false:=λ t ht=>by
     cases q:isGoal g t with
     |false=>rfl
     |true=>exact absurd ((DM (hC t ht).1.1).mpr q) (hC t ht).2
    obtain⟨t,ct,w,hw,nw⟩:=pA (N:=N) (g:=g) l C hne λ t ht=>by
     obtain⟨c,hc,_,e2,_⟩:=row t (hC t ht).1.1 (hC t ht).1.2 (tg t ht);refine⟨(hC t ht).1.1,?_⟩;rw[e2];intro z;obtain⟨w,hw⟩:=cI _ (xR G hc);obtain⟨w',h1,_⟩:=qH (r:=0) hw;rw[z] at h1;cases h1
    obtain⟨c,hc,_,e2,ec,_⟩:=row t (hC t ct).1.1 (hC t ct).1.2 (tg t ct);rw[e2] at hw;obtain⟨w',qY,ew⟩:=uR hw;exact⟨t,ct,w',by rw[ec];exact qY,by rw[<-ew];exact nw⟩
  ·intro h;apply az
   intro ne;obtain⟨m,hm,cm,most⟩:=vt (v:=λ t=>- xC N g l t) N.length (λ t=>on (rN N g) t) ⟨s,hs,h⟩;have m1:xC N g l m<1:=by
    have a:=most s hs h;have b:=UJ (g:=g) G l s hs;grind
   have tg:∀t,t<N.length->xC N g l t=xC N g l m->isGoal g t=false:=λ t ht et=>by
    cases q:isGoal g t with
    |false=>rfl
    |true=>
     have:=LP (l:=l) G ht q;rw[et] at this;exact absurd m1 (by rw[this];grind)
   obtain⟨t,⟨tn,tr,te⟩,c,hc,st,_,w,hw,nw,ow⟩:=Qs (g:=g) G (C:=λ t=>t<N.length/\on (rN N g) t/\xC N g l t=xC N g l m) ⟨m,hm,cm,rfl⟩ λ t ht=>⟨ht.1,ht.2.1,tg t ht.1 ht.2.2⟩
   refine nw ⟨(lu G hc).2.1 w hw,ow,?_⟩;have b:=rest t tn (tg t tn te) c hc;have b:0<=1*xC N g l t-wd (lF 0 c).ways (xC N g l):=b;obtain⟨w1,w2⟩:=z9 (v:=λ t=>- xC N g l t) (M:=- xC N g l m) (ws:=(lF 0 c).ways) λ w hw=>by
    obtain⟨w',qY,ew⟩:=uR hw;refine⟨((oX G hc 0).way w hw).2.1,?_⟩;rw[ew];exact most _ ((lu G hc).2.1 w' qY) (A7.mp st w' qY)
   rw[Ab G hc,Qj] at w1 w2;obtain⟨w',h1,h2⟩:=qH (r:=0) hw;have:=w2 (by rw[te] at b;grind) w' h1;rw[h2] at this;grind
 unfold sure
 constructor
 ·intro h
  obtain⟨a,b⟩:=aH.mp h;have hs:=aF.mp a;exact⟨hs,(key s hs).mp ((one s hs).mp b)⟩
 ·rintro⟨hs,h⟩
  exact aH.mpr ⟨aF.mpr hs,(one s hs).mpr ((key s hs).mpr h)⟩
end
section
variable{N:Net}{g:Nat}
theorem Cb(G:Good N){s:Nat}{c:Choice}(hc:c∈choicesOf N s):staying (sure N g) c=Ae N g c:=by
 cases e:Ae N g c with
 |true=>
  refine bz.mpr λ w hw=>?_
  have:=(oA G).mpr ⟨(lu G hc).2.1 w hw,A7.mp e w hw⟩
  simpa using this
 |false=>
  cases q:staying (sure N g) c with
  |false=>rfl
  |true=>
   exfalso
   have:Ae N g c=true:=A7.mpr λ w hw=>by
    have:=bz.mp q w hw;exact ((oA G).mp (by simpa using this)).2
   rw[e] at this;cases this
abbrev Kp:=List Nat×Plan
def found(N:Net)(l:List Nat)(k:List Nat):List Nat:=l.filter λ s=>!k.contains s&&(choicesOf N s).any λ c=>staying l c&&c.ways.any λ w=>k.contains w.1
def kD(N:Net)(l:List Nat)(x:Kp):Kp:=(x.1++found N l x.1,(ay N.length).map λ s=>if (found N l x.1).contains s=true then ((choicesOf N s).findIdx? λ c=>staying l c&&c.ways.any λ w=>x.1.contains w.1).getD 0 else x.2.getD s 0)
theorem Ge(l:List Nat):∀(f:Nat) (k:List Nat) (p:Plan),nearer N l f k p=(iter (kD N l) f (k,p)).2
 |0,_,_=>rfl
 |f+1,k,p=>Ge l f _ _
structure A9(N:Net)(g:Nat)(l:List Nat)(x:Kp):Prop where
 fit:EN N x.2
 gl:∀s,s<N.length->isGoal g s=true->s∈x.1
 ch:∀s,s∈x.1->isGoal g s=false->∃c∈choicesOf N s,(choicesOf N s)[x.2.getD s 0]? = some c/\staying l c=true
 well:∀C:Nat->Prop,(∃s,C s)->(∀s,C s->s∈x.1/\isGoal g s=false)->∃s,C s/\∃c,(choicesOf N s)[x.2.getD s 0]? = some c/\∃w∈c.ways,¬C w.1/\w.1∈x.1
theorem Gf(l:List Nat):A9 N g l (goals N g,first N) where
 fit:=F8 N
 gl:=λ s hs h=>aH.mpr ⟨aF.mpr hs,h⟩
 ch:=λ s hs h=>by
  have:=(aH.mp hs).2;rw[h] at this;cases this
 well:=λ C hne hC=>by
  obtain⟨s,hs⟩:=hne;obtain⟨a,b⟩:=hC s hs;have:=(aH.mp a).2;rw[b] at this;cases this
theorem Gg{l:List Nat}(hl:∀s∈l,s<N.length){x:Kp}(K:A9 N g l x):A9 N g l (kD N l x):=by
 have VZ:∀s,s<N.length->(kD N l x).2.getD s 0=if (found N l x.1).contains s=true then ((choicesOf N s).findIdx? λ c=>staying l c&&c.ways.any λ w=>x.1.contains w.1).getD 0 else x.2.getD s 0:=λ s hs=>by
  simp[kD,aa,ai,aL hs]
 have Y5:∀s,s∈found N l x.1->s<N.length/\s ∉ x.1/\∃c∈choicesOf N s,(choicesOf N s)[(kD N l x).2.getD s 0]? = some c/\staying l c=true/\∃w∈c.ways,w.1∈x.1:=λ s hs=>by
  obtain⟨a,b⟩:=aH.mp hs;obtain⟨b1,b2⟩:=bU.mp b;have sn:=hl s a;refine⟨sn,by simpa using b1,?_⟩;rw[VZ s sn,if_pos (by simpa using hs)]
  cases q:(choicesOf N s).findIdx? λ c=>staying l c&&c.ways.any λ w=>x.1.contains w.1 with
  |none=>
   rw[dg] at q;obtain⟨c,hc,e⟩:=cN.mp b2;rw[q c hc] at e;cases e
  |some j=>
   rw[bP] at q;obtain⟨hj,e,_⟩:=q;obtain⟨e1,e2⟩:=bU.mp e;obtain⟨w,hw,e3⟩:=cN.mp e2;exact⟨_,aV hj,af hj,e1,w,hw,by simpa using e3⟩
 have same:∀s,s<N.length->s∈x.1->(kD N l x).2.getD s 0=x.2.getD s 0:=λ s hs h=>by
  rw[VZ s hs,if_neg];intro z;exact (Y5 s (by simpa using z)).2.1 h
 refine⟨⟨by simp[kD],λ s hs=>?_⟩,λ s hs h=>aY.mpr (.inl (K.gl s hs h)),λ s hs h=>?_,λ C hne hC=>?_⟩
 ·by_cases q:s∈found N l x.1
  ·obtain⟨_,_,c,_,e,_⟩:=Y5 s q;have:=(ao.mp e).1;omega
  ·rw[VZ s hs,if_neg (by simpa using q)];exact K.fit.at_ s hs
 ·rcases aY.mp hs with q | q
  ·obtain⟨c,hc,e,st⟩:=K.ch s q h;have sn:s<N.length:=by
    apply az
    intro z;have:choicesOf N s=[]:=by unfold choicesOf;rw[bA (by omega)];rfl
    rw[this] at hc;cases hc
   exact⟨c,hc,by rw[same s sn q];exact e,st⟩
  ·obtain⟨_,_,c,hc,e,st,_⟩:=Y5 s q;exact⟨c,hc,e,st⟩
 ·by_cases q:∃s,C s/\s∈x.1
  ·obtain⟨s,⟨cs,ks⟩,c,e,w,hw,nw,kw⟩:=K.well (λ s=>C s/\s∈x.1) q λ s hs=>⟨hs.2,(hC s hs.1).2⟩
   have sn:s<N.length:=by
    apply az
    intro z;have:choicesOf N s=[]:=by unfold choicesOf;rw[bA (by omega)];rfl
    rw[this] at e;cases e
   exact⟨s,cs,c,by rw[same s sn ks];exact e,w,hw,λ z=>nw ⟨z,kw⟩,aY.mpr (.inl kw)⟩
  ·obtain⟨s,cs⟩:=hne;have hf:s∈found N l x.1:=by
    rcases aY.mp (hC s cs).1 with z | z
    ·exact absurd ⟨s,cs,z⟩ q
    ·exact z
   obtain⟨_,_,c,_,e,_,w,hw,kw⟩:=Y5 s hf;exact⟨s,cs,c,e,w,hw,λ z=>q ⟨w.1,z,kw⟩,aY.mpr (.inl kw)⟩
theorem Nz{l:List Nat}(hl:∀s∈l,s<N.length):found N l (iter (kD N l) N.length (goals N g,first N)).1=[]:=by
 have r:kD N l (iter (kD N l) N.length (goals N g,first N))=iter (kD N l) N.length (goals N g,first N):=
  uQ (kD N l) (λ x=>((ay N.length).filter λ s=>x.1.contains s).length) N.length (A9 N g l) (λ _ K=>Gg hl K) (λ x _=>by
   have:=cK (λ s=>x.1.contains s) (ay N.length);rw[cD] at this;exact this) (λ x K ne=>by
   have nf:found N l x.1≠[]:=λ z=>ne (by
    unfold kD;rw[z];refine gH (cF _) (eV (by simp[K.fit.len]) λ s h1 h2=>?_);rw[iu,gK,if_neg (by simp),aa,af h2];rfl)
   obtain⟨s,hs⟩:=cI _ nf;obtain⟨a,b⟩:=aH.mp hs;refine (vy (p:=λ s=>x.1.contains s) (q:=λ s=>(kD N l x).1.contains s) (ay N.length) λ t _ ht=>?_).2 ⟨s,aF.mpr (hl s a),?_,?_⟩
   ·have ht:t∈x.1:=by simpa using ht
    have:t∈(kD N l x).1:=aY.mpr (.inl ht)
    simpa using this
   ·have:s∈(kD N l x).1:=aY.mpr (.inr hs)
    simpa using this
   ·have:=(bU.mp b).1
    simpa using this) N.length _ (Gf l) (by omega)
 have e:=congrArg Prod.fst r
 have e:(iter (kD N l) N.length (goals N g,first N)).1++found N l (iter (kD N l) N.length (goals N g,first N)).1=(iter (kD N l) N.length (goals N g,first N)).1:=e
 exact List.append_right_eq_self.mp e
def Aw(N:Net)(g:Nat)(s:Nat):Prop:=s∈sure N g/\isGoal g s=false
def fK(N:Net)(g:Nat)(p:Plan)(s:Nat):Fr×List (Nat×Fr):=if isGoal g s=true\/(sure N g).contains s=false then (none_,[]) else match chosen N p s with
   |some c=>(⟨c.gain,1⟩,c.parts)
   |none=>(none_,[])
def nQ(N:Net)(g:Nat)(p:Plan):Row:=standing N.length (fK N g p)
def LQ(N:Net)(g:Nat)(p:Plan)(v:Row):Plan:=changed N p (λ s=>isGoal g s || !(sure N g).contains s) (staying (sure N g)) λ s c=>(c.whole v).less (at_ v s)
def Qu(N:Net)(g:Nat):Plan:=nearer N (sure N g) N.length (goals N g) (first N)
def vS(N:Net)(g:Nat)(p:Plan)(s:Nat):nV:=if isGoal g s=true\/(sure N g).contains s=false then ⟨1,[],0⟩ else match (choicesOf N s)[p.getD s 0]? with
 |some c=>lF (-(c.gain:Rat)) c
 |none=>⟨1,[],0⟩
theorem G8(p:Plan)(s:Nat):(A0 (fK N g p s)).tot=(vS N g p s).tot/\(A0 (fK N g p s)).ways=(vS N g p s).ways/\(A0 (fK N g p s)).rhs = - (vS N g p s).rhs:=by
 unfold fK vS chosen
 split
 ·refine⟨rfl,rfl,?_⟩
  show val none_ = - 0;rw[qG];grind
 ·cases (choicesOf N s)[p.getD s 0]? with
  |none=>exact⟨rfl,rfl,by show val none_ = - 0;rw[qG];grind⟩
  |some c=>exact⟨rfl,rfl,by show val ⟨c.gain,1⟩ = - -(c.gain:Rat);rw[LK];grind⟩
theorem sN{p:Plan}{s:Nat}(h:¬Aw N g s):vS N g p s=⟨1,[],0⟩:=by
 unfold vS
 rw[if_pos]
 by_cases q:isGoal g s=true
 ·exact .inl q
 ·right
  have:s ∉ sure N g:=λ z=>h ⟨z,by simpa using q⟩
  simpa using this
theorem ID{s:Nat}(h:Aw N g s):¬(isGoal g s=true\/(sure N g).contains s=false):=by
 rintro (q | q)
 ·rw[h.2] at q;cases q
 ·have:s ∉ sure N g:=by simpa using q
  exact this h.1
theorem rK{p:Plan}{s:Nat}(h:Aw N g s){c:Choice}(e:(choicesOf N s)[p.getD s 0]? = some c):vS N g p s=lF (-(c.gain:Rat)) c:=by
 unfold vS
 rw[if_neg (ID h),e]
structure G9(N:Net)(g:Nat)(p:Plan):Prop where
 fit:EN N p
 ch:∀s,Aw N g s->∃c∈choicesOf N s,(choicesOf N s)[p.getD s 0]? = some c/\staying (sure N g) c=true
 prop:zb (vS N g p) N.length
theorem Qv(G:Good N){s:Nat}(h:Aw N g s):s<N.length:=((oA G).mp h.1).1
theorem LR(G:Good N){p:Plan}(ch:∀s,Aw N g s->∃c∈choicesOf N s,(choicesOf N s)[p.getD s 0]? = some c/\staying (sure N g) c=true):Kc (vS N g p) N.length 16000:=G6 λ s hs=>by
 by_cases h:Aw N g s
 ·obtain⟨c,hc,e,_⟩:=ch s h
  rw[rK h e];exact oX G hc _
 ·rw[sN h];exact Ca N _
theorem Km(G:Good N):G9 N g (Qu N g):=by
 have hl:∀s∈sure N g,s<N.length:=λ s hs=>((oA G).mp hs).1
 have K:A9 N g (sure N g) (iter (kD N (sure N g)) N.length (goals N g,first N)):=mS (P:=A9 N g (sure N g)) (λ _ K=>Gg hl K) N.length _ (Gf _)
 have r:=Nz (g:=g) hl
 have en:Qu N g=(iter (kD N (sure N g)) N.length (goals N g,first N)).2:=Ge _ _ _ _
 rw[en]
 generalize iter (kD N (sure N g)) N.length (goals N g,first N)=x at *
 have all:∀s,Aw N g s->s∈x.1:=λ s h=>by
  apply az
  intro no;obtain⟨t,⟨tl,tk⟩,c,hc,st,_,w,hw,nw,ow⟩:=Qs (g:=g) G (C:=λ t=>t∈sure N g/\t ∉ x.1) ⟨s,h.1,no⟩ λ t ht=>⟨hl t ht.1,((oA G).mp ht.1).2,by
   cases q:isGoal g t with
   |false=>rfl
   |true=>exact absurd (K.gl t (hl t ht.1) q) ht.2⟩
  have wk:w.1∈x.1:=by
   apply az
   intro z;exact nw ⟨(oA G).mpr ⟨(lu G hc).2.1 w hw,ow⟩,z⟩
  have:t∈found N (sure N g) x.1:=aH.mpr ⟨tl,bU.mpr ⟨by simpa using tk,cN.mpr ⟨c,hc,bU.mpr ⟨by rw[Cb G hc];exact st,cN.mpr ⟨w,hw,by simpa using wk⟩⟩⟩⟩⟩;rw[r] at this;cases this
 refine⟨K.fit,λ s h=>K.ch s (all s h) h.2,λ C hne hC=>?_⟩
 have Qo:∀s,C s->Aw N g s:=λ s hs=>by
  apply az
  intro z;have:=(hC s hs).2;rw[sN z] at this;exact this rfl
 obtain⟨s,cs,c,e,w,hw,nw,_⟩:=K.well C hne λ s hs=>⟨all s (Qo s hs),(Qo s hs).2⟩
 obtain⟨w',h1,h2⟩:=qH (r:=-(c.gain:Rat)) hw
 exact⟨s,cs,w',by rw[rK (Qo s cs) e];exact h1,by rw[h2];exact nw⟩
def yK(N:Net)(g:Nat)(p:Plan)(s:Nat):Rat:=- val (at_ (nQ N g p) s)
theorem Ag(G:Good N){p:Plan}(F:G9 N g p):(nQ N g p).length=N.length/\(∀s,s<N.length->BS (at_ (nQ N g p) s))/\∀s,s<N.length->(vS N g p s).lhs s (yK N g p)=(vS N g p s).rhs:=by
 obtain⟨u,K⟩:=F.prop.keeps (LR G F.ch)
 obtain⟨a,b,c⟩:=Bx (f:=fK N g p) (λ s hs=>by
  unfold fK
  split
  ·exact⟨qF,λ y hy=>by cases hy⟩
  ·unfold chosen
   cases e:(choicesOf N s)[p.getD s 0]? with
   |none=>exact⟨qF,λ y hy=>by cases hy⟩
   |some c=>exact⟨SR _,λ y hy=>(A2 (lu G (aq e)).1 y hy).pos⟩) (Iw K λ s=>⟨(G8 p s).1,(G8 p s).2.1⟩)
 refine⟨a,b,λ s hs=>?_⟩
 have:=c s hs
 obtain⟨e1,e2,e3⟩:=G8 (N:=N) (g:=g) p s
 unfold yK
 rw[nV.LL]
 simp only[nV.lhs] at this ⊢
 rw[e1,e2,e3] at this
 show-(_-wd _ (λ t=>val (at_ (standing N.length (fK N g p)) t)))=_
 rw[show (vS N g p s).tot*val (at_ (nQ N g p) s)=(vS N g p s).tot*val (at_ (standing N.length (fK N g p)) s) from rfl,this];grind
theorem IE(G:Good N){v:Row}(hv:∀s,s<N.length->BS (at_ v s)){s:Nat}{c:Choice}(hc:c∈choicesOf N s):BS (c.whole v)/\val (c.whole v)=(c.gain:Rat)+wd (lF 0 c).ways (λ t=>val (at_ v t)):=by
 obtain⟨p,e⟩:=F9 G hv hc
 refine⟨G2 jq p,?_⟩
 unfold Choice.whole
 rw[val_add jq p,LK,e];rfl
theorem Qw(G:Good N){p:Plan}(F:G9 N g p){s:Nat}(hs:s<N.length){c:Choice}(hc:c∈choicesOf N s):(c.whole (nQ N g p)).less (at_ (nQ N g p) s)=decide ((lF 0 c).lhs s (yK N g p) < -(c.gain:Rat)):=by
 obtain⟨_,b,_⟩:=Ag (g:=g) G F
 obtain⟨q,e⟩:=IE G b hc
 rw[Iu q.pos (b s hs).pos,e]
 unfold yK
 rw[nV.LL]
 refine decide_eq_decide.mpr ?_
 show _↔- (1*val _-wd (lF 0 c).ways (λ i=>val (at_ (nQ N g p) i))) < -(c.gain:Rat)
 constructor<;>intro h<;>grind
theorem Yb(G:Good N){p:Plan}(F:G9 N g p){s:Nat}(h:Aw N g s){c:Choice}(e:(choicesOf N s)[p.getD s 0]? = some c):(lF 0 c).lhs s (yK N g p) = -(c.gain:Rat):=by
 have:=(Ag G F).2.2 s (Qv G h)
 rw[rK h e] at this
 exact this
theorem IF(G:Good N){p:Plan}(F:G9 N g p){s:Nat}(h:Aw N g s) :
  ((LQ N g p (nQ N g p)).getD s 0=p.getD s 0/\∀c∈choicesOf N s,staying (sure N g) c=true->-(c.gain:Rat)<=(lF 0 c).lhs s (yK N g p)) \/
  ((LQ N g p (nQ N g p)).getD s 0≠p.getD s 0/\∃c∈choicesOf N s,(choicesOf N s)[(LQ N g p (nQ N g p)).getD s 0]? = some c/\staying (sure N g) c=true/\(lF 0 c).lhs s (yK N g p) < -(c.gain:Rat)):=by
 have hs:=Qv G h
 rcases sL (l:=p) (stay:=λ s=>isGoal g s || !(sure N g).contains s) (ok:=staying (sure N g)) (better:=λ s c=>(c.whole (nQ N g p)).less (at_ (nQ N g p) s)) hs with ⟨st,e⟩ | ⟨st,⟨e,no⟩ | ⟨c,e,yes⟩⟩
 ·exfalso
  rcases gw.mp st with q | q
  ·rw[h.2] at q;cases q
  ·exact ID h (.inr (by simpa using q))
 ·refine .inl ⟨e,λ c hc st'=>?_⟩
  have:=no c hc;rw[st',b9,Qw G F hs hc,decide_eq_false_iff_not] at this;grind
 ·have e:(choicesOf N s)[(LQ N g p (nQ N g p)).getD s 0]? = some c:=e
  have hc:=aq e;obtain⟨y1,y2⟩:=bU.mp yes;rw[Qw G F hs hc,decide_eq_true_eq] at y2;refine .inr ⟨λ z=>?_,c,hc,e,y1,y2⟩;rw[z] at e;rw[Yb G F h e] at y2;exact absurd y2 (by grind)
theorem S4(G:Good N){p:Plan}{s:Nat}(hs:s<N.length)(h:¬Aw N g s)(v:Row):(LQ N g p v).getD s 0=p.getD s 0:=by
 rcases sL (l:=p) (stay:=λ s=>isGoal g s || !(sure N g).contains s) (ok:=staying (sure N g)) (better:=λ s c=>(c.whole v).less (at_ v s)) hs with ⟨_,e⟩ | ⟨q,_⟩
 ·exact e
 ·exfalso
  obtain⟨a,b⟩:=gg.mp q;exact h ⟨by simpa using b,a⟩
def IG(N:Net):Prop:=∀s,∀c∈choicesOf N s,1<=c.gain
theorem II(D:IG N){s:Nat}{c:Choice}(hc:c∈choicesOf N s):-(c.gain:Rat)<0:=by
 have:=mL (show (0:Int)<c.gain by have:=D s c hc;omega)
 grind
theorem Gh(G:Good N)(D:IG N){p:Plan}(F:G9 N g p):G9 N g (LQ N g p (nQ N g p))/\∀s,Aw N g s->∃c∈choicesOf N s,(choicesOf N s)[(LQ N g p (nQ N g p)).getD s 0]? = some c/\(lF 0 c).lhs s (yK N g p)<=-(c.gain:Rat)/\((LQ N g p (nQ N g p)).getD s 0≠p.getD s 0->(lF 0 c).lhs s (yK N g p) < -(c.gain:Rat)):=by
 have ch:∀s,Aw N g s->∃c∈choicesOf N s,(choicesOf N s)[(LQ N g p (nQ N g p)).getD s 0]? = some c/\staying (sure N g) c=true/\(lF 0 c).lhs s (yK N g p)<=-(c.gain:Rat)/\((LQ N g p (nQ N g p)).getD s 0≠p.getD s 0->(lF 0 c).lhs s (yK N g p) < -(c.gain:Rat)):=λ s h=>by
  rcases IF G F h with ⟨same,_⟩ | ⟨_,c,hc,e,st,lt⟩
  ·obtain⟨c,hc,e,st⟩:=F.ch s h;exact⟨c,hc,by rw[same];exact e,st,by rw[Yb G F h e];exact bG,λ z=>absurd same z⟩
  ·exact⟨c,hc,e,st,bR lt,λ _=>lt⟩
 have ch1:∀s,Aw N g s->∃c∈choicesOf N s,(choicesOf N s)[(LQ N g p (nQ N g p)).getD s 0]? = some c/\staying (sure N g) c=true:=λ s h=>by
  obtain⟨c,hc,e,st,_⟩:=ch s h;exact⟨c,hc,e,st⟩
 refine⟨⟨F.fit.change _ _ _,ch1,BA (v:=yK N g p) (LR G ch1) λ s hs ne=>?_⟩,λ s h=>?_⟩
 ·have h:Aw N g s:=by
   apply az
   intro z;rw[sN z] at ne;exact ne rfl
  obtain⟨c,hc,e,_,le,_⟩:=ch s h;rw[rK h e];have le:(lF (-(c.gain:Rat)) c).lhs s (yK N g p)<=-(c.gain:Rat):=le;have:=II D hc;grind
 ·obtain⟨c,hc,e,_,le⟩:=ch s h
  exact⟨c,hc,e,le⟩
theorem IJ(G:Good N)(D:IG N):∃p,G9 N g p/\cheapest N g=nQ N g p/\LQ N g p (nQ N g p)=p:=by
 refine DB G (nQ N g) (LQ N g) (Qu N g) (G9 N g) (yK N g) (Km G) (λ _ F=>F.fit) (λ p F=>(Gh G D F).1) λ p F=>?_
 obtain⟨F',rows⟩:=Gh G D F
 have same:=λ s (hs:s<N.length) h=>S4 (p:=p) (s:=s) (g:=g) G hs h (nQ N g p)
 generalize LQ N g p (nQ N g p)=p' at *
 obtain⟨u,K⟩:=F'.prop.keeps (LR G F'.ch)
 have r2:∀s,s<N.length->(vS N g p' s).lhs s (yK N g p)<=(vS N g p' s).rhs/\(p'.getD s 0≠p.getD s 0->(vS N g p' s).lhs s (yK N g p)<(vS N g p' s).rhs):=λ s hs=>by
  by_cases h:Aw N g s
  ·obtain⟨c,hc,e,le,lt⟩:=rows s h;rw[rK h e];exact⟨le,lt⟩
  ·refine⟨?_,λ z=>absurd (same s hs h) z⟩;have:=(Ag G F).2.2 s hs;rw[sN h] at this;rw[sN h,this];exact bG
 obtain⟨g1,g2⟩:=K.better (x:=yK N g p) (Ag G F').2.2 λ s hs=>(r2 s hs).1
 exact⟨g1,λ s hs z=>g2 s hs ((r2 s hs).2 z)⟩
end
section
variable{N:Net}{g:Nat}
theorem zc(G:Good N){s:Nat}(hs:s<N.length)(e:(jN N g).getD s []≠[]):Aw N g s:=by
 refine⟨(oA G).mpr ⟨hs,?_⟩,?_⟩
 ·apply az
  intro z;exact e ((A6 G).out s hs z)
 ·cases q:isGoal g s with
  |false=>rfl
  |true=>exact absurd (DO G hs q) e
theorem DP(G:Good N){s:Nat}(h:Aw N g s):(jN N g).getD s []≠[]:=by
 obtain⟨hs,hr⟩:=(oA G).mp h.1
 obtain⟨_,c,hc,st,_⟩:=Af G hs hr h.2
 rw[xx G hs h.2]
 intro z
 have:c∈(choicesOf N s).filter (Ae N g):=aH.mpr ⟨hc,st⟩
 rw[e7.mp z] at this;cases this
theorem Qx(G:Good N){π:List Int}(F:Fits (jN N g) N.length π){s:Nat}(hs:s<N.length):(¬Aw N g s/\lU (jN N g) (zeros N.length) π s=⟨1,[],0⟩)\/(Aw N g s/\∃c∈choicesOf N s,Ae N g c=true/\lU (jN N g) (zeros N.length) π s=sI (kX (-1) c)):=by
 unfold lU yJ
 by_cases h:((jN N g).getD s []).length=0
 ·refine .inl ⟨λ z=>DP G z (cy.mp h),?_⟩
  rw[if_pos h,Qa];rfl
 ·have ne:(jN N g).getD s []≠[]:=λ e=>h (by rw[e];rfl)
  have hk:=zc G hs ne;refine .inr ⟨hk,?_⟩;have fit:=(F.at_ s hs h).2;rw[if_neg h];rw[xx G hs hk.2] at fit ⊢;rw[ah] at fit;have hm:=aV fit;refine⟨_,(aH.mp hm).1,(aH.mp hm).2,?_⟩;rw[aa,ai,af fit];rfl
theorem UK(G:Good N){π:List Int}(F:Fits (jN N g) N.length π):Kc (lU (jN N g) (zeros N.length) π) N.length 16000:=G6 λ s hs=>by
 rcases Qx G F hs with ⟨_,e⟩ | ⟨_,c,hc,_,e⟩
 ·rw[e];exact Ca N _
 ·rw[e];exact SY G hc _
structure Hg(N:Net)(g:Nat)(π:List Int):Prop where
 fit:Fits (jN N g) N.length π
 no:∀s,s<N.length->((jN N g).getD s []).length=0->π.getD s 0=(tM N g).getD s 0
 prop:zb (lU (jN N g) (zeros N.length) π) N.length
theorem Hh(G:Good N){π:List Int}(F:Hg N g π):∃u,Keeps (lU (jN N g) (zeros N.length) π) N.length u:=F.prop.keeps (UK G F.fit)
theorem DQ(G:Good N):Hg N g (tM N g):=by
 obtain⟨T,_⟩:=Qq (g:=g) G
 have F:Fits (jN N g) N.length (tM N g):=⟨T.len,λ s hs h=>by
  have hk:=zc G hs (λ z=>h (by rw[z];rfl));have hp:=(Af G hs ((oA G).mp hk.1).2 hk.2).1;exact⟨hp,(T.at_ s hs hp).1⟩⟩
 refine⟨F,λ _ _ _=>rfl,λ C hne hC=>?_⟩
 have Qo:∀s,C s->Aw N g s:=λ s hs=>by
  rcases Qx G F (hC s hs).1 with ⟨_,e⟩ | ⟨q,_⟩
  ·have:=(hC s hs).2;rw[e] at this;exact absurd rfl this
  ·exact q
 obtain⟨s,cs,c,hc,st,eo,w,hw,nw,_⟩:=Qs (g:=g) G hne λ s hs=>⟨(hC s hs).1,((oA G).mp (Qo s hs).1).2,(Qo s hs).2⟩
 refine⟨s,cs,(w.1,(w.2:Rat)),?_,nw⟩
 have ne:=DP G (Qo s cs)
 unfold lU yJ
 rw[if_neg (λ z=>ne (cy.mp z)),eo]
 exact aB.mpr ⟨w,hw,rfl⟩
theorem V0(c:Choice):(sI (kX (-1) c)).rhs=(((c.weight:Nat):Int):Rat) * -(c.gain:Rat):=by
 show ((c.gain * -1*((c.weight:Nat):Int):Int):Rat)=_
 rw[aI,aI,show ((-1:Int):Rat) = -1 from rfl];grind
theorem Gi(G:Good N)(D:IG N){π:List Int}(F:Hg N g π):Hg N g (nextM (jN N g) (zeros N.length) N.length π):=by
 obtain⟨u,K⟩:=Hh G F
 have F':=Nk (ends:=zeros N.length) (qI G).2 F.fit
 refine⟨F',λ s hs h=>by rw[z6 hs,if_pos h];exact F.no s hs h,BA (v:=j7 (kK (jN N g) (zeros N.length) N.length π)) (UK G F') λ s hs ne=>?_⟩
 have le:=(AZ (qI G).1 (qI G).2 F.fit K s hs).1
 rcases Qx G F' hs with ⟨_,e⟩ | ⟨_,c,hc,_,e⟩
 ·rw[e] at ne;exact absurd rfl ne
 ·have r:(lU (jN N g) (zeros N.length) (nextM (jN N g) (zeros N.length) N.length π) s).rhs<0:=by
   rw[e,V0];have:=c9 (II D hc) (mL (show (0:Int)<((c.weight:Nat):Int) by have:=(lu G hc).1;omega));grind
  grind
theorem IK(G:Good N)(D:IG N):∃k,nextM (jN N g) (zeros N.length) N.length (iter (nextM (jN N g) (zeros N.length) N.length) k (tM N g))=iter (nextM (jN N g) (zeros N.length) N.length) k (tM N g)/\Hg N g (iter (nextM (jN N g) (zeros N.length) N.length) k (tM N g)):=
 Ir (qI G).1 (qI G).2 (Hg N g) (DQ G) (λ _ F=>F.fit) (λ _ F=>F.no) (λ _ F=>Hh G F) λ _ F=>Gi G D F
theorem IL(G:Good N)(D:IG N){π:List Int}(F:Hg N g π)(e:nextM (jN N g) (zeros N.length) N.length π = π) :
  0<(kK (jN N g) (zeros N.length) N.length π).2/\(kK (jN N g) (zeros N.length) N.length π).1.length=N.length /\
  VN (cheapest N g) ((kK (jN N g) (zeros N.length) N.length π).1.map λ z=>-z) (kK (jN N g) (zeros N.length) N.length π).2 /\
  (∀s,s<N.length->¬Aw N g s->(kK (jN N g) (zeros N.length) N.length π).1.getD s 0=0) /\
  ∀s,s<N.length->∀c∈choicesOf N s,(c.whole (cheapest N g)==at_ (cheapest N g) s) =
   decide ((kX (-1) c).top (kK (jN N g) (zeros N.length) N.length π).1 (kK (jN N g) (zeros N.length) N.length π).2=(kK (jN N g) (zeros N.length) N.length π).1.getD s 0*(kX (-1) c).tot):=by
 obtain⟨u,K⟩:=Hh G F
 obtain⟨hb,hl,hv⟩:=Dv (qI G).1 F.fit K
 have opt:=Nl (qI (g:=g) G).1 (qI (g:=g) G).2 F.fit K e
 obtain⟨p,FS,es,fx⟩:=IJ (g:=g) G D
 obtain⟨sl,Qt,sv⟩:=Ag (g:=g) G FS
 obtain⟨uS,KS⟩:=FS.prop.keeps (LR G FS.ch)
 rw[es]
 generalize hV:kK (jN N g) (zeros N.length) N.length π = V at *
 have Yc:∀s,s<N.length->¬Aw N g s->j7 V s=0:=λ s hs h=>by
  rcases Qx G F.fit hs with ⟨_,e1⟩ | ⟨q,_⟩
  ·have:=hv s hs;rw[e1] at this;have h2:1*j7 V s-0=0:=this;grind
  ·exact absurd q h
 have outy:∀s,s<N.length->¬Aw N g s->yK N g p s=0:=λ s hs h=>by
  have:=sv s hs;rw[sN h] at this;have h2:1*yK N g p s-0=0:=this;grind
 have le:∀s,s<N.length->j7 V s<=yK N g p s:=K.le λ s hs=>by
  rw[hv s hs]
  rcases Qx G F.fit hs with ⟨h,e1⟩ | ⟨h,c,hc,st,e1⟩
  ·have:=outy s hs h;rw[e1];show (0:Rat)<=1*yK N g p s-0;grind
  ·obtain⟨a,b,d⟩:=A3 (lu G hc).1 (-1) 0 s (yK N g p);rw[e1,V0,a];refine bw ?_ (bR d)
   rcases IF G FS h with ⟨_,q⟩ | ⟨q,_⟩
   ·exact q c hc (by rw[Cb G hc];exact st)
   ·rw[fx] at q;exact absurd rfl q
 have ge:∀s,s<N.length->yK N g p s<=j7 V s:=KS.le λ s hs=>by
  rw[sv s hs]
  by_cases h:Aw N g s
  ·obtain⟨c,hc,ec,st⟩:=FS.ch s h;rw[rK h ec];have:=S1 G hc (opt s hs (kX (-1) c) (by rw[xx G hs h.2];exact aB.mpr ⟨c,aH.mpr ⟨hc,by rw[<-Cb G hc];exact st⟩,rfl⟩));rw[aI,show ((-1:Int):Rat) = -1 from rfl] at this;show -(c.gain:Rat)<=(lF 0 c).lhs s (j7 V);grind
  ·have:=Yc s hs h;rw[sN h];show (0:Rat)<=1*j7 V s-0;grind
 have eq:∀s,s<N.length->val (at_ (nQ N g p) s) = - j7 V s:=λ s hs=>by
  have a:=le s hs;have b:=ge s hs;unfold yK at a b;grind
 have hb':=mL hb
 have jx:∀s,((V.1.getD s 0:Int):Rat)=(V.2:Rat)*j7 V s:=λ s=>by unfold j7;grind
 refine⟨hb,hl,⟨by rw[sl,ah,hl],λ s hs=>?_⟩,λ s hs h=>?_,λ s hs c hc=>?_⟩
 ·rw[ah,hl] at hs
  refine VT (Qt s hs).pos hb ?_;have hn:(V.1.map λ z=>-z).getD s 0 = - V.1.getD s 0:=by
   rw[aa,ai,af (by omega),aa,af (by omega)];rfl
  rw[hn,fm,eq s hs];unfold j7;rw[iR,iR];grind
 ·have:=jx s
  rw[Yc s hs h,Rat.mul_zero] at this;exact cT.mp (this.trans rfl)
 ·obtain⟨c1,c2⟩:=IE G Qt hc
  have t:=G0 (o:=kX (-1) c) (jx:=V.1) hb;obtain⟨r1,r2,r3⟩:=A3 (lu G hc).1 (-1) 0 s (j7 V);have sc:B9 (kX (-1) c) (j7 V)=(((c.weight:Nat):Int):Rat) * - val (c.whole (nQ N g p)):=by
   unfold B9;rw[c2,V0];have w1:wd (lF 0 c).ways (λ t=>val (at_ (nQ N g p) t))=wd (lF 0 c).ways (λ t=>- j7 V t):=Iq (n:=N.length) eq λ w hw=>((oX G hc 0).way w hw).1
   rw[w1,Qj];have w2:=z8 (lu G hc).1 (j7 V);have w3:wd (pI (kX (-1) c).ways) (j7 V)=(((c.weight:Nat):Int):Rat)*wd (lF 0 c).ways (j7 V):=w2.symm;rw[w3];grind
  have iff:(c.whole (nQ N g p)=at_ (nQ N g p) s)↔((kX (-1) c).top V.1 V.2=V.1.getD s 0*(kX (-1) c).tot):=by
   have a1:(c.whole (nQ N g p)=at_ (nQ N g p) s)↔val (c.whole (nQ N g p)) = - j7 V s:=⟨λ h=>by rw[h,eq s hs],λ h=>c1.eq (Qt s hs) (by rw[h,eq s hs])⟩
   rw[a1,<-cT,t,aI,show j7 (V.1,V.2)=j7 V from rfl,sc];have e1:(((kX (-1) c).tot:Int):Rat)=(((c.weight:Nat):Int):Rat):=rfl;rw[e1,jx s];generalize val (c.whole (nQ N g p))=x at *
   generalize j7 V s=y at *
   generalize (((c.weight:Nat):Int):Rat)=m at *
   generalize (V.2:Rat)=b at *
   constructor
   ·rintro rfl;grind
   ·intro h;have h1:(b*m)*x=(b*m) * -y:=by grind
    have bm:=fD hb' r3;have l1:=br (a:=x) (b:=-y) (c:=b*m) (by rw[h1];exact bG) bm;have l2:=br (a:=-y) (b:=x) (c:=b*m) (by rw[h1];exact bG) bm;grind
  by_cases h:c.whole (nQ N g p)=at_ (nQ N g p) s
  ·rw[decide_eq_true (iff.mp h),h];simp
  ·rw[decide_eq_false λ z=>h (iff.mpr z)];exact beq_eq_false_iff_ne.mpr h
end
end La
end
noncomputable section
namespace Ck
open PySem PySem.Spec PyProof.Rows L2
def Hu(l:Addr)(p:Int):List (Str×V):=nZ "place" (.int p) (nZ "text" (.ref l) [])
theorem Ah(l:Addr)(p:Int):(Hu l p).lookup ("text":Str)=some (.ref l):=by
 unfold Hu;rw[jI,if_neg (by decide),jI,if_pos rfl]
theorem mr(l:Addr)(p:Int):(Hu l p).lookup ("place":Str)=some (.int p):=by
 unfold Hu;rw[jI,if_pos rfl]
theorem xy(l:Addr)(p:Int){m:Str}(h1:¬m = "place")(h2:¬m = "text"):(Hu l p).lookup m=none:=by
 unfold Hu;rw[jI,if_neg h1,jI,if_neg h2];rfl
theorem S5(l:Addr)(p q:Int):nZ "place" (.int q) (Hu l p)=Hu l q:=rfl
def jZ(bs:List Nat):List V:=bs.map λ(b:Nat)=>V.int (b:Int)
theorem ku(bs:List Nat):(jZ bs).length=bs.length:=by unfold jZ;rw[ah]
def pl(bs rest:List Nat):Int:=((bs.length-rest.length:Nat):Int)
structure Ai(K:aj)(t:Adr)(H:Hp)(r dx l:Addr)(bs rest:List Nat):Prop where
 ins:H r=some (.ins t.kU dx (Hu l (pl bs rest)))
 txt:jO K H l (jZ bs)
 Aj:rest <:+ bs
 len:bs.length<=65536
def lR(t:Adr)(H:Hp)(r dx l:Addr)(bs rest:List Nat):Hp:=upd H r (.ins t.kU dx (Hu l (pl bs rest)))
def Kp(r:Addr)(H H':Hp):Prop:=∀b o,b≠r->H b=some o->H' b=some o
theorem Kp.refl(r:Addr)(H:Hp):Kp r H H:=λ _ _ _ e=>e
theorem Kp.trans{r:Addr}{H H1 H2:Hp}(a:Kp r H H1)(b:Kp r H1 H2):Kp r H H2:=λ c o h e=>b c o h (a c o h e)
theorem Kp.upd{r:Addr}{H:Hp}{o:HO}:Kp r H (upd H r o):=λ b u h e=>by rw[jA h];exact e
theorem Kp.of{r:Addr}{H H':Hp}(s:jF H H'):Kp r H H':=λ b o _ e=>s b o e
theorem S6{K:aj}{H:Hp}{a r:Addr}{xs:List V}{o u:HO}(h:jO K H a xs)(e:H r=some u)(hu:∀ys ob,u≠.lst ys/\u≠.NV ob (.lst ys)):jO K (upd H r o) a xs:=by
 rcases h with (h | ⟨ob,h⟩) | h
 ·exact .inl (.inl (by rw[jA (λ z=>by rw[z,e] at h;cases h;exact (hu xs ⟨.none,none,.seq #[] 0,#[]⟩).1 rfl)];exact h))
 ·exact .inl (.inr ⟨ob,by rw[jA (λ z=>by rw[z,e] at h;cases h;exact (hu xs ob).2 rfl)];exact h⟩)
 ·exact .inr h
theorem Ai.put{K:aj}{t:Adr}{H:Hp}{r dx l:Addr}{bs rest rest':List Nat}(R:Ai K t H r dx l bs rest)(s:rest' <:+ bs):Ai K t (lR t H r dx l bs rest') r dx l bs rest':=
 ⟨ju,S6 R.txt R.ins λ _ _=>⟨λ z=>(by cases z),λ z=>(by cases z)⟩,s,R.len⟩
theorem qJ{t:Adr}{H:Hp}{r dx l:Addr}{bs x y:List Nat}:lR t (lR t H r dx l bs x) r dx l bs y=lR t H r dx l bs y:=kh
theorem Ai.same{K:aj}{t:Adr}{H H':Hp}{r dx l:Addr}{bs rest:List Nat}(R:Ai K t H r dx l bs rest)(s:jF H H'):Ai K t H' r dx l bs rest:=⟨s _ _ R.ins,s.seq R.txt,R.Aj,R.len⟩
theorem Ai.self{K:aj}{t:Adr}{H:Hp}{r dx l:Addr}{bs rest:List Nat}(R:Ai K t H r dx l bs rest):lR t H r dx l bs rest=H:=by
 funext b
 unfold lR upd
 split
 ·rename_i e;rw[e];exact R.ins.symm
 ·rfl
theorem S7{bs rest:List Nat}(s:rest <:+ bs)(i:Nat):bs[bs.length-rest.length+i]? = rest[i]?:=by
 obtain⟨p,rfl⟩:=s
 rw[aG,Nat.add_sub_cancel,cZ (by omega)]
 congr 1;omega
theorem Qy{bs rest:List Nat}(s:rest <:+ bs):bs.drop (bs.length-rest.length)=rest:=by
 obtain⟨p,rfl⟩:=s
 rw[aG,Nat.add_sub_cancel,List.drop_left]
theorem S8{bs rest:List Nat}(s:rest <:+ bs){c:Nat}{r:List Nat}(e:rest=c::r):Ht (jZ bs) (pl bs rest)=some (.int (c:Int)):=by
 refine qg ?_
 unfold jZ
 rw[ai]
 have:=S7 s 0
 rw[iB,e] at this
 rw[e,this];rfl
section
variable{P:Program}{w:World}{K:aj}{mg:Str->Option Value}{base:Heap}{t:Adr}
def S9(K:aj)(t:Adr):Sp:=λ vs H Q _=>∃r dx l bs rest,vs=[.ref r]/\Ai K t H r dx l bs rest/\Q (.int (Rd.here rest:Nat)) H
theorem qm(T:Txt K mg t):Ok P w K mg base 1 t.yz t.wR ["self"] (S9 K t):=by
 refine T.lN.fn.rm CS (λ vs H Q E h=>?_) λ cdv A outer s H vs Q E hr h=>?_
 ·obtain⟨r,dx,l,bs,rest,rfl,_⟩:=h;rfl
 ·obtain⟨r,dx,l,bs,rest,rfl,R,h⟩:=h
  refine⟨_,jv (qR (l6 KP (oO (pv 0) rfl) (kj jY (by rfl) T.qE nN (jt (oO (pv 0) rfl) jw)) (kH _))
   (jy (jP (mi K0 (oO (pv 0) rfl) (oO (pv 0) rfl) (λ _ _=>rfl)))) ny) (jy (jP (kO T.yY rfl))),?_⟩
  refine⟨_,rfl,r,_,dx,_,_,rfl,R.ins,T.jH.cl,T.jW,mr _ _,_,rfl,r,_,dx,_,_,rfl,R.ins,T.jH.cl,T.oh,Ah _ _,l,_,rfl,.inl R.txt,_,_,rfl,rfl,_,rfl,?_⟩;rw[ku];have hl:=R.Aj.length_le
  cases e:rest with
  |nil=>
   rw[e] at h;rw[show decide (pl bs []<(bs.length:Int))=false from decide_eq_false (by unfold pl;simp)];exact tP h
  |cons c q=>
   rw[show decide (pl bs (c::q)<(bs.length:Int))=true from decide_eq_true (by rw[e] at hl;simp at hl;unfold pl;simp;omega)];rw[e] at h;refine vX ⟨_,rfl,r,_,dx,_,_,rfl,R.ins,T.jH.cl,T.oh,Ah _ _,_,rfl,r,_,dx,_,_,rfl,R.ins,T.jH.cl,T.jW,mr _ _,l,_,_,_,rfl,rfl,R.txt,S8 R.Aj e,?_⟩;exact h
theorem uU{bs rest:List Nat}(s:rest <:+ bs):rest.tail <:+ bs:=(List.tail_suffix rest).trans s
theorem Tc{bs rest:List Nat}(s:rest <:+ bs)(h:rest≠[]):pl bs rest+1=pl bs rest.tail:=by
 have:=s.length_le
 have:0<rest.length:=List.length_pos_iff.mpr h
 unfold pl
 rw[List.length_tail]
 omega
theorem xA{t:Adr}{H:Hp}{r dx l:Addr}{bs rest:List Nat}(s:rest <:+ bs)(h:rest≠[]) :
  upd H r (.ins t.kU dx (nZ "place" (.int (pl bs rest+1)) (Hu l (pl bs rest))))=lR t H r dx l bs rest.tail:=by
 rw[S5,Tc s h];rfl
theorem DR:Rd.here []=256:=rfl
theorem uV(c:Nat)(r:List Nat):Rd.here (c::r)=c:=rfl
def LS(K:aj)(t:Adr)(f:List Nat->List Nat):Sp:=λ vs H Q _=>∃r dx l bs rest,vs=[.ref r]/\Ai K t H r dx l bs rest/\(∀c∈bs,c<256)/\Q .qZ (lR t H r dx l bs (f rest))
theorem Ak{i j:Nat}:decide (V.int (i:Int)=V.int (j:Int))=decide (i=j):=by
 rw[lD,aX,beq_iff_eq,decide_eq_true_eq];omega
theorem DS(T:Txt K mg t):Ok P w K mg base 2 t.qA t.pP ["self"] (LS K t λ b=>b.dropWhile λ x=>x != 10):=by
 refine T.sD.fn.rm vQ (λ vs H Q E h=>?_) λ cdv A outer s H vs Q E hr h=>?_
 ·obtain⟨r,dx,l,bs,rest,rfl,_⟩:=h;rfl
 ·obtain⟨r,dx,l,bs,rest,rfl,R,hb,h⟩:=h
  refine⟨_,jy (nY nj (PW.pt (Oc (l6 Fb (mh T.jH T.lN (qm T) hr jU (pv 0)) (kO T.Dc rfl) (kH _))
   (KJ (l6 Fb (mh T.jH T.lN (qm T) hr jU (pv 0)) (kO T.yY rfl) (kH _))))) (jy (uh (pv 0) jL Cs))),?_⟩
  refine⟨λ m σ H'=>∃x,x <:+ bs/\(x.dropWhile λ y=>y != 10)=(rest.dropWhile λ y=>y != 10)/\m=x.length/\σ=[some (.ref r)]/\H'=lR t H r dx l bs x,⟨_,rest,R.Aj,rfl,rfl,rfl,R.self.symm⟩,?_⟩;rintro m σ H' ⟨x,hx,ex,rfl,rfl,rfl⟩;have R':=R.put hx;have nh:(Hu l (pl bs x)).lookup ("here":Str)=none:=xy _ _ (by decide) (by decide);refine⟨_,rfl,r,dx,_,rfl,R'.ins,nh,r,dx,l,bs,x,rfl,R',rfl,_,rfl,?_⟩
  cases x with
  |nil=>
   refine vX ⟨_,rfl,r,dx,_,rfl,R'.ins,nh,r,dx,l,bs,[],rfl,R',rfl,_,rfl,tP ?_⟩;have h:Q V.qZ (lR t H r dx l bs (rest.dropWhile λ y=>y != 10)):=h;rw[<-ex] at h;exact h
  |cons c q=>
   have hc:c<256:=hb c (hx.subset aQ);rw[uV]
   by_cases Yd:c=10
   ·subst Yd;refine tP (tP ?_);have h:Q V.qZ (lR t H r dx l bs (rest.dropWhile λ y=>y != 10)):=h;rw[<-ex] at h;exact h
   ·have e1:(!decide (V.int ((c:Nat):Int)=V.int 10))=true:=by rw[show decide (V.int ((c:Nat):Int)=V.int 10)=decide (c=10) from Ak,decide_eq_false Yd];rfl
    have e2:(!decide (V.int ((c:Nat):Int)=V.int 256))=true:=by rw[show decide (V.int ((c:Nat):Int)=V.int 256)=decide (c=256) from Ak,decide_eq_false (by omega)];rfl
    refine t9 e1 ⟨_,rfl,r,dx,_,rfl,R'.ins,nh,r,dx,l,bs,c::q,rfl,R',rfl,_,rfl,t9 e2 ?_⟩;refine⟨λ σ H'=>σ=[some (.ref r)]/\H'=lR t H r dx l bs q,?_,?_⟩
    ·rintro σ' H' ⟨rfl,rfl⟩;exact⟨q.length,aE _,q,uU hx,by rw[<-ex,bL (by simpa using Yd)],rfl,rfl,rfl⟩
    ·refine⟨_,rfl,r,_,dx,_,_,rfl,R'.ins,T.jH.cl,T.jW,mr _ _,_,_,rfl,rfl,dx,_,R'.ins,(by show 2<1000;decide),?_⟩;refine⟨rfl,?_⟩;rw[xA hx (by simp),qJ];rfl
end
end Ck
end
noncomputable section
namespace Ck
open PySem PySem.Spec PyProof.Rows L2
section
variable{P:Program}{w:World}{K:aj}{mg:Str->Option Value}{base:Heap}{t:Adr}
theorem nR{bs x:List Nat}(s:x <:+ bs):Rd.skip false x <:+ bs:=(Rd.qw false x).trans s
theorem qp{l:Addr}{p:Int}:(Hu l p).lookup ("here":Str)=none:=xy _ _ (by decide) (by decide)
theorem pK(T:Txt K mg t):Ok P w K mg base 3 t.qB t.pQ ["self"] (LS K t (Rd.skip false)):=by
 refine T.mC.fn.rm vR (λ vs H Q E h=>?_) λ cdv A outer s H vs Q E hr h=>?_
 ·obtain⟨r,dx,l,bs,rest,rfl,_⟩:=h;rfl
 ·obtain⟨r,dx,l,bs,rest,rfl,R,hb,h⟩:=h
  have hr1:=hr.mono (show 1<=2 by decide);refine⟨_,jy (nY nj (PW.pt (Ue (l6 pB (mh T.jH T.lN (qm T) hr1 jU (pv 0)) (kO T.GO rfl) (kH _))
   (Ob (l6 yb (mh T.jH T.lN (qm T) hr1 jU (pv 0)) (kO T.PL rfl) (kH _)))))
   (jy (qR (l6 yb (mh T.jH T.lN (qm T) hr1 jU (pv 0)) (kO T.PL rfl) (kH _))
    (jy (j5 (mh T.jH T.sD (DS T) hr jU (pv 0)))) (jy (uh (pv 0) jL Cs))))),?_⟩
  refine⟨λ m σ H'=>∃x,x <:+ bs/\Rd.skip false x=Rd.skip false rest/\m=x.length/\σ=[some (.ref r)]/\H'=lR t H r dx l bs x,⟨_,rest,R.Aj,rfl,rfl,rfl,R.self.symm⟩,?_⟩;rintro m σ H' ⟨x,hx,ex,rfl,rfl,rfl⟩;have R':=R.put hx;rw[<-ex] at h;refine⟨_,rfl,r,dx,_,rfl,R'.ins,qp,r,dx,l,bs,x,rfl,R',_,_,rfl,rfl,_,rfl,?_⟩
  cases x with
  |nil=>exact tP ⟨_,rfl,r,dx,_,rfl,R'.ins,qp,r,dx,l,bs,[],rfl,R',rfl,_,rfl,tP h⟩
  |cons c q=>
   have hc:c<256:=hb c (hx.subset aQ);have step:∀e:(Rd.skip false (c::q)=Rd.skip false q),∀(e2:c≠35),∃N:L2.St->Hp->Prop,(∀σ' H',N σ' H'->∃m',m'<(c::q).length/\∃x,x <:+ bs/\Rd.skip false x=Rd.skip false rest/\m'=x.length/\σ'=[some (.ref r)]/\H'=lR t H r dx l bs x) /\
     N [some (.ref r)] (lR t H r dx l bs q):=λ e _=>
    ⟨λ σ H'=>σ=[some (.ref r)]/\H'=lR t H r dx l bs q,λ σ' H' ⟨a,b⟩=>⟨q.length,aE _,q,uU hx,by rw[<-ex,e],rfl,a,b⟩,rfl,rfl⟩
   by_cases e32:c<=32
   ·have Ye:c≠35:=by omega
    obtain⟨N,n1,n2⟩:=step (by simp[Rd.skip,e32]) Ye;refine t9 (decide_eq_true (show ((c:Nat):Int)<=32 by omega)) (vX ⟨N,n1,?_⟩);refine⟨_,rfl,r,dx,_,rfl,R'.ins,qp,r,dx,l,bs,c::q,rfl,R',rfl,_,rfl,sP (by rw[uV];exact decide_eq_false (λ z=>Ye (by injection z with z;omega))) ?_⟩;refine⟨_,rfl,r,_,dx,_,_,rfl,R'.ins,T.jH.cl,T.jW,mr _ _,_,_,rfl,rfl,dx,_,R'.ins,(by show 2<1000;decide),?_⟩;rw[xA hx (by simp),qJ];exact n2
   ·refine sP (decide_eq_false (show ¬((c:Nat):Int)<=32 by omega)) ?_;refine⟨_,rfl,r,dx,_,rfl,R'.ins,qp,r,dx,l,bs,c::q,rfl,R',rfl,_,rfl,?_⟩
    by_cases e35:c=35
    ·subst e35;have e0:Rd.skip false (35::q)=Rd.skip false (q.dropWhile λ y=>y != 10):=by
      rw[<-Rd.FE];simp[Rd.skip]
     have e1:((35::q).dropWhile λ y=>y != 10)=q.dropWhile λ y=>y != 10:=by rw[bL (by decide)]
     refine vX ⟨λ σ H'=>σ=[some (.ref r)]/\H'=lR t H r dx l bs (q.dropWhile λ y=>y != 10),?_,?_⟩
     ·rintro σ' H' ⟨rfl,rfl⟩;exact⟨_,eu (Rd.dropWhile_len _ q),q.dropWhile (λ y=>y != 10),(dX (l:=q) _).trans (uU hx),by rw[<-ex,e0],rfl,rfl,rfl⟩
     ·refine⟨_,rfl,r,dx,_,rfl,R'.ins,qp,r,dx,l,bs,35::q,rfl,R',rfl,_,rfl,vX ?_⟩;refine⟨_,rfl,r,dx,_,rfl,R'.ins,xy _ _ (by decide) (by decide),r,dx,l,bs,35::q,rfl,R',hb,?_⟩;refine⟨rfl,?_⟩;show lR t (lR t H r dx l bs (35::q)) r dx l bs ((35::q).dropWhile λ y=>y != 10)=_;rw[qJ,e1]
    ·refine sP (by rw[uV];exact decide_eq_false (λ z=>e35 (by injection z with z;omega))) ?_;have e:Rd.skip false (c::q)=c::q:=by simp[Rd.skip,e32,e35]
     rw[e] at h;exact h
theorem NB(T:Txt K mg t):Ok P w K mg base 4 t.vK t.uB ["self"] (λ vs H Q _=>∃r dx l bs rest,vs=[.ref r]/\Ai K t H r dx l bs rest/\(∀c∈bs,c<256)/\Q (.bl (decide (Rd.skip false rest=[]))) (lR t H r dx l bs (Rd.skip false rest))):=by
 refine T.yI.fn.rm AM (λ vs H Q E h=>?_) λ cdv A outer s H vs Q E hr h=>?_
 ·obtain⟨r,dx,l,bs,rest,rfl,_⟩:=h;rfl
 ·obtain⟨r,dx,l,bs,rest,rfl,R,hb,h⟩:=h
  refine⟨_,jv (j5 (mh T.jH T.mC (pK T) hr jU (pv 0))) (jy (jP (nS yb (mh T.jH T.lN (qm T) (hr.mono (by decide)) jU (pv 0)) (kO T.yY rfl) (kH _)))),?_⟩;have R':=R.put (nR R.Aj);refine⟨_,rfl,r,dx,_,rfl,R.ins,xy _ _ (by decide) (by decide),r,dx,l,bs,rest,rfl,R,hb,?_⟩;refine⟨_,rfl,r,dx,_,rfl,R'.ins,qp,r,dx,l,bs,_,rfl,R',rfl,?_⟩;have e:decide (V.int (Rd.here (Rd.skip false rest):Nat)=V.int 256)=decide (Rd.skip false rest=[]):=by
   rw[show decide (V.int (Rd.here (Rd.skip false rest):Nat)=V.int 256)=decide (Rd.here (Rd.skip false rest)=256) from Ak,aX,decide_eq_true_eq,decide_eq_true_eq]
   cases e:Rd.skip false rest with
   |nil=>simp[DR]
   |cons c q=>
    have:c<256:=hb c ((nR R.Aj).subset (by rw[e];exact aQ));rw[uV];simp;omega
  show Q (.bl (decide (V.int (Rd.here (Rd.skip false rest):Nat)=V.int 256))) _;rw[e];exact h
def NC(K:aj)(t:Adr):Sp:=λ vs H Q _=>∃r dx l bs rest,∃m:Nat,vs=[.ref r,.int m]/\m<256/\Ai K t H r dx l bs rest/\(∀c∈bs,c<256)/\Q (.bl (Rd.passes m rest).1) (lR t H r dx l bs (Rd.passes m rest).2)
theorem kE{m:Nat}{bs rest:List Nat}(s:rest <:+ bs):(Rd.passes m rest).2 <:+ bs:=by
 unfold Rd.passes
 split
 ·exact uU (nR s)
 ·exact nR s
theorem qd(T:Txt K mg t):Ok P w K mg base 4 t.vL t.uC ["self","mark"] (NC K t):=by
 refine T.mj.fn.rm AN (λ vs H Q E h=>?_) λ cdv A outer s H vs Q E hr h=>?_
 ·obtain⟨r,dx,l,bs,rest,m,rfl,_⟩:=h;rfl
 ·obtain⟨r,dx,l,bs,rest,m,rfl,hm,R,hb,h⟩:=h
  refine⟨_,jv (j5 (mh T.jH T.mC (pK T) hr jU (pv 0)))
   (jv (qR (l6 Fb (mh T.jH T.lN (qm T) (hr.mono (by decide)) jU (pv 0)) (pv 1) (kH _)) (jy (jP Oa)) ny)
   (jv (uh (pv 0) jL Cs) (jy (jP Oa)))),?_⟩
  have R':=R.put (nR R.Aj);refine⟨_,rfl,r,dx,_,rfl,R.ins,xy _ _ (by decide) (by decide),r,dx,l,bs,rest,rfl,R,hb,?_⟩;refine⟨_,rfl,r,dx,_,rfl,R'.ins,qp,r,dx,l,bs,_,rfl,R',_,rfl,rfl,_,rfl,?_⟩;unfold Rd.passes at h
  by_cases e:Rd.here (Rd.skip false rest)=m
  ·rw[if_pos e] at h;refine sP (by rw[Ak,decide_eq_true e];rfl) ?_;have hne:Rd.skip false rest≠[]:=λ z=>by rw[z,DR] at e;omega
   refine⟨_,rfl,r,_,dx,_,_,rfl,R'.ins,T.jH.cl,T.jW,mr _ _,_,_,rfl,rfl,dx,_,R'.ins,(by show 2<1000;decide),?_⟩;rw[xA (nR R.Aj) hne,qJ];exact h
  ·rw[if_neg e] at h;exact t9 (by rw[Ak,decide_eq_false e];rfl) h
theorem DT{f:Nat->Bool}:∀b:List Nat,b.drop (b.takeWhile f).length=b.dropWhile f
 |[]=>rfl
 |c::r=>by
  by_cases h:f c=true
  ·rw[bF h,bL h];exact DT r
  ·rw[eH h,eS h];rfl
theorem Hi{f:Nat->Bool}(b:List Nat):(b.takeWhile f).length+(b.dropWhile f).length=b.length:=by
 have:=congrArg eF (fR (p:=f) (l:=b))
 rw[aG] at this;exact this
theorem LU{f:Nat->Bool}{bs c:List Nat}(s:c <:+ bs):Mm (jZ bs) (some (pl bs c)) (some (pl bs (c.dropWhile f)))=jZ (c.takeWhile f):=by
 have h1:=s.length_le
 have h2:=Hi (f:=f) c
 unfold Mm pl
 rw[HT.KU,HT.KU,ku,Nat.min_eq_left (by omega),Nat.min_eq_left (by omega)]
 unfold jZ
 rw[<-List.map_drop,<-List.map_take,Qy s]
 congr 1
 rw[show bs.length-(c.dropWhile f).length-(bs.length-c.length)=(c.takeWhile f).length by omega]
 have z:(c.takeWhile f++c.dropWhile f).take (c.takeWhile f).length=c.takeWhile f:=List.take_left
 rw[fR] at z
 exact z
def Kn{α:Type}(o:Option α)(n:Prop)(s:α->Prop):Prop:=match o with
 |none=>n
 |some x=>s x
def Al{α:Type}(K:aj)(t:Adr)(f:List Nat->Option (α×List Nat))(rep:α->V->Hp->Prop):Sp:=λ vs H Q E=>∃r dx l bs rest,vs=[.ref r]/\Ai K t H r dx l bs rest/\(∀c∈bs,c<256) /\
 Kn (f rest) (∀H',E (.ref t.jM) none H') λ x=>x.2 <:+ bs/\∀v H',Ai K t H' r dx l bs x.2->Kp r H H'->rep x.1 v H'->Q v H'
def TupI(w:List Nat)(v:V)(H:Hp):Prop:=∃a,v=.ref a/\H a=some (.tup (jZ w))
theorem BC(b:List Nat):Rd.kC b=if Ra61.isLetter (Rd.here (Rd.skip false b))=true then (if ((Rd.skip false b).takeWhile Ra61.isWord).length<=16 then some ((Rd.skip false b).takeWhile Ra61.isWord,(Rd.skip false b).dropWhile Ra61.isWord) else none) else none:=by
 unfold Rd.kC
 simp only[DT]
theorem yL(b:List Nat):Rd.kI b=if 1<=((Rd.skip false b).takeWhile Ra61.isDigit).length/\((Rd.skip false b).takeWhile Ra61.isDigit).length<=7 then (if Ra61.value ((Rd.skip false b).takeWhile Ra61.isDigit)<=1000000 then some (Ra61.value ((Rd.skip false b).takeWhile Ra61.isDigit),(Rd.skip false b).dropWhile Ra61.isDigit) else none) else none:=by
 unfold Rd.kI
 simp only[DT]
theorem rF(T:Txt K mg t)(kb:K.In base):Ok P w K mg base 4 t.sr t.qW ["self"] (Al K t Rd.kC TupI):=by
 refine T.mW.fn.rm qU (λ vs H Q E h=>?_) λ cdv A outer s H vs Q E hr h=>?_
 ·obtain⟨r,dx,l,bs,rest,rfl,_⟩:=h;rfl
 ·obtain⟨r,dx,l,bs,rest,rfl,R,hb,h⟩:=h
  have hr1:=hr.mono (show 1<=3 by decide);have hr2:=hr.mono (show 2<=3 by decide);refine⟨_,jv (j5 (mh T.jH T.mC (pK T) hr jU (pv 0)))
   (jv (j5 (j6 T.nM (kW T kb) hr1 rfl (jT xl_of) (jt (j6 T.AQ (zZ T) hr1 rfl jU (jt (mh T.jH T.lN (qm T) hr1 jU (pv 0)) jw)) jw)))
   (jv (jV (i:=1) qU.nd rfl (Or.inl rfl) (oO (pv 0) rfl))
   (jv (nY nj (pS (j6 T.zM (BR T) hr2 rfl jU (jt (mh T.jH T.lN (qm T) hr1 jU (pv 0)) jw))) (jy (uh (pv 0) jL Cs)))
   (jv (j5 (j6 T.nM (kW T kb) hr1 rfl (jT xl_of) (jt (nS pB (kP Gs (oO (pv 0) rfl) (pv 1)) (kO T.C8 rfl) (kH _)) jw)))
   (jy (jP (pU EB (by rfl) T.SJ PN (jt (HB K2 (oO (pv 0) rfl) (BX (pv 1)) (BX (oO (pv 0) rfl))) jw)))))))),?_⟩
  have hc:=nR R.Aj;generalize hcc:Rd.skip false rest=c at hc
  have R':=R.put hc;refine⟨_,rfl,r,dx,_,rfl,R.ins,xy _ _ (by decide) (by decide),r,dx,l,bs,rest,rfl,R,hb,?_⟩;rw[hcc];rw[BC,hcc] at h;refine⟨_,rfl,r,dx,_,rfl,R'.ins,qp,r,dx,l,bs,c,rfl,R',_,rfl,_,rfl,?_⟩
  by_cases hL:Ra61.isLetter (Rd.here c)=true
  ·rw[if_pos hL] at h;refine t9 hL ?_;refine⟨_,rfl,r,_,dx,_,_,rfl,R'.ins,T.jH.cl,T.jW,mr _ _,?_⟩;refine⟨λ m σ H'=>∃x,x <:+ c/\x.dropWhile Ra61.isWord=c.dropWhile Ra61.isWord/\m=x.length/\σ=[some (.ref r),some (.int (pl bs c))]/\H'=lR t H r dx l bs x,⟨_,c,fY _,rfl,rfl,rfl,rfl⟩,?_⟩;rintro m σ H' ⟨x,hx,ex,rfl,rfl,rfl⟩;have Rx:=R.put (hx.trans hc);refine⟨_,rfl,r,dx,_,rfl,Rx.ins,qp,r,dx,l,bs,x,rfl,Rx,_,rfl,_,rfl,?_⟩;have done:x=c.dropWhile Ra61.isWord->Jv (Od (KQ (AV t) [] E (Ct (Uj (Jk λ i j=>.bl (decide (i<=j))) (Uj (Jk λ i j=>.int (i-j)) (Ox K (zg 0) "place") (zg 1)) (tC (.int 16))) Hz)))
     (RC (ZI (λ xs H Q=>∃p ys,xs=[.ref p]/\((jO K H p ys/\∀l,H l=none->Q (.ref l) (upd H l (.tup ys)))\/(sQ K H p ys/\Q (.ref p) H))) (Ct (tSl (Xo K) (Ox K (zg 0) "text") (OE (zg 1)) (OE (Ox K (zg 0) "place"))) Hz)))
     { nx:=λ _ H'=>Q .qZ H',rt:=Q } [some (.ref r),some (.int (pl bs c))] (lR t H r dx l bs x):=by
    intro ed;subst ed;refine⟨_,rfl,r,_,dx,_,_,rfl,Rx.ins,T.jH.cl,T.jW,mr _ _,_,rfl,_,_,rfl,rfl,_,_,rfl,rfl,_,rfl,?_⟩;have hl1:=hc.length_le;have hl2:=Hi (f:=Ra61.isWord) c;have e:decide (pl bs (c.dropWhile Ra61.isWord)-pl bs c<=16)=decide ((c.takeWhile Ra61.isWord).length<=16):=by
     rw[aX,decide_eq_true_eq,decide_eq_true_eq];unfold pl;omega
    by_cases hw:(c.takeWhile Ra61.isWord).length<=16
    ·rw[if_pos hw] at h;refine t9 (by rw[e];exact decide_eq_true hw) ?_;refine⟨_,rfl,r,_,dx,_,_,rfl,Rx.ins,T.jH.cl,T.oh,Ah _ _,_,rfl,_,rfl,_,rfl,r,_,dx,_,_,rfl,Rx.ins,T.jH.cl,T.jW,mr _ _,_,rfl,l,_,rfl,Rx.txt,λ p hp=>?_⟩;rw[LU hc];refine⟨p,_,rfl,.inl ⟨jO.of ju,λ a ha=>?_⟩⟩;have s2:=(jz (o:=.lst (jZ (c.takeWhile Ra61.isWord))) hp).trans (jz (o:=.tup (jZ (c.takeWhile Ra61.isWord))) ha);refine h.2 _ _ (Rx.same s2) (Kp.trans Kp.upd (Kp.of s2)) ⟨a,rfl,ju⟩
    ·rw[if_neg hw] at h;exact sP (by rw[e];exact decide_eq_false hw) (h _)
   cases x with
   |nil=>exact sP rfl (done (by rw[<-ex];rfl))
   |cons d q=>
    by_cases hw:Ra61.isWord d=true
    ·refine t9 hw ⟨λ σ H'=>σ=[some (.ref r),some (.int (pl bs c))]/\H'=lR t H r dx l bs q,?_,?_⟩
     ·rintro σ' H' ⟨rfl,rfl⟩;exact⟨q.length,aE _,q,uU hx,by rw[<-ex,bL hw],rfl,rfl,rfl⟩
     ·refine⟨_,rfl,r,_,dx,_,_,rfl,Rx.ins,T.jH.cl,T.jW,mr _ _,_,_,rfl,rfl,dx,_,Rx.ins,(by show 2<1000;decide),rfl,?_⟩;rw[xA (hx.trans hc) (by simp),qJ];rfl
    ·exact sP (show Ra61.isWord d=false by simpa using hw) (done (by rw[<-ex,eS hw]))
  ·rw[if_neg hL] at h;exact sP (by simpa using hL) (h _)
theorem Ko(d:List Nat)(x:Nat):Ra61.value (d++[x])=10*Ra61.value d+(x-48):=by unfold Ra61.value;rw[dw];rfl
theorem Qz{x:Nat}(h:Ra61.isDigit x=true):48<=x:=by
 unfold Ra61.isDigit at h
 rw[aU,decide_eq_true_eq] at h
 exact h.1
theorem IM{f:Nat->Bool}:∀(b:List Nat) (x:Nat),x∈b.takeWhile f->f x=true
 |[],x,h=>by simp at h
 |c::r,x,h=>by
  by_cases hc:f c=true
  ·rw[bF hc] at h
   rcases aC.mp h with rfl | h
   ·exact hc
   ·exact IM r x h
  ·rw[eH hc] at h;simp at h
def IntI(n:Nat)(v:V)(_:Hp):Prop:=v=.int (n:Int)
theorem xB(T:Txt K mg t)(kb:K.In base):Ok P w K mg base 4 t.qC t.pR ["self"] (Al K t Rd.kI IntI):=by
 refine T.oV.fn.rm lB (λ vs H Q E h=>?_) λ cdv A outer s H vs Q E hr h=>?_
 ·obtain⟨r,dx,l,bs,rest,rfl,_⟩:=h;rfl
 ·obtain⟨r,dx,l,bs,rest,rfl,R,hb,h⟩:=h
  have hr1:=hr.mono (show 1<=3 by decide);refine⟨_,jv (j5 (mh T.jH T.mC (pK T) hr jU (pv 0)))
   (jv (jV (i:=1) lB.nd rfl (Or.inl rfl) (oO (pv 0) rfl))
   (jv (nY nj (pS (j6 T.C0 (Bv T) hr1 rfl jU (jt (mh T.jH T.lN (qm T) hr1 jU (pv 0)) jw))) (jy (uh (pv 0) jL Cs)))
   (jv (j5 (j6 T.nM (kW T kb) hr1 rfl (jT xl_of) (jt (ug pB pB jL (kP Gs (oO (pv 0) rfl) (pv 1)) (kO T.EJ rfl)) jw)))
   (jv (jV (i:=2) lB.nd rfl (Or.inl rfl) jL)
   (jv (oN nj rfl (kL (HB K2 (oO (pv 0) rfl) (BX (pv 1)) (BX (oO (pv 0) rfl)))) (j8 (i:=3) lB.nd rfl (Or.inl rfl))
    (jy (jV (i:=2) lB.nd rfl (Or.inl rfl) (kP Gs (kP Cn (kP u4 (pv 2) jL) (pv 3)) (kO T.J0 rfl)))))
   (jv (j5 (j6 T.nM (kW T kb) hr1 rfl (jT xl_of) (jt (nS pB (pv 2) (kO T.zV rfl) (kH _)) jw)))
   (jy (jP (pv 2))))))))),?_⟩
  have hc:=nR R.Aj;generalize hcc:Rd.skip false rest=c at hc
  have R':=R.put hc;refine⟨_,rfl,r,dx,_,rfl,R.ins,xy _ _ (by decide) (by decide),r,dx,l,bs,rest,rfl,R,hb,?_⟩;rw[hcc];rw[yL,hcc] at h;refine⟨_,rfl,r,_,dx,_,_,rfl,R'.ins,T.jH.cl,T.jW,mr _ _,?_⟩;refine⟨λ m σ H'=>∃x,x <:+ c/\x.dropWhile Ra61.isDigit=c.dropWhile Ra61.isDigit/\m=x.length/\σ=[some (.ref r),some (.int (pl bs c)),none,none]/\H'=lR t H r dx l bs x,⟨_,c,fY _,rfl,rfl,rfl,rfl⟩,?_⟩;rintro m σ H' ⟨x,hx,ex,rfl,rfl,rfl⟩;have Rx:=R.put (hx.trans hc);refine⟨_,rfl,r,dx,_,rfl,Rx.ins,qp,r,dx,l,bs,x,rfl,Rx,_,rfl,_,rfl,?_⟩;have fin:Ra61.isDigit (Rd.here x)=false->x=c.dropWhile Ra61.isDigit:=λ hd=>by
   cases x with
   |nil=>rw[<-ex];rfl
   |cons d q=>rw[<-ex,eS (by rw[uV] at hd;simp[hd])]
  cases hd:Ra61.isDigit (Rd.here x) with
  |true=>
   cases x with
   |nil=>rw[DR] at hd;exact absurd hd (by decide)
   |cons d q=>
    refine t9 rfl ⟨λ σ H'=>σ=[some (.ref r),some (.int (pl bs c)),none,none]/\H'=lR t H r dx l bs q,?_,?_⟩
    ·rintro σ' H' ⟨rfl,rfl⟩;exact⟨q.length,aE _,q,uU hx,by rw[<-ex,bL (show Ra61.isDigit d=true from hd)],rfl,rfl,rfl⟩
    ·refine⟨_,rfl,r,_,dx,_,_,rfl,Rx.ins,T.jH.cl,T.jW,mr _ _,_,_,rfl,rfl,dx,_,Rx.ins,(by show 2<1000;decide),rfl,?_⟩;rw[xA (hx.trans hc) (by simp),qJ];rfl
  |false=>
   obtain rfl:=fin hd;refine sP rfl ?_;have hl1:=hc.length_le;have hl2:=Hi (f:=Ra61.isDigit) c;refine⟨_,rfl,r,_,dx,_,_,rfl,Rx.ins,T.jH.cl,T.jW,mr _ _,_,rfl,_,_,rfl,rfl,_,_,rfl,rfl,?_⟩;have q1:decide ((1:Int)<=pl bs (c.dropWhile Ra61.isDigit)-pl bs c)=decide (1<=(c.takeWhile Ra61.isDigit).length):=by
    rw[aX,decide_eq_true_eq,decide_eq_true_eq];unfold pl;omega
   have q2:decide (pl bs (c.dropWhile Ra61.isDigit)-pl bs c<=7)=decide ((c.takeWhile Ra61.isDigit).length<=7):=by
    rw[aX,decide_eq_true_eq,decide_eq_true_eq];unfold pl;omega
   refine⟨_,rfl,?_⟩
   by_cases w1:1<=(c.takeWhile Ra61.isDigit).length
   case neg=>
    rw[if_neg (λ z=>w1 z.1)] at h;exact sP (q1.trans (decide_eq_false w1)) ⟨_,rfl,tP (h _)⟩
   refine t9 (q1.trans (decide_eq_true w1)) ⟨_,_,rfl,rfl,?_⟩
   by_cases hw:(c.takeWhile Ra61.isDigit).length<=7
   ·rw[if_pos ⟨w1,hw⟩] at h;refine⟨_,rfl,t9 (q2.trans (decide_eq_true hw)) ?_⟩;refine⟨_,rfl,r,_,dx,_,_,rfl,Rx.ins,T.jH.cl,T.oh,Ah _ _,_,rfl,_,rfl,_,rfl,r,_,dx,_,_,rfl,Rx.ins,T.jH.cl,T.jW,mr _ _,_,rfl,l,_,rfl,Rx.txt,λ p hp=>?_⟩;rw[LU hc];have s2:=jz (o:=.lst (jZ (c.takeWhile Ra61.isDigit))) hp;refine⟨p,rfl,⟨_,jO.of ju⟩,ue (K:=K) (a:=p) (xs:=jZ (c.takeWhile Ra61.isDigit))
     (λ i σ H'=>∃v3,σ=[some (.ref r),some (.int (pl bs c)),some (.int (Ra61.value ((c.takeWhile Ra61.isDigit).take i):Nat)),v3]/\H'=upd (lR t H r dx l bs (c.dropWhile Ra61.isDigit)) p (.lst (jZ (c.takeWhile Ra61.isDigit))))
     ⟨none,rfl,rfl⟩ (λ i σ H' _ ⟨_,_,e⟩=>by rw[e];exact jO.of ju) ?_ ?_⟩
    ·rintro i y σ H' hi ⟨v3,rfl,rfl⟩;unfold jZ at hi;rw[ai] at hi
     cases ei:(c.takeWhile Ra61.isDigit)[i]? with
     |none=>rw[ei] at hi;cases hi
     |some d=>
      rw[ei] at hi;obtain rfl:=(aW hi).symm;have hd48:=Qz (IM c d (aq ei));refine⟨_,rfl,_,_,rfl,rfl,.inr ⟨by decide,by decide⟩,_,rfl,_,_,rfl,rfl,_,_,rfl,rfl,some (.int (d:Int)),?_,rfl⟩;have et:(c.takeWhile Ra61.isDigit).take (i+1)=(c.takeWhile Ra61.isDigit).take i++[d]:=by rw[gW,ei];rfl
      rw[et,Ko];have:((Ra61.value ((c.takeWhile Ra61.isDigit).take i):Nat):Int)*10+(d:Int)-48=((10*Ra61.value ((c.takeWhile Ra61.isDigit).take i)+(d-48):Nat):Int):=by omega
      rw[<-this];rfl
    ·rintro σ H' ⟨v3,rfl,rfl⟩;rw[ku,cX];refine⟨_,rfl,_,_,rfl,rfl,_,rfl,?_⟩;have e:decide (((Ra61.value (c.takeWhile Ra61.isDigit):Nat):Int)<=1000000)=decide (Ra61.value (c.takeWhile Ra61.isDigit)<=1000000):=sE _ 1000000
     by_cases hv:Ra61.value (c.takeWhile Ra61.isDigit)<=1000000
     ·rw[if_pos hv] at h;refine t9 (by rw[e];exact decide_eq_true hv) ⟨_,rfl,?_⟩;exact h.2 _ _ (Rx.same s2) (Kp.trans Kp.upd (Kp.of s2)) rfl
     ·rw[if_neg hv] at h;exact sP (by rw[e];exact decide_eq_false hv) (h _)
   ·rw[if_neg (λ z=>hw z.2)] at h;exact⟨_,rfl,sP (q2.trans (decide_eq_false hw)) (h _)⟩
theorem Am{l:Addr}{p:Int}{m:Str}(h1:¬m = "place":=by decide)(h2:¬m = "text":=by decide):(Hu l p).lookup m=none:=xy _ _ h1 h2
theorem pL{α:Type}{f:List Nat->Option (α×List Nat)}{rep:α->V->Hp->Prop}{H:Hp}{r dx l:Addr}{bs rest:List Nat}{Q:VK}{E:XK}(R:Ai K t H r dx l bs rest)(hb:∀c∈bs,c<256)
  (hn:f rest=none->∀H',E (.ref t.jM) none H') (hs:∀x,f rest=some x->x.2 <:+ bs/\∀v H',Ai K t H' r dx l bs x.2->Kp r H H'->rep x.1 v H'->Q v H'):Al K t f rep [.ref r] H Q E:=by
 refine⟨r,dx,l,bs,rest,rfl,R,hb,?_⟩
 cases e:f rest with
 |none=>exact hn e
 |some x=>exact hs x e
theorem mO{bs b:List Nat}{x}(s:b <:+ bs)(h:Rd.kC b=some x):x.2 <:+ bs:=by
 rw[BC] at h
 split at h
 ·split at h
  ·cases h;exact (dX _).trans (nR s)
  ·cases h
 ·cases h
theorem pM{bs b:List Nat}{x}(s:b <:+ bs)(h:Rd.kI b=some x):x.2 <:+ bs:=by
 rw[yL] at h
 split at h
 ·split at h
  ·cases h;exact (dX _).trans (nR s)
  ·cases h
 ·cases h
def IntZ(n:Int)(v:V)(_:Hp):Prop:=v=.int n
theorem Hj(T:Txt K mg t)(kb:K.In base):Ok P w K mg base 5 t.Bk t.zC ["reader"] (Al K t Rd.qv IntZ):=by
 refine T.FO.fn.rm vn (λ vs H Q E h=>?_) λ cdv A outer s H vs Q E hr h=>?_
 ·obtain⟨r,dx,l,bs,rest,rfl,_⟩:=h;rfl
 ·obtain⟨r,dx,l,bs,rest,rfl,R,hb,h⟩:=h
  refine⟨_,jv (jV (i:=1) vn.nd rfl (Or.inl rfl) (rP T.jH T.mj (qd T) hr jU (pv 0) (jt (kO T.Lo rfl) jw)))
   (jv (jV (i:=2) vn.nd rfl (Or.inl rfl) (mh T.jH T.oV (xB T kb) hr (jT xl_of) (pv 0)))
   (jv (j5 (j6 T.nM (kW T kb) (hr.mono (by decide)) rfl (jT xl_of) (jt (nS pB (pv 2) (kO T.BP rfl) (kH _)) jw)))
   (jy (jP (zh (pS (pv 1)) (Cm yR (pv 2)) (pv 2)))))),?_⟩
  refine⟨_,rfl,r,dx,_,rfl,R.ins,Am,r,dx,l,bs,rest,45,rfl,by decide,R,hb,?_⟩;unfold Rd.qv at h;rw[ak] at h;have s1:=kE (m:=45) R.Aj;generalize Rd.passes 45 rest=y at h s1
  have R1:=R.put s1;refine⟨_,rfl,r,dx,_,rfl,R1.ins,Am,pL R1 hb (λ e H'=>?_) λ x e=>⟨pM s1 e,λ v H' R2 k2 hv=>?_⟩⟩
  ·rw[e] at h;exact h H'
  ·rw[e,ak] at h;obtain rfl:v=.int (x.1:Int):=hv;refine⟨_,rfl,_,_,rfl,rfl,_,rfl,?_⟩;have e2:decide ((x.1:Int)<=1000)=decide (x.1<=1000):=sE _ 1000
   by_cases hg:x.1<=1000
   ·rw[if_pos hg] at h;refine t9 (e2.trans (decide_eq_true hg)) ⟨_,rfl,_,rfl,?_⟩;have fin:=h.2 (.int (if y.1=true then -(x.1:Int) else (x.1:Int))) H' R2 (Kp.trans Kp.upd k2) rfl
    cases hy:y.1 with
    |true=>rw[hy] at fin;exact vX ⟨_,rfl,_,rfl,fin⟩
    |false=>rw[hy] at fin;exact tP ⟨_,rfl,fin⟩
   ·rw[if_neg hg] at h;exact sP (e2.trans (decide_eq_false hg)) (h _)
def Yg(x:List Nat×Nat)(v:V)(H:Hp):Prop:=∃a b,v=.ref a/\H a=some (.tup [.ref b,.int (x.2:Int)])/\H b=some (.tup (jZ x.1))
theorem tN{bs b:List Nat}{x}(s:b <:+ bs)(h:Rd.oE b=some x):x.2 <:+ bs:=by
 obtain⟨a,h1,h⟩:=Rd.bind_some h
 obtain⟨y,h2,h⟩:=Rd.bind_some h
 cases h2
 obtain⟨n,h3,h⟩:=Rd.bind_some h
 obtain⟨_,h⟩:=Rd.jE h
 cases h
 have s2:=kE (m:=47) (mO s h1)
 split at h3
 ·exact pM s2 h3
 ·cases h3;exact s2
theorem BD(T:Txt K mg t)(kb:K.In base):Ok P w K mg base 5 t.CW t.Bl ["reader"] (Al K t Rd.oE Yg):=by
 refine T.C1.fn.rm sW (λ vs H Q E h=>?_) λ cdv A outer s H vs Q E hr h=>?_
 ·obtain⟨r,dx,l,bs,rest,rfl,_⟩:=h;rfl
 ·obtain⟨r,dx,l,bs,rest,rfl,R,hb,h⟩:=h
  refine⟨_,jv (jV (i:=1) sW.nd rfl (Or.inl rfl) (mh T.jH T.mW (rF T kb) hr (jT xl_of) (pv 0)))
   (jv (jV (i:=2) sW.nd rfl (Or.inl rfl) jL)
   (jv (qR (pS (rP T.jH T.mj (qd T) hr jU (pv 0) (jt (kO T.Lp rfl) jw)))
    (jy (jV (i:=2) sW.nd rfl (Or.inl rfl) (mh T.jH T.oV (xB T kb) hr (jT xl_of) (pv 0)))) ny)
   (jv (j5 (j6 T.nM (kW T kb) (hr.mono (by decide)) rfl (jT xl_of) (jt (ug pB pB jL (pv 2) (kO T.zW rfl)) jw)))
   (jy (jP (Oz (jt (pv 1) (jt (pv 2) jw)))))))),?_⟩
  unfold Rd.oE at h;refine⟨_,rfl,r,dx,_,rfl,R.ins,Am,pL R hb (λ e H'=>?_) λ x e=>⟨mO R.Aj e,λ v H1 R1 k1 hv=>?_⟩⟩
  ·rw[e] at h;exact h H'
  ·rw[e,ak,ak] at h;obtain⟨b,rfl,hb1⟩:=hv;have s2:=kE (m:=47) R1.Aj;refine⟨_,rfl,r,dx,_,rfl,R1.ins,Am,r,dx,l,bs,x.2,47,rfl,by decide,R1,hb,_,rfl,?_⟩;generalize Rd.passes 47 x.2=y at h s2
   have R2:=R1.put s2;have nbr:b≠r:=oZ hb1 R1.ins (by intro q;cases q);have fin:∀(n:Nat) (QA:List Nat) (H3:Hp),Ai K t H3 r dx l bs QA->Kp r (lR t H1 r dx l bs y.2) H3 ->
     Kn (if 1<=n/\n<=1000 then some ((x.1,n),QA) else none:Option ((List Nat×Nat)×List Nat)) (∀H',E (.ref t.jM) none H') (λ z=>z.2 <:+ bs/\∀v H',Ai K t H' r dx l bs z.2->Kp r H H'->Yg z.1 v H'->Q v H') ->
     Jv (Od (KQ (AV t) [] E (Ct (Gu (Jk λ i j=>.bl (decide (i<=j))) (Jk λ i j=>.bl (decide (i<=j))) (tC (.int 1)) (zg 2) (tC (.int 1000))) Hz)))
      (RC (Xh (Ct (zg 1) (Ct (zg 2) Hz)))) { nx:=λ _ H'=>Q .qZ H',rt:=Q } [some (.ref r),some (.ref b),some (.int (n:Int))] H3:=by
    intro n QA H3 R3 k3 h;refine Y4 (x:=(n:Int)) rfl ?_;have e2:(decide ((1:Int)<=n)&&decide ((n:Int)<=1000))=decide (1<=n/\n<=1000):=by
     rw[aX,aU,decide_eq_true_eq,decide_eq_true_eq,decide_eq_true_eq];omega
    rw[e2]
    by_cases hn:1<=n/\n<=1000
    ·rw[if_pos hn] at h;refine⟨_,rfl,t9 (decide_eq_true hn) ⟨_,rfl,_,rfl,(by show 2<=sizeLine;decide),λ p hp=>?_⟩⟩;have s3:=jz (o:=.tup [.ref b,.int (n:Int)]) hp;have hb3:H3 b=some (.tup (jZ x.1)):=k3 b _ nbr (Kp.upd b _ nbr hb1);exact h.2 _ _ (R3.same s3) (((k1.trans Kp.upd).trans k3).trans (Kp.of s3)) ⟨p,b,rfl,ju,s3 _ _ hb3⟩
    ·rw[if_neg hn] at h;exact⟨_,rfl,sP (decide_eq_false hn) (h _)⟩
   cases hy:y.1 with
   |true=>
    rw[hy,if_pos rfl] at h;refine vX ⟨_,rfl,r,dx,_,rfl,R2.ins,Am,pL R2 hb (λ e H'=>?_) λ z e=>⟨pM s2 e,λ v H3 R3 k3 hv=>?_⟩⟩
    ·rw[e] at h;exact h H'
    ·rw[e,ak] at h;obtain rfl:v=.int (z.1:Int):=hv;exact fin z.1 z.2 H3 R3 k3 h
   |false=>
    rw[hy] at h;exact tP (fin 1 y.2 _ R2 (Kp.refl _ _) h)
def BU(nm g wy tot:V):List (Str×V):=nZ "total" tot (nZ "ways" wy (nZ "gain" g (nZ "name" nm [])))
def ND(nm cs:V):List (Str×V):=nZ "choices" cs (nZ "name" nm [])
theorem DU(nm g wy tot:V):(BU nm g wy tot).lookup ("name":Str)=some nm:=by
 unfold BU;rw[jI,if_neg (by decide),jI,if_neg (by decide),jI,if_neg (by decide),jI,if_pos rfl]
theorem xD(nm g wy tot:V):(BU nm g wy tot).lookup ("gain":Str)=some g:=by
 unfold BU;rw[jI,if_neg (by decide),jI,if_neg (by decide),jI,if_pos rfl]
theorem uW(nm g wy tot:V):(BU nm g wy tot).lookup ("ways":Str)=some wy:=by
 unfold BU;rw[jI,if_neg (by decide),jI,if_pos rfl]
theorem qe(nm g wy tot:V):(BU nm g wy tot).lookup ("total":Str)=some tot:=by
 unfold BU;rw[jI,if_pos rfl]
theorem Td(nm g wy tot Y6:V):nZ "ways" Y6 (BU nm g wy tot)=BU nm g Y6 tot:=rfl
theorem IP(nm cs:V):(ND nm cs).lookup ("name":Str)=some nm:=by
 unfold ND;rw[jI,if_neg (by decide),jI,if_pos rfl]
theorem xE(nm cs:V):(ND nm cs).lookup ("choices":Str)=some cs:=by
 unfold ND;rw[jI,if_pos rfl]
def DV(t:Adr):Sp:=λ vs H Q _=>∃x dx nm g wy tot,vs=[.ref x,nm,g,wy,tot]/\H x=some (.ins t.kF dx [])/\Q .qZ (upd H x (.ins t.kF dx (BU nm g wy tot)))
theorem xF(T:Txt K mg t):Ok P w K mg base 1 t.yC t.wU ["self","name","gain","ways","total"] (DV t):=by
 refine T.xg.fn.rm CT (λ vs H Q E h=>?_) λ cdv A outer s H vs Q E hr h=>?_
 ·obtain⟨x,dx,nm,g,wy,tot,rfl,_⟩:=h;rfl
 ·obtain⟨x,dx,nm,g,wy,tot,rfl,hx,h⟩:=h
  refine⟨_,jv (pT (pv 0) (pv 1) rfl) (jv (pT (pv 0) (pv 2) rfl) (jv (pT (pv 0) (pv 3) rfl) (jy (pT (pv 0) (pv 4) rfl)))),?_⟩;refine⟨_,rfl,_,rfl,x,_,dx,_,rfl,hx,T.j0.cl,T.qi,(by show 0<1000;decide),?_⟩;refine⟨_,rfl,_,rfl,x,_,dx,_,rfl,ju,T.j0.cl,T.oj,(by show 1<1000;decide),?_⟩;refine⟨_,rfl,_,rfl,x,_,dx,_,rfl,ju,T.j0.cl,T.mq,(by show 2<1000;decide),?_⟩;refine⟨_,rfl,_,rfl,x,_,dx,_,rfl,ju,T.j0.cl,T.lO,(by show 3<1000;decide),?_⟩;rw[kh,kh,kh];exact h
def EO(t:Adr):Sp:=λ vs H Q _=>∃x dx nm cs,vs=[.ref x,nm,cs]/\H x=some (.ins t.oJ dx [])/\Q .qZ (upd H x (.ins t.oJ dx (ND nm cs)))
theorem EQ(T:Txt K mg t):Ok P w K mg base 1 t.zK t.yD ["self","name","choices"] (EO t):=by
 refine T.C6.fn.rm EH (λ vs H Q E h=>?_) λ cdv A outer s H vs Q E hr h=>?_
 ·obtain⟨x,dx,nm,cs,rfl,_⟩:=h;rfl
 ·obtain⟨x,dx,nm,cs,rfl,hx,h⟩:=h
  refine⟨_,jv (pT (pv 0) (pv 1) rfl) (jy (pT (pv 0) (pv 2) rfl)),?_⟩;refine⟨_,rfl,_,rfl,x,_,dx,_,rfl,hx,T.tK.cl,T.vq,(by show 0<1000;decide),?_⟩;refine⟨_,rfl,_,rfl,x,_,dx,_,rfl,ju,T.tK.cl,T.oK,(by show 1<1000;decide),?_⟩;rw[kh];exact h
def DW(t:Adr):Sp:=λ vs H Q _=>∃x dx l,vs=[.ref x,.ref l]/\H x=some (.ins t.kU dx [])/\Q .qZ (upd H x (.ins t.kU dx (Hu l 0)))
theorem DX(T:Txt K mg t):Ok P w K mg base 1 t.yx t.wQ ["self","text"] (DW t):=by
 refine T.Bt.fn.rm CQ (λ vs H Q E h=>?_) λ cdv A outer s H vs Q E hr h=>?_
 ·obtain⟨x,dx,l,rfl,_⟩:=h;rfl
 ·obtain⟨x,dx,l,rfl,hx,h⟩:=h
  refine⟨_,jv (pT (pv 0) (pv 1) rfl) (jy (pT (pv 0) jL rfl)),?_⟩;refine⟨_,rfl,_,rfl,x,_,dx,_,rfl,hx,T.jH.cl,T.oh,(by show 0<1000;decide),?_⟩;refine⟨_,rfl,x,_,dx,_,rfl,ju,T.jH.cl,T.jW,(by show 1<1000;decide),?_⟩;rw[kh];exact h
theorem qf{H:Hp}{x dx:Addr}{u v:HO}(h1:H x=none)(h2:H dx=none):jF H (upd (upd H dx u) x v):=λ b o e=>by
 rw[jA (jB e h1),jA (jB e h2)];exact e
theorem QB{X:Cx}(K:aj)(e:X.K=K:=by rfl):Xk X (Xm K):=e ▸ Vn
theorem Gj{X:Cx}(K:aj)(e:X.K=K:=by rfl):Xk X (Xl K):=e ▸ K0
def TK(H H':Hp):Prop:=∀b xs,H b=some (.tup xs)->H' b=some (.tup xs)
theorem TK.trans{H H1 H2:Hp}(a:TK H H1)(b:TK H1 H2):TK H H2:=λ c xs e=>b c xs (a c xs e)
theorem jF.tk{H H':Hp}(s:jF H H'):TK H H':=λ b xs e=>s b _ e
theorem TK.upd{H:Hp}{p:Addr}{o u:HO}(e:H p=some u)(h:∀xs,u≠.tup xs):TK H (upd H p o):=λ b xs q=>by
 rw[jA (λ z=>by rw[z,e] at q;cases q;exact h xs rfl)];exact q
theorem Kp.tk{r dx:Addr}{C:Addr}{fs:List (Str×V)}{H H':Hp}(k:Kp r H H')(e:H r=some (.ins C dx fs)):TK H H':=λ b xs q=>k b _ (oZ q e (by intro z;cases z)) q
structure zd(H:Hp)(as bn:List Addr)(ws:List (List Nat×Nat)):Prop where
 len:as.length=ws.length
 Kq:bn.length=ws.length
 at_:∀(i:Nat) (x:List Nat×Nat),ws[i]? = some x->∃a b,as[i]? = some a/\bn[i]? = some b/\H a=some (.tup [.ref b,.int (x.2:Int)])/\H b=some (.tup (jZ x.1))
theorem zd.tk{H H':Hp}{as bn:List Addr}{ws:List (List Nat×Nat)}(W:zd H as bn ws)(k:TK H H'):zd H' as bn ws:=⟨W.len,W.Kq,λ i x e=>let ⟨a,b,h1,h2,h3,h4⟩:=W.at_ i x e;⟨a,b,h1,h2,k _ _ h3,k _ _ h4⟩⟩
theorem zd.one{H:Hp}{a b:Addr}{x:List Nat×Nat}(h1:H a=some (.tup [.ref b,.int (x.2:Int)]))(h2:H b=some (.tup (jZ x.1))):zd H [a] [b] [x]:=
 ⟨rfl,rfl,λ i y e=>by
  cases i with
  |zero=>simp at e;subst e;exact⟨a,b,rfl,rfl,h1,h2⟩
  |succ i=>simp at e⟩
theorem zd.snoc{H:Hp}{as bn:List Addr}{ws:List (List Nat×Nat)}{a b:Addr}{x:List Nat×Nat}(W:zd H as bn ws)(h1:H a=some (.tup [.ref b,.int (x.2:Int)]))(h2:H b=some (.tup (jZ x.1))):zd H (as++[a]) (bn++[b]) (ws++[x]):=
 ⟨by simp[W.len],by simp[W.Kq],λ i y e=>by
  by_cases hi:i<ws.length
  ·rw[bO hi] at e;obtain⟨a',b',q1,q2,q3,q4⟩:=W.at_ i y e;exact⟨a',b',by rw[bO (by rw[W.len];exact hi)];exact q1,by rw[bO (by rw[W.Kq];exact hi)];exact q2,q3,q4⟩
  ·have hi':i<ws.length+1:=by have:=(ao.mp e).1;simpa using this
   have:i=ws.length:=by omega
   subst this;rw[cA] at e
   cases e;exact⟨a,b,by rw[<-W.len,cA],by rw[<-W.Kq,cA],h1,h2⟩⟩
def zn(w:List Nat):List Int:=w.map λ(n:Nat)=>(n:Int)
theorem xW(w:List Nat):jZ w=(zn w).map V.int:=by unfold jZ zn;rw[dO];rfl
theorem DY:∀{a b:List Nat},zn a=zn b->a=b
 |[],[],_=>rfl
 |[],_::_,h=>by simp[zn] at h
 |_::_,[],h=>by simp[zn] at h
 |x::a,y::b,h=>by
  have h':(x:Int)::zn a=(y:Int)::zn b:=h
  injection h' with h1 h2
  rw[Int.ofNat_inj.mp h1,DY h2]
theorem DZ(l:List (List Nat)):(l.map zn).Nodup↔l.Nodup:=by
 rw[List.Nodup,di]
 exact⟨λ z=>dj (λ h1 h2=>h1 (by rw[h2])) z,λ z=>dj (λ h1 h2=>h1 (DY h2)) z⟩
theorem zd.tups{H:Hp}{as bn:List Addr}{ws:List (List Nat×Nat)}(W:zd H as bn ws):rj K H bn ((ws.map λ w=>w.1).map zn):=
 ⟨by simp[W.Kq],λ i a k e1 e2=>by
  rw[ai,ai] at e2
  cases e:ws[i]? with
  |none=>rw[e] at e2;cases e2
  |some x=>
   rw[e] at e2;have e2:some (zn x.1)=some k:=e2
   cases e2;obtain⟨a',b',q1,q2,q3,q4⟩:=W.at_ i x e;rw[e1] at q2
   cases q2;rw[<-xW];exact sQ.of q4⟩
theorem Hl{H0 H:Hp}{l wl:Addr}{xs:List V}{o:HO}(h0:jO K H0 l xs)(hw:H0 wl=none)(h:jO K H l xs):jO K (upd H wl o) l xs:=by
 rcases h0 with h0 | h0
 ·have ne:l≠wl:=by
   rcases h0 with h0 | ⟨ob,h0⟩
   ·exact jB h0 hw
   ·exact jB h0 hw
  rcases h with (h | ⟨ob,h⟩) | h
  ·exact .inl (.inl (by rw[jA ne];exact h))
  ·exact .inl (.inr ⟨ob,by rw[jA ne];exact h⟩)
  ·exact .inr h
 ·exact .inr h0
def ChI(t:Adr)(c:Ra61.RawChoice)(v:V)(H0 H:Hp):Prop:=∃a dx nm wy as bn,v=.ref a/\H a=some (.ins t.kF dx (BU (.ref nm) (.int c.gain) (.ref wy) (.int (c.ways.map λ w=>(w.2:Int)).sum))) /\
 H nm=some (.tup (jZ c.name))/\H wy=some (.lst (as.map V.ref))/\zd H as bn c.ways/\H0 a=none/\H0 wy=none
def D0{α:Type}(K:aj)(t:Adr)(f:List Nat->Option (α×List Nat))(rep:α->V->Hp->Hp->Prop):Sp:=λ vs H Q E=>∃r dx l bs rest,vs=[.ref r]/\Ai K t H r dx l bs rest/\(∀c∈bs,c<256) /\
 Kn (f rest) (∀H',E (.ref t.jM) none H') λ x=>x.2 <:+ bs/\∀v H',Ai K t H' r dx l bs x.2->Kp r H H'->rep x.1 v H H'->Q v H'
theorem Gk{α:Type}{f:List Nat->Option (α×List Nat)}{rep:α->V->Hp->Hp->Prop}{H:Hp}{r dx l:Addr}{bs rest:List Nat}{Q:VK}{E:XK}(R:Ai K t H r dx l bs rest)(hb:∀c∈bs,c<256)
  (hn:f rest=none->∀H',E (.ref t.jM) none H') (hs:∀x,f rest=some x->x.2 <:+ bs/\∀v H',Ai K t H' r dx l bs x.2->Kp r H H'->rep x.1 v H H'->Q v H'):D0 K t f rep [.ref r] H Q E:=by
 refine⟨r,dx,l,bs,rest,rfl,R,hb,?_⟩
 cases e:f rest with
 |none=>exact hn e
 |some x=>exact hs x e
def Er(H H':Hp):Prop:=∀b,H' b=none->H b=none
theorem Er.refl(H:Hp):Er H H:=λ _ e=>e
theorem Er.trans{H H1 H2:Hp}(a:Er H H1)(b:Er H1 H2):Er H H2:=λ c e=>a c (b c e)
theorem Kp.Es{r:Addr}{H H':Hp}{o:HO}(k:Kp r H H')(e:H' r=some o):Er H H':=λ b z=>by
 cases q:H b with
 |none=>rfl
 |some u=>
  by_cases hb:b=r
  ·rw[hb,e] at z;cases z
  ·rw[k b u hb q] at z;cases z
theorem jF.Es{H H':Hp}(s:jF H H'):Er H H':=λ b z=>by
 cases q:H b with
 |none=>rfl
 |some u=>rw[s b u q] at z;cases z
theorem An{bs b:List Nat}{x}(s:b <:+ bs)(h:Rd.qv b=some x):x.2 <:+ bs:=by
 obtain⟨a,h1,h⟩:=Rd.bind_some h
 cases h1
 obtain⟨n,h3,h⟩:=Rd.bind_some h
 obtain⟨_,h⟩:=Rd.jE h
 cases h
 exact pM (kE s) h3
theorem take_snoc{α:Type}{l:List α}{i:Nat}{x:α}(h:l[i]? = some x):l.take (i+1)=l.take i++[x]:=by rw[gW,h];rfl
theorem at0{b:Addr}{n:Int}:Ht [V.ref b,V.int n] 0=some (.ref b):=rfl
theorem Ro{b:Addr}{n:Int}:Ht [V.ref b,V.int n] 1=some (.int n):=rfl
theorem D6(T:Txt K mg t)(kb:K.In base):Ok P w K mg base 6 t.ym t.wH ["reader"] (D0 K t Rd.lW (ChI t)):=by
 refine T.Bq.fn.rm lJ (λ vs H Q E h=>?_) λ cdv A outer s H vs Q E hr h=>?_
 ·obtain⟨r,dx,l,bs,rest,rfl,_⟩:=h;rfl
 ·obtain⟨r,dx,l,bs,rest,rfl,R,hb,h⟩:=h
  have LV:=hr.mono (show 4<=5 by decide);have hr2:=hr.mono (show 2<=5 by decide);have hr1:=hr.mono (show 1<=5 by decide);refine⟨_,jv (jV (i:=1) lJ.nd rfl (Or.inl rfl) (mh T.jH T.mW (rF T kb) LV (jT xl_of) (pv 0)))<|
   jv (jV (i:=2) lJ.nd rfl (Or.inl rfl) (j6 T.FO (Hj T kb) hr rfl (jT xl_of) (jt (pv 0) jw)))<|
   jv (j5 (j6 T.nM (kW T kb) hr1 rfl (jT xl_of) (jt (rP T.jH T.mj (qd T) LV jU (pv 0) (jt (kO T.SI rfl) jw)) jw)))<|
   jv (jV (i:=3) lJ.nd rfl (Or.inl rfl) (mV (jt (j6 T.C1 (BD T kb) hr rfl (jT xl_of) (jt (pv 0) jw)) jw)))<|
   jv (nY nj (pS (rP T.jH T.mj (qd T) LV jU (pv 0) (jt (kO T.SH rfl) jw)))
    (jy (j5 (Be bN cg cu rG (pv 3) (jt (j6 T.C1 (BD T kb) hr rfl (jT xl_of) (jt (pv 0) jw)) jw)))))<|
   jv (j5 (j6 T.nM (kW T kb) hr1 rfl (jT xl_of) (jt (rP T.jH T.mj (qd T) LV jU (pv 0) (jt (kO T.Il rfl) jw)) jw)))<|
   jv (j5 (j6 T.nM (kW T kb) hr1 rfl (jT xl_of) (jt (j6 T.vp (ua T) hr1 rfl jU (jt
     (o5 (own:=[("way",4)]) rfl lJ.nd (kL (pv 3)) (ko rfl) (λ _ _ _ _ _=>j8 (i:=4) lJ.nd rfl (Or.inl rfl)) (λ _ _ _ _ _=>kQ) (λ _ _ _ _ _=>mi (QB K) (pv 4) jL (λ _ _=>rfl))) jw)) jw)))<|
   jy (jP (CH T.j0 T.xg (xF T) hr2 rfl jU (jt (pv 1)<|jt (pv 2)<|jt (pv 3)<|jt (kj (OG rfl) (by rfl) T.Ux PP (jt
     (o5 (own:=[("way",4)]) rfl lJ.nd (kL (pv 3)) (ko rfl) (λ _ _ _ _ _=>j8 (i:=4) lJ.nd rfl (Or.inl rfl)) (λ _ _ _ _ _=>kQ) (λ _ _ _ _ _=>mi (QB K) (pv 4) jL (λ _ _=>rfl))) jw)) jw))),?_⟩
  rw[Rd.n6] at h;refine⟨_,rfl,r,dx,_,rfl,R.ins,Am,pL R hb (λ e H'=>?_) λ x e=>⟨mO R.Aj e,λ v H1 R1 k1 hv=>?_⟩⟩
  ·rw[e] at h;exact h H'
  rw[e,ak] at h;have lx:=Rd.lI e;obtain⟨nm,rfl,hnm⟩:=hv;refine⟨_,rfl,pL R1 hb (λ e H'=>?_) λ g e=>⟨An R1.Aj e,λ v H2 R2 k2 hv=>?_⟩⟩
  ·rw[e] at h;exact h H'
  rw[e,ak] at h;have lg:=Rd.sV e;obtain rfl:v=.int g.1:=hv;refine⟨_,rfl,r,dx,_,rfl,R2.ins,Am,r,dx,l,bs,g.2,58,rfl,by decide,R2,hb,?_⟩;have s3:=kE (m:=58) R2.Aj;have l3:=Rd.jQ 58 g.2;generalize Rd.passes 58 g.2=y at h s3 l3
  refine⟨_,rfl,?_⟩
  cases hy:y.1 with
  |false=>rw[hy] at h;exact tP (h _)
  |true=>
  rw[hy,if_pos rfl] at h;refine vX ?_;have R3:=R2.put s3;have Z0:TK H1 (lR t H2 r dx l bs y.2):=(Kp.tk k2 R1.ins).trans (Kp.tk Kp.upd R2.ins);refine⟨_,rfl,pL R3 hb (λ e H'=>?_) λ w0 e=>⟨tN s3 e,λ v H4 R4 k4 hv=>?_⟩⟩
  ·rw[e] at h;exact h H'
  rw[e,ak] at h;have lw:=Rd.lX e;obtain⟨a0,b0,rfl,ha0,hb0⟩:=hv;have Yh:=R.Aj.length_le;have hlen:=R.len;refine⟨(by show 1<=sizeLine;decide),λ wl hwl=>?_⟩;have Yi:=jz (o:=.lst [V.ref a0]) hwl;have tk5:TK H1 (upd H4 wl (.lst [V.ref a0])):=(Z0.trans (Kp.tk k4 R3.ins)).trans (jF.tk Yi);refine⟨λ m σ H'=>∃(acc:List (List Nat×Nat)) (as bn:List Addr) (q:List Nat),(Rd.MW w0.2).map (λ z=>(w0.1::z.1,z.2))=(Rd.MW q).map (λ z=>(acc++z.1,z.2))/\2*acc.length+q.length<=65536/\m=q.length /\
   σ=[some (.ref r),some (.ref nm),some (.int g.1),some (.ref wl),none]/\Ai K t H' r dx l bs q/\H' wl=some (.lst (as.map V.ref))/\zd H' as bn acc/\TK H1 H'/\(∀b o,b≠r->H b=some o->H' b=some o)/\H wl=none,
   ⟨_,[w0.1],[a0],[b0],w0.2,rfl,?_,rfl,rfl,R4.same Yi,ju,zd.one (Yi _ _ ha0) (Yi _ _ hb0),tk5,?_,?_⟩,?_⟩
  ·simp;omega
  ·intro b o Et eb;exact Yi b o (k4 b o Et (Kp.upd b o Et (k2 b o Et (k1 b o Et eb))))
  ·cases q:H wl with
   |none=>rfl
   |some o=>
    have hne:wl≠r:=λ z=>by rw[z,R4.ins] at hwl;cases hwl
    rw[k4 wl o hne (Kp.upd wl o hne (k2 wl o hne (k1 wl o hne q)))] at hwl
    cases hwl
  rintro m σ H' ⟨acc,as,bn,q,inv,hq2,rfl,rfl,Rq,hwq,W,tkq,kq,hw0⟩;refine⟨_,rfl,r,dx,_,rfl,Rq.ins,Am,r,dx,l,bs,q,44,rfl,by decide,Rq,hb,_,rfl,?_⟩;have hmap:((Rd.MW w0.2).bind λ r=>if (Rd.passes 59 r.2).1=true then if ((w0.1::r.1).map λ w=>w.1).Nodup then some ((⟨x.1,g.1,w0.1::r.1⟩:Ra61.RawChoice),(Rd.passes 59 r.2).2) else none else none) =
    (Rd.MW q).bind λ r=>if (Rd.passes 59 r.2).1=true then if ((acc++r.1).map λ w=>w.1).Nodup then some ((⟨x.1,g.1,acc++r.1⟩:Ra61.RawChoice),(Rd.passes 59 r.2).2) else none else none:=by
   have:=congrArg (λ o:Option (List (List Nat×Nat)×List Nat)=>o.bind λ r=>if (Rd.passes 59 r.2).1=true then if (r.1.map λ w=>w.1).Nodup then some ((⟨x.1,g.1,r.1⟩:Ra61.RawChoice),(Rd.passes 59 r.2).2) else none else none) inv;simp only[Option.bind_map] at this
   exact this
  rw[hmap,Rd.zw] at h;have sq:=kE (m:=44) Rq.Aj;have lq:=Rd.jQ 44 q;have lq':=Rd.xQ (m:=44) (b:=q) (by decide);have hstep:=Rd.zw q;generalize Rd.passes 44 q=y2 at h sq lq lq' hstep
  have R6:=Rq.put sq;have tk6:TK H' (lR t H' r dx l bs y2.2):=Kp.tk Kp.upd Rq.ins;have hwr:wl≠r:=oZ hwq Rq.ins (by intro z;cases z);have hw6:lR t H' r dx l bs y2.2 wl=some (.lst (as.map V.ref)):=by unfold lR;rw[jA hwr];exact hwq
  cases NZ:y2.1 with
  |true=>
   rw[NZ,if_pos rfl] at h hstep;refine vX ⟨λ σ H7=>∃(q7:List Nat) (x7:List Nat×Nat) (a7 b7:Addr),(Rd.MW w0.2).map (λ z=>(w0.1::z.1,z.2))=(Rd.MW q7).map (λ z=>((acc++[x7])++z.1,z.2))/\q7.length<q.length/\2*(acc++[x7]).length+q7.length<=65536 /\
    σ=[some (.ref r),some (.ref nm),some (.int g.1),some (.ref wl),none]/\Ai K t H7 r dx l bs q7/\H7 wl=some (.lst ((as++[a7]).map V.ref))/\zd H7 (as++[a7]) (bn++[b7]) (acc++[x7])/\TK H1 H7/\(∀b o,b≠r->H b=some o->H7 b=some o),?_,?_⟩
   ·rintro σ7 H7 ⟨q7,x7,a7,b7,i1,i2,i3,rfl,i5,i6,i7,i8,i9⟩;exact⟨_,i2,acc++[x7],as++[a7],bn++[b7],q7,i1,i3,rfl,rfl,i5,i6,i7,i8,i9,hw0⟩
   ·refine⟨_,rfl,.inl ⟨rfl,_,jO.of hw6⟩,?_⟩;refine⟨_,rfl,pL R6 hb (λ e H'=>?_) λ x7 e=>⟨tN sq e,λ v H7 R7 k7 hv=>?_⟩⟩
    ·rw[e] at h;exact h H'
    obtain⟨a7,b7,rfl,ha7,hb7⟩:=hv;have Te:H7 wl=some (.lst (as.map V.ref)):=k7 wl _ hwr hw6;have WL:TK H' H7:=tk6.trans (Kp.tk k7 R6.ins);have l7:=Rd.lX e;have l8:=lq' NZ;have hasl:as.length<=65536:=by rw[W.len];omega
    refine⟨wl,_,_,rfl,rfl,Te,?_,?_⟩
    ·rw[ah,sizeLine_eq];omega
    have tk8:TK H7 (upd H7 wl (.lst (as.map V.ref++[.ref a7]))):=TK.upd Te (by intro xs z;cases z);refine⟨x7.2,x7.1,a7,b7,?_,by omega,by simp;omega,rfl,?_,?_,?_,(tkq.trans WL).trans tk8,?_⟩
    ·rw[inv,hstep,e,ak,iS]
     congr 1;funext z;simp
    ·exact⟨by rw[jA hwr.symm];exact R7.ins,Hl R.txt hw0 R7.txt,R7.Aj,R7.len⟩
    ·rw[ju,bh];rfl
    ·exact ((W.tk WL).snoc ha7 hb7).tk tk8
    ·intro b o Et eb;rw[jA (jB eb hw0)];exact k7 b o Et (Kp.upd b o Et (kq b o Et eb))
  |false=>
   rw[NZ] at h;simp only[aN,if_false,ak,cF] at h
   refine tP ?_;refine⟨_,rfl,r,dx,_,rfl,R6.ins,Am,r,dx,l,bs,y2.2,59,rfl,by decide,R6,hb,?_⟩;have s7:=kE (m:=59) R6.Aj;generalize Rd.passes 59 y2.2=y3 at h s7
   refine⟨_,rfl,?_⟩
   cases hy3:y3.1 with
   |false=>rw[hy3] at h;exact tP (h _)
   |true=>
   rw[hy3,if_pos rfl] at h;refine vX ?_;have R7:=R6.put s7;rw[qJ] at R7;rw[qJ];have WL:TK H' (lR t H' r dx l bs y3.2):=Kp.tk Kp.upd Rq.ins;have Te:lR t H' r dx l bs y3.2 wl=some (.lst (as.map V.ref)):=by unfold lR;rw[jA hwr];exact hwq
   have W7:=W.tk WL;generalize hHc:lR t H' r dx l bs y3.2=Hc at R7 WL Te W7
   have kc:∀b o,b≠r->H b=some o->Hc b=some o:=λ b o Et eb=>by rw[<-hHc];exact Kp.upd b o Et (kq b o Et eb)
   have acl:acc.length<=32768:=by omega
   refine⟨_,rfl,wl,rfl,⟨_,jO.of Te⟩,λ D hD=>mE (K:=K) (a:=wl) (xs:=as.map V.ref) (λ i H8=>H8=upd Hc D (.lst ((bn.map V.ref).take i))) rfl (λ i H8 _ e8=>by rw[e8];exact jO.of (by rw[jA (jB Te hD)];exact Te)) ?_ ?_⟩
   ·rintro i v H8 hi rfl;rw[ai] at hi;obtain⟨ha,ea⟩:∃a,as[i]? = some a:=by
     cases ea:as[i]? with
     |none=>rw[ea] at hi;cases hi
     |some a=>exact⟨a,rfl⟩
    rw[ea] at hi
    cases hi;have hil:i<acc.length:=by rw[<-W7.len];exact (ao.mp ea).1
    obtain⟨a',b',q1,q2,q3,q4⟩:=W7.at_ i acc[i] (af hil);rw[ea] at q1
    cases q1;refine⟨rfl,?_⟩;refine⟨_,rfl,ha,_,_,_,rfl,rfl,sQ.of (by rw[jA (jB q3 hD)];exact q3),at0,(bn.map V.ref).take i,ju,?_,?_⟩
    ·rw[aR,sizeLine_eq];have:=W7.Kq;simp;omega
    ·rw[kh,take_snoc (l:=bn.map V.ref) (x:=V.ref b') (by rw[ai,q2];rfl)]
   ·rintro H8 rfl;rw[ah,show (bn.map V.ref).take as.length=bn.map V.ref from aA (by rw[ah,W7.Kq,W7.len];exact au _)];have Ho:=jz (o:=.lst (bn.map V.ref)) hD;refine⟨D,bn,_,rfl,jO.of ju,(W7.tk (jF.tk Ho)).tups,by simp;exact acl,λ H9 Tf=>?_⟩;refine⟨_,rfl,?_⟩;have end_:decide (((acc.map λ w=>w.1).map zn).Nodup)=decide ((acc.map λ w=>w.1).Nodup):=by
     rw[aX,decide_eq_true_eq,decide_eq_true_eq];exact DZ _
    by_cases nd:(acc.map λ w=>w.1).Nodup
    case neg=>rw[if_neg nd] at h;exact sP (end_.trans (decide_eq_false nd)) (h _)
    rw[if_pos nd] at h;refine t9 (end_.trans (decide_eq_true nd)) ?_;have sm:=Ho.trans Tf;have hw9:=sm _ _ Te;have W9:=W7.tk (jF.tk sm);refine⟨_,rfl,_,rfl,_,rfl,_,rfl,wl,rfl,⟨_,jO.of hw9⟩,λ D2 N1=>mE (K:=K) (a:=wl) (xs:=as.map V.ref) (λ i WD=>WD=upd H9 D2 (.lst (((acc.map λ w=>(w.2:Int)).map V.int).take i))) rfl (λ i WD _ Yd=>by rw[Yd];exact jO.of (by rw[jA (jB hw9 N1)];exact hw9)) ?_ ?_⟩
    ·rintro i v WD hi rfl;rw[ai] at hi;obtain⟨ha,ea⟩:∃a,as[i]? = some a:=by
      cases ea:as[i]? with
      |none=>rw[ea] at hi;cases hi
      |some a=>exact⟨a,rfl⟩
     rw[ea] at hi
     cases hi;have hil:i<acc.length:=by rw[<-W9.len];exact (ao.mp ea).1
     obtain⟨a',b',q1,q2,q3,q4⟩:=W9.at_ i acc[i] (af hil);rw[ea] at q1
     cases q1;refine⟨rfl,?_⟩;refine⟨_,rfl,ha,_,_,_,rfl,rfl,sQ.of (by rw[jA (jB q3 N1)];exact q3),Ro,_,ju,?_,?_⟩
     ·rw[aR,sizeLine_eq];simp;omega
     ·rw[kh,take_snoc (l:=(acc.map λ w=>(w.2:Int)).map V.int) (x:=V.int ((acc[i]).2:Int)) (by rw[ai,ai,af hil];rfl)]
    ·rintro WD rfl;rw[ah,show ((acc.map λ w=>(w.2:Int)).map V.int).take as.length=(acc.map λ w=>(w.2:Int)).map V.int from aA (by rw[ah,ah,W9.len];exact au _)];have Yj:=jz (o:=.lst ((acc.map λ w=>(w.2:Int)).map V.int)) N1;refine⟨D2,_,rfl,jO.of ju,?_⟩;intro c dc hc hdc hne;refine⟨c,dc,_,_,_,_,rfl,ju,rfl,?_⟩;rw[kh];have D7:=(sm.trans Yj).trans (qf (u:=.own c) (v:=.ins t.kF dc (BU (.ref nm) (.int g.1) (.ref wl) (.int (acc.map λ w=>(w.2:Int)).sum))) hc hdc);refine h.2 _ _ (R7.same D7) (λ b o Et eb=>D7 b o (kc b o Et eb)) ⟨c,dc,nm,wl,as,bn,rfl,ju,?_,D7 _ _ Te,W7.tk (jF.tk D7),?_,hw0⟩
     ·exact (jF.tk D7) _ _ (WL _ _ (tkq _ _ hnm))
     ·exact (Kp.Es kc R7.ins) c ((jF.Es (sm.trans Yj)) c hc)
theorem Ao{H:Hp}:∀k:List Int,Cw K H (k.map V.int) (k.map PyData.int)
 |[]=>.nil
 |i::k=>.cons (.int i) (Ao k)
theorem lay_ints:∀k:List Int,PyData.canLayAll0 (k.map PyData.int)=true
 |[]=>by rw[bV,PyData.canLayAll0]
 |i::k=>by rw[aS,PyData.canLayAll0,lay_ints k,PyData.canLay0];rfl
theorem ze:∀k:List Int,PyData.depthAll (k.map PyData.int)=0
 |[]=>by rw[bV,PyData.depthAll]
 |i::k=>by rw[aS,PyData.depthAll,ze k,PyData.depth];rfl;all_goals (intros;simp)
theorem shaped_ints(k:List Int):SeqAt.shaped (.tuple (k.map PyData.int))=true:=by
 unfold SeqAt.shaped
 rw[PyData.canLay0,PyData.depth,lay_ints,ze];rfl
theorem D8:∀k m:List Int,PyData.eqvAll (k.map PyData.int) (m.map PyData.int)=decide (k=m)
 |[],[]=>by simp[PyData.eqvAll]
 |[],_::_=>by simp[PyData.eqvAll]
 |_::_,[]=>by simp[PyData.eqvAll]
 |i::k,j::m=>by
  rw[aS,aS,PyData.eqvAll,D8 k m,PyData.eqv,aX];simp
def rEqT(K:aj):R2:=λ x y H Q=>∃(a b:Addr) (k m:List Int),x=.ref a/\y=.ref b/\sQ K H a (k.map V.int)/\sQ K H b (m.map V.int)/\Q (.bl (decide (k=m))) H
theorem V1{X:Cx}(K:aj)(hu:X.A.units+64<cLine)(e:X.K=K:=by rfl):xN X (compareOp .Eq) (rEqT K):=by
 subst e
 intro pins s σ H x y v u Q I rx ry h
 obtain⟨a,b,k,m,rfl,rfl,ha,hb,q⟩:=h
 refine OI hu pins s σ H _ _ v u Q I rx ry ⟨_,_,.tup ha (Ao k),.tup hb (Ao m),shaped_ints k,shaped_ints m,?_⟩
 rw[PyData.eqv,D8];exact q
theorem jX{X:Cx}{e:Expr}{f:Str}{pos:Pos}{ta:TE}(K:aj)(he:PE X e ta)(hb:attributeBase e f X.env (eval e X.env)=eval e X.env)(eK:X.K=K:=by rfl):PE X (.Attribute e f pos) (Ox K ta f):=eK ▸ oO he hb
structure Ea{α:Type}(R:α->Addr->Prop)(as:List Addr)(xs:List α):Prop where
 len:as.length=xs.length
 at_:∀(i:Nat) (x:α),xs[i]? = some x->∃a,as[i]? = some a/\R x a
theorem Ea.mono{α:Type}{R S:α->Addr->Prop}{as:List Addr}{xs:List α}(E:Ea R as xs)(h:∀x a,R x a->S x a):Ea S as xs:=
 ⟨E.len,λ i x e=>let ⟨a,e1,e2⟩:=E.at_ i x e;⟨a,e1,h x a e2⟩⟩
theorem Ea.nil{α:Type}{R:α->Addr->Prop}:Ea R [] []:=⟨rfl,λ i x e=>by simp at e⟩
theorem Ea.snoc{α:Type}{R:α->Addr->Prop}{as:List Addr}{xs:List α}{a:Addr}{x:α}(E:Ea R as xs)(h:R x a):Ea R (as++[a]) (xs++[x]):=
 ⟨by simp[E.len],λ i y e=>by
  by_cases hi:i<xs.length
  ·rw[bO hi] at e;obtain⟨a',q1,q2⟩:=E.at_ i y e;exact⟨a',by rw[bO (by rw[E.len];exact hi)];exact q1,q2⟩
  ·have hi':i<xs.length+1:=by have:=(ao.mp e).1;simpa using this
   obtain rfl:i=xs.length:=by omega
   rw[cA] at e
   cases e;exact⟨a,by rw[<-E.len,cA],h⟩⟩
theorem Ea.get{α:Type}{R:α->Addr->Prop}{as:List Addr}{xs:List α}(E:Ea R as xs){i:Nat}{a:Addr}(h:as[i]? = some a):∃x,xs[i]? = some x/\R x a:=by
 have hi:i<xs.length:=by rw[<-E.len];exact (ao.mp h).1
 obtain⟨a',e1,e2⟩:=E.at_ i _ (af hi)
 rw[h] at e1
 cases e1
 exact⟨_,af hi,e2⟩
theorem lC{as:List Addr}{i:Nat}{v:V}(h:(as.map V.ref)[i]? = some v):∃a,as[i]? = some a/\v=.ref a:=by
 rw[ai] at h
 cases e:as[i]? with
 |none=>rw[e] at h;cases h
 |some a=>rw[e] at h;cases h;exact⟨a,rfl,rfl⟩
abbrev Gm(t:Adr)(H0 H:Hp)(c:Ra61.RawChoice)(a:Addr):Prop:=ChI t c (.ref a) H0 H
theorem Gm.kp{H0 H H':Hp}{c:Ra61.RawChoice}{a p:Addr}{o u:HO}(h:Gm t H0 H c a)(hp:H0 p=some o)(hq:H p=some u)(hu:∀xs,u≠.tup xs)(k:Kp p H H'):Gm t H0 H' c a:=by
 obtain⟨a',dx,nm,wy,as,bn,e,h1,h2,h3,h4,h5,h6⟩:=h
 have tk:TK H H':=λ b xs q=>k b _ (λ z=>by rw[z,hq] at q;cases q;exact hu xs rfl) q
 exact⟨a',dx,nm,wy,as,bn,e,k _ _ (λ z=>by rw[z,hp] at h5;cases h5) h1,tk _ _ h2,k _ _ (λ z=>by rw[z,hp] at h6;cases h6) h3,h4.tk tk,h5,h6⟩
theorem Gm.same{H0 H H':Hp}{c:Ra61.RawChoice}{a:Addr}(h:Gm t H0 H c a)(s:jF H H'):Gm t H0 H' c a:=by
 obtain⟨a',dx,nm,wy,as,bn,e,h1,h2,h3,h4,h5,h6⟩:=h
 exact⟨a',dx,nm,wy,as,bn,e,s _ _ h1,s _ _ h2,s _ _ h3,h4.tk (jF.tk s),h5,h6⟩
theorem Gm.Es{H0 Yk H:Hp}{c:Ra61.RawChoice}{a:Addr}(h:Gm t H0 H c a)(s:Er Yk H0):Gm t Yk H c a:=by
 obtain⟨a',dx,nm,wy,as,bn,e,h1,h2,h3,h4,h5,h6⟩:=h
 exact⟨a',dx,nm,wy,as,bn,e,h1,h2,h3,h4,s _ h5,s _ h6⟩
def Jt(t:Adr)(H0 H:Hp)(s:Ra61.RawState)(a cl:Addr)(oY:List Addr):Prop:=∃dx nm,H a=some (.ins t.oJ dx (ND (.ref nm) (.ref cl)))/\H nm=some (.tup (jZ s.name))/\H cl=some (.lst (oY.map V.ref)) /\
 Ea (Gm t H0 H) oY s.choices/\oY.Nodup/\H0 a=none/\H0 cl=none
def StI(t:Adr)(s:Ra61.RawState)(v:V)(H0 H:Hp):Prop:=∃a cl oY,v=.ref a/\Jt t H0 H s a cl oY
theorem D9{b:List Nat}{x}(h:Rd.lW b=some x):x.2.length+2<=b.length:=by
 rw[Rd.n6] at h
 obtain⟨a,h1,h⟩:=Rd.bind_some h
 obtain⟨g,h2,h⟩:=Rd.bind_some h
 obtain⟨_,h⟩:=Rd.jE h
 obtain⟨y,h4,h⟩:=Rd.bind_some h
 obtain⟨r,h5,h⟩:=Rd.bind_some h
 obtain⟨_,h⟩:=Rd.jE h
 obtain⟨_,h⟩:=Rd.jE h
 cases h
 have:=Rd.lI h1;have:=Rd.sV h2;have:=Rd.jQ 58 g.2;have:=Rd.lX h4;have:=Rd.wz h5;have:=Rd.jQ 59 r.2
 simp only;omega
theorem xG{bs b:List Nat}{x}(s:b <:+ bs)(h:Rd.lW b=some x):x.2 <:+ bs:=by
 rw[Rd.n6] at h
 obtain⟨a,h1,h⟩:=Rd.bind_some h
 obtain⟨g,h2,h⟩:=Rd.bind_some h
 obtain⟨_,h⟩:=Rd.jE h
 obtain⟨y,h4,h⟩:=Rd.bind_some h
 obtain⟨r,h5,h⟩:=Rd.bind_some h
 obtain⟨_,h⟩:=Rd.jE h
 obtain⟨_,h⟩:=Rd.jE h
 cases h
 have s2:=tN (kE (m:=58) (An (mO s h1) h2)) h4
 refine kE ?_
 clear h1 h2 h4
 generalize y.2=q at h5 s2
 have:∀(n:Nat) (q:List Nat),q.length<n->q <:+ bs->∀r,Rd.MW q=some r->r.2 <:+ bs:=by
  intro n
  induction n with
  |zero=>intro q h;omega
  |succ n ih=>
   intro q hq sq r e;rw[Rd.zw] at e;have hp:=Rd.jQ 44 q
   split at e
   ·rename_i hx
    have hl:=Rd.xQ (m:=44) (by decide) hx;obtain⟨w,e1,e⟩:=Rd.bind_some e;obtain⟨z,e2,rfl⟩:=Rd.map_some e;have:=Rd.lX e1;exact ih w.2 (by omega) (tN (kE sq) e1) z e2
   ·cases e;exact kE sq
 exact this _ q (aE _) s2 r h5
theorem ER(T:Txt K mg t):yf mg "STATE_WORD" (.ref t.rq):=⟨_,T.GR,rfl⟩
theorem LW{k:List Nat}:decide (zn k=([115,116,97,116,101]:List Int))=decide (k=[115,116,97,116,101]):=by
 rw[aX,decide_eq_true_eq,decide_eq_true_eq]
 exact⟨λ z=>DY z,λ z=>by rw[z];rfl⟩
theorem QC{H0 H:Hp}{oY:List Addr}{acc:List Ra61.RawChoice}(W:Ea (Gm t H0 H) oY acc):∃nms:List Addr,nms.length=acc.length/\∀(i:Nat) (c:Ra61.RawChoice),acc[i]? = some c->∃a dx wy n,oY[i]? = some a/\nms[i]? = some n/\H a=some (.ins t.kF dx (BU (.ref n) (.int c.gain) (.ref wy) (.int (c.ways.map λ w=>(w.2:Int)).sum)))/\H n=some (.tup (jZ c.name)):=by
 have key:∀i:Fin acc.length,∃n,∃a dx wy,oY[i.1]? = some a/\H a=some (.ins t.kF dx (BU (.ref n) (.int (acc[i.1]).gain) (.ref wy) (.int ((acc[i.1]).ways.map λ w=>(w.2:Int)).sum)))/\H n=some (.tup (jZ (acc[i.1]).name)):=λ i=>by
  obtain⟨a,e,a',dx,nm,wy,as,bn,e2,h1,h2,_⟩:=W.at_ i.1 _ (af i.2)
  cases e2;exact⟨nm,a,dx,wy,e,h1,h2⟩
 refine⟨List.ofFn λ i:Fin acc.length=>iw (key i),by simp,λ i c e=>?_⟩
 obtain⟨hi,rfl⟩:=ao.mp e
 obtain⟨a,dx,wy,q1,q2,q3⟩:=fU (key ⟨i,hi⟩)
 exact⟨a,dx,wy,_,q1,by rw[List.getElem?_ofFn];simp[hi],q2,q3⟩
theorem ES(T:Txt K mg t)(kb:K.In base):Ok P w K mg base 7 t.zE t.yo ["reader"] (D0 K t Rd.readState (StI t)):=by
 refine T.C2.fn.rm n8 (λ vs H Q E h=>?_) λ cdv A outer s H vs Q E hr h=>?_
 ·obtain⟨r,dx,l,bs,rest,rfl,_⟩:=h;rfl
 ·obtain⟨r,dx,l,bs,rest,rfl,R,hb,h⟩:=h
  have LV:=hr.mono (show 4<=6 by decide);have hr2:=hr.mono (show 2<=6 by decide);have hr1:=hr.mono (show 1<=6 by decide);refine⟨_,jv (j5 (j6 T.nM (kW T kb) hr1 rfl (jT xl_of) (jt (nS (V1 K hr.units) (mh T.jH T.mW (rF T kb) LV (jT xl_of) (pv 0)) (kO (ER T) rfl) (kH _)) jw)))<|
   jv (jV (i:=1) n8.nd rfl (Or.inl rfl) (mh T.jH T.mW (rF T kb) LV (jT xl_of) (pv 0)))<|
   jv (j5 (j6 T.nM (kW T kb) hr1 rfl (jT xl_of) (jt (rP T.jH T.mj (qd T) LV jU (pv 0) (jt (kO T.GQ rfl) jw)) jw)))<|
   jv (jV (i:=2) n8.nd rfl (Or.inl rfl) (mV jw))<|
   jv (nY nj (Ci (pS (rP T.jH T.mj (qd T) LV jU (pv 0) (jt (kO T.EL rfl) jw))))
    (jy (j5 (Be bN cg cu rG (pv 2) (jt (j6 T.Bq (D6 T kb) hr rfl (jT xl_of) (jt (pv 0) jw)) jw)))))<|
   jv (j5 (j6 T.nM (kW T kb) hr1 rfl (jT xl_of) (jt (nS pB (kj jY (by rfl) T.qE nN (jt (pv 2) jw)) (kO T.C9 rfl) (kH _)) jw)))<|
   jv (j5 (j6 T.nM (kW T kb) hr1 rfl (jT xl_of) (jt (j6 T.vp (ua T) hr1 rfl jU (jt
     (o5 (own:=[("choice",3)]) rfl n8.nd (kL (pv 2)) (ko rfl) (λ _ _ _ _ _=>j8 (i:=3) n8.nd rfl (Or.inl rfl)) (λ _ _ _ _ _=>kQ) (λ _ _ _ _ _=>jX K (pv 3) rfl)) jw)) jw)))<|
   jy (jP (CH T.tK T.C6 (EQ T) hr2 rfl jU (jt (pv 1)<|jt (pv 2)<|jw))),?_⟩
  rw[Rd.pF] at h;refine⟨_,rfl,r,dx,_,rfl,R.ins,Am,pL R hb (λ e H'=>?_) λ x e=>⟨mO R.Aj e,λ v H1 R1 k1 hv=>?_⟩⟩
  ·rw[e] at h;exact h H'
  rw[e,ak] at h;have lx:=Rd.lI e;obtain⟨sw,rfl,hsw⟩:=hv;refine⟨sw,t.rq,zn x.1,_,rfl,rfl,sQ.of (by rw[<-xW];exact hsw),T.GS _,_,rfl,?_⟩
  by_cases hx:x.1=[115,116,97,116,101]
  case neg=>rw[if_neg hx] at h;exact sP (LW.trans (decide_eq_false hx)) (h _)
  rw[if_pos hx] at h;refine t9 (LW.trans (decide_eq_true hx)) ?_;refine⟨_,rfl,r,dx,_,rfl,R1.ins,Am,pL R1 hb (λ e H'=>?_) λ y e=>⟨mO R1.Aj e,λ v H2 R2 k2 hv=>?_⟩⟩
  ·rw[e] at h;exact h H'
  rw[e,ak] at h;have ly:=Rd.lI e;obtain⟨nm,rfl,hnm⟩:=hv;refine⟨_,rfl,r,dx,_,rfl,R2.ins,Am,r,dx,l,bs,y.2,123,rfl,by decide,R2,hb,?_⟩;have s3:=kE (m:=123) R2.Aj;have l3:=Rd.jQ 123 y.2;generalize Rd.passes 123 y.2=z at h s3 l3
  refine⟨_,rfl,?_⟩
  cases hz:z.1 with
  |false=>rw[hz] at h;exact tP (h _)
  |true=>
  rw[hz,if_pos rfl] at h;refine vX ?_;have R3:=R2.put s3;have Yh:=R.Aj.length_le;have hlen:=R.len;have k3:Kp r H (lR t H2 r dx l bs z.2):=(k1.trans k2).trans Kp.upd;have Yl:lR t H2 r dx l bs z.2 nm=some (.tup (jZ y.1)):=Kp.tk Kp.upd R2.ins _ _ hnm;generalize lR t H2 r dx l bs z.2=H3 at R3 k3 Yl
  refine⟨(by show 0<=sizeLine;decide),λ cl hcl=>?_⟩;have sm4:=jz (o:=.lst []) hcl;have V2:H cl=none:=Kp.Es k3 R3.ins cl hcl;have R4:=R3.same sm4;have k4:Kp r H (upd H3 cl (.lst [])):=k3.trans (Kp.of sm4);have Ym:=sm4 _ _ Yl;have V3:upd H3 cl (.lst []) cl=some (.lst []):=ju;show Jv _ _ _ _ (upd H3 cl (.lst []));generalize upd H3 cl (.lst [])=H4 at R4 k4 Ym V3
  refine⟨λ m σ H'=>∃(acc:List Ra61.RawChoice) (oY:List Addr) (q:List Nat),Rd.MC z.2=(Rd.MC q).map (λ u=>(acc++u.1,u.2))/\2*acc.length+q.length<=65536/\m=q.length /\
   σ=[some (.ref r),some (.ref nm),some (.ref cl),none]/\Ai K t H' r dx l bs q/\H' cl=some (.lst (oY.map V.ref))/\Ea (Gm t H4 H') oY acc/\oY.Nodup/\(∀b o,b≠r->H b=some o->H' b=some o)/\H' nm=some (.tup (jZ y.1))/\Er H4 H'/\(∀a∈oY,∃o,H' a=some o),
   ⟨_,[],[],z.2,?_,?_,rfl,rfl,R4,V3,Ea.nil,iQ,k4,Ym,Er.refl _,by simp⟩,?_⟩
  ·simp
  ·simp;omega
  rintro m σ H' ⟨acc,oY,q,inv,hq2,rfl,rfl,Rq,hcq,W,nd,kq,hnq,lq4,onq⟩;refine⟨_,rfl,r,dx,_,rfl,Rq.ins,Am,r,dx,l,bs,q,125,rfl,by decide,Rq,hb,_,rfl,?_⟩;have hmap:((Rd.MC z.2).bind λ c=>if c.1.length<=8 then if (c.1.map λ c=>c.name).Nodup then some ((⟨y.1,c.1⟩:Ra61.RawState),c.2) else none else none) =
    (Rd.MC q).bind λ c=>if (acc++c.1).length<=8 then if ((acc++c.1).map λ c=>c.name).Nodup then some ((⟨y.1,acc++c.1⟩:Ra61.RawState),c.2) else none else none:=by
   rw[inv];simp only[Option.bind_map];rfl
  rw[hmap,Rd.zx] at h;have sq:=kE (m:=125) Rq.Aj;have lq:=Rd.jQ 125 q;have hstep:=Rd.zx q;generalize Rd.passes 125 q=y2 at h sq lq hstep
  have R6:=Rq.put sq;have hcr:cl≠r:=oZ hcq Rq.ins (by intro z;cases z);have hc6:lR t H' r dx l bs y2.2 cl=some (.lst (oY.map V.ref)):=by unfold lR;rw[jA hcr];exact hcq
  have W6:Ea (Gm t H4 (lR t H' r dx l bs y2.2)) oY acc:=W.mono λ x a h=>h.kp R4.ins Rq.ins (by intro xs z;cases z) Kp.upd
  have k6:Kp r H' (lR t H' r dx l bs y2.2):=Kp.upd;have hn6:lR t H' r dx l bs y2.2 nm=some (.tup (jZ y.1)):=Kp.tk k6 Rq.ins _ _ hnq;have Yn:Er H' (lR t H' r dx l bs y2.2):=Kp.Es k6 R6.ins;have on6:∀a∈oY,∃o,lR t H' r dx l bs y2.2 a=some o:=λ a ha=>by
   by_cases z:a=r
   ·exact⟨_,by rw[z];exact R6.ins⟩
   ·obtain⟨o,eo⟩:=onq a ha;exact⟨o,k6 _ _ z eo⟩
  generalize lR t H' r dx l bs y2.2=H6 at R6 hc6 W6 k6 hn6 Yn on6
  cases NZ:y2.1 with
  |false=>
   rw[NZ] at h hstep;simp only[aN,if_false] at h hstep
   refine⟨λ σ H7=>∃(q7:List Nat) (x7:Ra61.RawChoice) (a7:Addr),Rd.MC z.2=(Rd.MC q7).map (λ u=>((acc++[x7])++u.1,u.2))/\q7.length<q.length/\2*(acc++[x7]).length+q7.length<=65536 /\
    σ=[some (.ref r),some (.ref nm),some (.ref cl),none]/\Ai K t H7 r dx l bs q7/\H7 cl=some (.lst ((oY++[a7]).map V.ref))/\Ea (Gm t H4 H7) (oY++[a7]) (acc++[x7])/\(oY++[a7]).Nodup/\(∀b o,b≠r->H b=some o->H7 b=some o)/\H7 nm=some (.tup (jZ y.1))/\Er H4 H7/\(∀a∈oY++[a7],∃o,H7 a=some o),?_,?_⟩
   ·rintro σ7 H7 ⟨q7,x7,a7,i1,i2,i3,rfl,i5,i6,i7,i8,i9,i10,i11,i12⟩;exact⟨_,i2,acc++[x7],oY++[a7],q7,i1,i3,rfl,rfl,i5,i6,i7,i8,i9,i10,i11,i12⟩
   ·refine⟨_,rfl,.inl ⟨rfl,_,jO.of hc6⟩,?_⟩;refine⟨_,rfl,Gk R6 hb (λ e H'=>?_) λ x7 e=>⟨xG sq e,λ v H7 R7 k7 hv=>?_⟩⟩
    ·rw[e] at h;exact h H'
    have l7:x7.2.length+2<=y2.2.length:=D9 e;obtain⟨a7,dx7,nm7,wy7,as7,bn7,rfl,hch⟩:=hv;have hc7:H7 cl=some (.lst (oY.map V.ref)):=k7 cl _ hcr hc6;have hcasl:oY.length<=65536:=by rw[W.len];omega
    have new7:Gm t H6 H7 x7.1 a7:=⟨a7,dx7,nm7,wy7,as7,bn7,rfl,hch⟩
    have Yo:Er H4 H6:=lq4.trans Yn;refine⟨cl,_,_,rfl,rfl,hc7,?_,?_⟩
    ·rw[ah,sizeLine_eq];omega
    have k8:Kp cl H7 (upd H7 cl (.lst (oY.map V.ref++[.ref a7]))):=Kp.upd;have ls8:Er H7 (upd H7 cl (.lst (oY.map V.ref++[.ref a7]))):=Kp.Es k8 ju;have V4:Ea (Gm t H4 H7) (oY++[a7]) (acc++[x7.1]):=Ea.snoc (W6.mono λ x a h=>h.kp R4.ins R6.ins (by intro xs z;cases z) k7) (new7.Es Yo);refine⟨x7.2,x7.1,a7,?_,by omega,by simp;omega,rfl,?_,?_,V4.mono λ x a h=>h.kp V3 hc7 (by intro xs z;cases z) k8,?_,?_,?_,(Yo.trans (Kp.Es k7 R7.ins)).trans ls8,?_⟩
    ·rw[inv,hstep,e,ak,iS]
     congr 1;funext z;simp
    ·exact⟨by rw[jA hcr.symm];exact R7.ins,Hl R.txt V2 R7.txt,R7.Aj,R7.len⟩
    ·rw[ju,bh];rfl
    ·rw[dm];refine⟨nd,by simp,λ a ha b hb e2=>?_⟩;obtain rfl:b=a7:=by simpa using hb
     obtain⟨o,eo⟩:=on6 a ha;rw[e2,hch.2.2.2.2.1] at eo
     cases eo
    ·intro b o Et eb;rw[jA (jB eb V2)];exact k7 b o Et (k6 b o Et (kq b o Et eb))
    ·exact TK.upd hc7 (by intro xs z;cases z) _ _ (Kp.tk k7 R6.ins _ _ hn6)
    ·intro a ha;have:∃o,H7 a=some o:=by
      rcases aY.mp ha with ha | ha
      ·obtain⟨o,eo⟩:=on6 a ha
       by_cases z:a=r
       ·exact⟨_,by rw[z];exact R7.ins⟩
       ·exact⟨o,k7 _ _ z eo⟩
      ·obtain rfl:a=a7:=by simpa using ha
       exact⟨_,hch.1⟩
     obtain⟨o,eo⟩:=this
     by_cases z:a=cl
     ·exact⟨_,by rw[z];exact ju⟩
     ·exact⟨o,by rw[jA z];exact eo⟩
  |true=>
   rw[NZ] at h;simp only[if_true,ak,cF] at h
   refine tP ?_;have acl:acc.length<=32768:=by omega
   refine⟨_,rfl,cl,_,rfl,.inl (jO.of hc6),_,_,rfl,rfl,_,rfl,?_⟩;have e8:decide (((oY.map V.ref).length:Int)<=8)=decide (acc.length<=8):=by rw[ah,W.len];exact sE _ 8
   by_cases h8:acc.length<=8
   case neg=>rw[if_neg h8] at h;exact sP (e8.trans (decide_eq_false h8)) (h _)
   rw[if_pos h8] at h;refine t9 (e8.trans (decide_eq_true h8)) ?_;have sm8':∀{D:Addr} {xs:List V},H6 D=none->jF H6 (upd H6 D (.lst xs)):=λ hD=>jz hD
   obtain⟨nms,N6⟩:=QC W6;refine⟨_,rfl,cl,rfl,⟨_,jO.of hc6⟩,λ D hD=>mE (K:=K) (a:=cl) (xs:=oY.map V.ref) (λ i H8=>H8=upd H6 D (.lst ((nms.map V.ref).take i))) rfl (λ i H8 _ e8=>by rw[e8];exact jO.of (by rw[jA (jB hc6 hD)];exact hc6)) ?_ ?_⟩
   ·rintro i v H8 hi rfl;obtain⟨ha,ea,rfl⟩:=lC hi;have hil:i<acc.length:=by rw[<-W6.len];exact (ao.mp ea).1
    obtain⟨a',N2,wy,n,q1,q2,q3,q4⟩:=N6.2 i acc[i] (af hil);rw[ea] at q1
    cases q1;refine⟨rfl,?_⟩;refine⟨_,rfl,ha,_,N2,_,_,rfl,(by rw[jA (jB q3 hD)];exact q3),T.j0.cl,T.qi,DU _ _ _ _,(nms.map V.ref).take i,ju,?_,?_⟩
    ·rw[aR,sizeLine_eq];have:=N6.1;simp;omega
    ·rw[kh,take_snoc (l:=nms.map V.ref) (x:=V.ref n) (by rw[ai,q2];rfl)]
   ·rintro H8 rfl;rw[ah,show (nms.map V.ref).take oY.length=nms.map V.ref from aA (by rw[ah,N6.1,W6.len];exact au _)];have Ho:=jz (o:=.lst (nms.map V.ref)) hD;refine⟨D,nms,(acc.map λ c=>c.name).map zn,rfl,jO.of ju,⟨by simp[N6.1],λ i a k e1 e2=>?_⟩,by simp;exact acl,λ H9 Tf=>?_⟩
    ·rw[ai,ai] at e2
     cases e:acc[i]? with
     |none=>rw[e] at e2;cases e2
     |some x=>
      rw[e] at e2;have e2:some (zn x.name)=some k:=e2
      cases e2;obtain⟨a',N2,wy,n,q1,q2,q3,q4⟩:=N6.2 i x e;rw[e1] at q2
      cases q2;rw[<-xW];exact sQ.of (Ho _ _ q4)
    refine⟨_,rfl,?_⟩;have end_:decide (((acc.map λ c=>c.name).map zn).Nodup)=decide ((acc.map λ c=>c.name).Nodup):=by
     rw[aX,decide_eq_true_eq,decide_eq_true_eq];exact DZ _
    by_cases Tg:(acc.map λ c=>c.name).Nodup
    case neg=>rw[if_neg Tg] at h;exact sP (end_.trans (decide_eq_false Tg)) (h _)
    rw[if_pos Tg] at h;refine t9 (end_.trans (decide_eq_true Tg)) ?_;have sm:=Ho.trans Tf;refine⟨_,rfl,_,rfl,?_⟩;intro c dc hc hdc hne;refine⟨c,dc,_,_,rfl,ju,rfl,?_⟩;rw[kh];have D7:=sm.trans (qf (u:=.own c) (v:=.ins t.oJ dc (ND (.ref nm) (.ref cl))) hc hdc);have Yp:Kp r H H6:=λ b o Et eb=>k6 b o Et (kq b o Et eb)
    refine h.2 _ _ (R6.same D7) (λ b o Et eb=>D7 b o (Yp b o Et eb)) ⟨c,cl,oY,rfl,dc,nm,ju,D7 _ _ hn6,D7 _ _ hc6,?_,nd,?_,V2⟩
    ·exact W6.mono λ x a h=>(h.same D7).Es (Kp.Es k4 R4.ins)
    ·exact (Kp.Es Yp R6.ins) c ((jF.Es sm) c hc)
def rInT(K:aj):R2:=λ x y H Q=>∃(a l:Addr) (k:List Int) (as:List Addr) (kl:List (List Int)),x=.ref a/\sQ K H a (k.map V.int)/\y=.ref l/\jO K H l (as.map V.ref)/\rj K H as kl /\
  Q (.bl (decide (k∈kl))) H
theorem Th{X:Cx}(K:aj)(hu:X.A.units+64<cLine)(e:X.K=K:=by rfl):xN X (compareOp .In) (rInT K):=e ▸ VE hu
def Tn(K:aj):V->List V->Hp->VK->Prop:=λ x xs H Q=>∃(a l:Addr) (k:List Int) (as:List Addr) (kl:List (List Int)) (j:Nat),x=.ref l/\xs=[.ref a]/\sQ K H a (k.map V.int)/\jO K H l (as.map V.ref)/\rj K H as kl /\
  kl[j]? = some k/\(∀m,m<j->kl[m]?≠some k)/\Q (.int (j:Nat)) H
theorem Kr{X:Cx}(K:aj)(hu:X.A.units+64<cLine)(e:X.K=K:=by rfl):YY X "list.index" (Tn K):=e ▸ M0 hu
theorem V5{X:Cx}(K:aj){o e:Expr}{es:List Expr}{to:TE}{t:TA}{name:Str}{apos cpos:Pos}{T id:String}{r:V->List V->Hp->VK->Prop}(pa:PlainAttrs T)(slot:Slot T name id)(hty:typeOf (.builtin id)=pure (.type "method_descriptor"))(hm:YY X id r)(ho:PE X o to)(ha:PA X (e::es) t)(eK:X.K=K:=by rfl)
  (hbase:attributeBase o name X.env (eval o X.env)=eval o X.env:=by rfl)
  (hfew:((backTo cpos (starEach (e::es) X.env)).all (λ x=>!x.1)&&(backToKw cpos (keywordEach [] X.env)).all (λ x=>x.1.isSome)
   && decide ((e::es).length+([]:List Keyword).length+(if ([]:List Keyword).isEmpty then 0 else 1)<30))=true:=by rfl)
  (hline:(apos.endLine==cpos.line)=true:=by rfl) (hs:starEach (e::es) X.env=(false,eval e X.env)::starEach es X.env:=by rfl) (hplain:(backTo cpos (starEach es X.env)).any (·.1)=false:=by rfl) :
  PE X (.Call (.Attribute o name apos) (e::es) [] cpos) (tBM K T r to t):=eK ▸ Be pa slot hty hm ho ha hbase hfew hline hs hplain
def NE(H:Hp)(x:Nat×Nat)(a:Addr):Prop:=H a=some (.tup [.int (x.1:Int),.int (x.2:Int)])
theorem QD{H H':Hp}{a:Addr}{xs:List V}(e:jF H H')(h:sQ K H a xs):sQ K H' a xs:=by
 rcases h with (h | ⟨o,h⟩) | h
 ·exact .inl (.inl (e _ _ h))
 ·exact .inl (.inr ⟨o,e _ _ h⟩)
 ·exact .inr h
theorem Ks{names:List (List Nat)}{x:List Nat}(h:names.contains x=true):∃j,Rd.placeOf names x=j/\(names.map zn)[j]? = some (zn x)/\∀m,m<j->(names.map zn)[m]?≠some (zn x):=by
 have hm:x∈names:=by simpa using h
 cases e:names.findIdx? (λ y=>y==x) with
 |none=>
  rw[dg] at e;have:=e x hm;simp at this
 |some j=>
  refine⟨j,by unfold Rd.placeOf;rw[e];rfl,?_,?_⟩
  ·rw[bP] at e;obtain⟨h1,h2,_⟩:=e;have h2:names[j]=x:=by simpa using h2
   rw[ai,af h1,h2];rfl
  ·intro m hm e2;rw[bP] at e;obtain⟨h1,_,h3⟩:=e;have:=h3 m hm;rw[ai,af (by omega)] at e2;have e2:some (zn names[m])=some (zn x):=e2;exact this (by simpa using DY (aW e2))
theorem V6{names:List (List Nat)}{x:List Nat}:decide (zn x∈names.map zn)=names.contains x:=by
 rw[aX,decide_eq_true_eq]
 simp only[aB,List.contains_iff_mem]
 exact⟨λ⟨y,h1,h2⟩=>DY h2 ▸ h1,λ h=>⟨x,h,rfl⟩⟩
theorem rj.tk{H H':Hp}{as:List Addr}{kl:List (List Int)}(T:rj K H as kl)(s:jF H H'):rj K H' as kl:=⟨T.len,λ i a k e1 e2=>QD s (T.at_ i a k e1 e2)⟩
def NF(K:aj)(t:Adr):Sp:=λ vs H Q E=>∃(wl nl:Addr) (as bn WM:List Addr) (ws:List (List Nat×Nat)) (names:List (List Nat)),vs=[.ref wl,.ref nl]/\jO K H wl (as.map V.ref)/\zd H as bn ws /\
 jO K H nl (WM.map V.ref)/\rj K H WM (names.map zn)/\ws.length<=32768 /\
 if (ws.all λ w=>names.contains w.1)=true then (∀(p:Addr) (ps:List Addr) H',jF H H'->H p=none->H' p=some (.lst (ps.map V.ref))->Ea (NE H') ps (ws.map λ w=>(Rd.placeOf names w.1,w.2))->Q (.ref p) H') else ∀H',E (.ref t.jM) none H'
theorem NG(T:Txt K mg t)(kb:K.In base):Ok P w K mg base 2 t.uy t.sX ["ways","names"] (NF K t):=by
 refine T.wY.fn.rm mH (λ vs H Q E h=>?_) λ cdv A outer s H vs Q E hr h=>?_
 ·obtain⟨wl,nl,as,bn,WM,ws,names,rfl,_⟩:=h;rfl
 ·obtain⟨wl,nl,as,bn,WM,ws,names,rfl,hwl,W,hnl,N,hn,h⟩:=h
  refine⟨_,jv (j5 (j6 T.nM (kW T kb) hr rfl (jT xl_of) (jt (kj (OH rfl) (by rfl) T.Uz PU (jt
    (o5 (own:=[("way",2)]) rfl mH.nd (kL (pv 0)) (ko rfl) (λ _ _ _ _ _=>j8 (i:=2) mH.nd rfl (Or.inl rfl)) (λ _ _ _ _ _=>kQ)
     (λ _ _ _ _ _=>nS (Th K hr.units) (mi (QB K) (pv 2) jL (λ _ _=>rfl)) (pv 1) (by with_unfolding_all rfl))) jw)) jw)))<|
   jy (jP (o5 (own:=[("way",2)]) rfl mH.nd (kL (pv 0)) (ko rfl) (λ _ _ _ _ _=>j8 (i:=2) mH.nd rfl (Or.inl rfl)) (λ _ _ _ _ _=>kQ)
     (λ _ _ _ _ _=>Oz (jt (V5 K bN ig PySem.F.type_list_index (Kr K hr.units) (pv 1) (jt (mi (QB K) (pv 2) jL (λ _ _=>rfl)) jw))<|jt (mi (QB K) (pv 2) jL (λ _ _=>rfl)) jw)))),?_⟩
  obtain hsz:ws.length<sizeLine:=by rw[sizeLine_eq];omega
  refine⟨_,rfl,wl,rfl,⟨_,hwl⟩,λ D hD=>mE (K:=K) (a:=wl) (xs:=as.map V.ref) (λ i H8=>H8=upd H D (.lst (((ws.map λ w=>names.contains w.1).map V.bl).take i))) rfl (λ i H8 _ e8=>by rw[e8];exact jF.seq (jz hD) hwl) ?_ ?_⟩
  ·rintro i v H8 hi rfl;obtain⟨ha,ea,rfl⟩:=lC hi;have hil:i<ws.length:=by rw[<-W.len];exact (ao.mp ea).1
   obtain⟨a',b',q1,q2,q3,q4⟩:=W.at_ i ws[i] (af hil);rw[ea] at q1
   cases q1;have sm:=jz (o:=.lst (((ws.map λ w=>names.contains w.1).map V.bl).take i)) hD;refine⟨rfl,?_⟩;refine⟨_,rfl,ha,_,_,_,rfl,rfl,sQ.of (sm _ _ q3),at0,_,rfl,b',nl,zn (ws[i]).1,WM,names.map zn,rfl,sQ.of (by rw[<-xW];exact sm _ _ q4),rfl,jF.seq sm hnl,rj.tk N sm,_,ju,?_,?_⟩
   ·rw[aR];simp;omega
   ·rw[kh,V6,take_snoc (l:=(ws.map λ w=>names.contains w.1).map V.bl) (x:=V.bl (names.contains (ws[i]).1)) (by rw[ai,ai,af hil];rfl)]
  ·rintro H8 rfl;rw[ah,show ((ws.map λ w=>names.contains w.1).map V.bl).take as.length=(ws.map λ w=>names.contains w.1).map V.bl from aA (by rw[ah,ah,W.len];exact au _)];have Ho:=jz (o:=.lst ((ws.map λ w=>names.contains w.1).map V.bl)) hD;refine⟨D,_,rfl,jO.of ju,_,rfl,?_⟩;have e8:((ws.map λ w=>names.contains w.1).all id)=(ws.all λ w=>names.contains w.1):=by rw[ji];rfl
   cases hall:(ws.all λ w=>names.contains w.1) with
   |false=>rw[hall] at h;exact sP (e8.trans hall) (h _)
   |true=>
   rw[hall,if_pos rfl] at h;refine t9 (e8.trans hall) ?_;have V9:=jF.seq Ho hwl;have W8:=W.tk (jF.tk Ho);have Wa:=jF.seq Ho hnl;have N8:=rj.tk N Ho;generalize upd H D (.lst ((ws.map λ w=>names.contains w.1).map V.bl))=H8 at Ho V9 W8 Wa N8
   refine⟨_,rfl,wl,rfl,⟨_,V9⟩,λ D2 N1=>mE (K:=K) (a:=wl) (xs:=as.map V.ref) (λ i H9=>∃ps:List Addr,ps.length=i/\jF H8 H9/\H9 D2=some (.lst (ps.map V.ref))/\Ea (NE H9) ps ((ws.map λ w=>(Rd.placeOf names w.1,w.2)).take i))
    ⟨[],rfl,jz N1,ju,Ea.nil⟩ (λ i H9 _ ⟨_,_,e,_,_⟩=>jF.seq e V9) ?_ ?_⟩
   ·rintro i v H9 hi ⟨ps,hps,s9,h9,E9⟩;obtain⟨ha,ea,rfl⟩:=lC hi;have hil:i<ws.length:=by rw[<-W.len];exact (ao.mp ea).1
    obtain⟨a',b',q1,q2,q3,q4⟩:=W8.at_ i ws[i] (af hil);rw[ea] at q1
    cases q1;obtain⟨j,hj,hj1,hj2⟩:=Ks (names:=names) (x:=(ws[i]).1) (by
     have:=bz.mp hall ws[i] (aV hil);exact this)
    have hix:=sQ.of (K:=K) (s9 _ _ q3);refine⟨rfl,?_⟩;refine⟨_,rfl,.inl ⟨rfl,_,jF.seq s9 Wa⟩,_,rfl,ha,_,_,_,rfl,rfl,hix,at0,b',nl,zn (ws[i]).1,WM,names.map zn,j,rfl,rfl,sQ.of (by rw[<-xW];exact s9 _ _ q4),jF.seq s9 Wa,rj.tk N8 s9,hj1,hj2,_,rfl,ha,_,_,_,rfl,rfl,hix,Ro,(by show 2<=sizeLine;decide),λ p hp=>?_⟩;have sp:=jz (o:=.tup [.int (j:Int),.int ((ws[i]).2:Int)]) hp;refine⟨ps.map V.ref,sp _ _ h9,?_,ps++[p],by simp[hps],?_,?_,?_⟩
    ·rw[ah,hps];omega
    ·intro b o eb;rw[jA (jB eb N1)];exact sp _ _ (s9 _ _ eb)
    ·rw[ju,bh];rfl
    ·have ZX:TK (upd H9 p (.tup [.int (j:Int),.int ((ws[i]).2:Int)])) (upd (upd H9 p (.tup [.int (j:Int),.int ((ws[i]).2:Int)])) D2 (.lst (ps.map V.ref++[.ref p]))):=TK.upd (sp _ _ h9) (by intro xs z;cases z);rw[take_snoc (l:=ws.map λ w=>(Rd.placeOf names w.1,w.2)) (x:=(j,(ws[i]).2)) (by rw[ai,af hil,<-hj];rfl)];exact Ea.snoc (E9.mono λ x a h=>ZX _ _ (sp _ _ h)) (ZX _ _ ju)
   ·rintro H9 ⟨ps,hps,s9,h9,E9⟩;rw[ah] at hps E9;rw[aA (by rw[ah,W.len];exact au _)] at E9;exact h D2 ps H9 (Ho.trans s9) (jF.Es Ho _ N1) h9 E9
theorem Eb{α:Type}{a:α}{l:List α}(h:a∈l):∃i:Nat,l[i]? = some a:=cQ h
theorem Jt.kp{H0 H H':Hp}{s:Ra61.RawState}{a cl p:Addr}{oY:List Addr}{o u:HO}(h:Jt t H0 H s a cl oY)(hp:H0 p=some o)(hq:H p=some u)(hu:∀xs,u≠.tup xs)(k:Kp p H H'):Jt t H0 H' s a cl oY:=by
 obtain⟨dx,nm,h1,h2,h3,h4,h5,h6,h7⟩:=h
 exact⟨dx,nm,k _ _ (λ z=>by rw[z,hp] at h6;cases h6) h1,k _ _ (λ z=>by rw[z,hq] at h2;cases h2;exact hu _ rfl) h2,k _ _ (λ z=>by rw[z,hp] at h7;cases h7) h3,h4.mono λ x a h=>h.kp hp hq hu k,h5,h6,h7⟩
theorem Jt.same{H0 H H':Hp}{s:Ra61.RawState}{a cl:Addr}{oY:List Addr}(h:Jt t H0 H s a cl oY)(k:jF H H'):Jt t H0 H' s a cl oY:=by
 obtain⟨dx,nm,h1,h2,h3,h4,h5,h6,h7⟩:=h
 exact⟨dx,nm,k _ _ h1,k _ _ h2,k _ _ h3,h4.mono λ x a h=>h.same k,h5,h6,h7⟩
theorem Jt.Es{H0 Yk H:Hp}{s:Ra61.RawState}{a cl:Addr}{oY:List Addr}(h:Jt t H0 H s a cl oY)(k:Er Yk H0):Jt t Yk H s a cl oY:=by
 obtain⟨dx,nm,h1,h2,h3,h4,h5,h6,h7⟩:=h
 exact⟨dx,nm,h1,h2,h3,h4.mono λ x a h=>h.Es k,h5,k _ h6,k _ h7⟩
theorem Jt.here{H0 H:Hp}{s:Ra61.RawState}{a cl:Addr}{oY:List Addr}(h:Jt t H0 H s a cl oY){c:Addr}(hc:c∈oY):∃o,H c=some o:=by
 obtain⟨dx,nm,h1,h2,h3,h4,h5,h6,h7⟩:=h
 obtain⟨i,hi⟩:=Eb hc
 obtain⟨x,_,a',dx,nm,wy,as,bn,e,q,_⟩:=h4.get hi
 cases e
 exact⟨_,q⟩
theorem Jt.new{H0 H:Hp}{s:Ra61.RawState}{a cl:Addr}{oY:List Addr}(h:Jt t H0 H s a cl oY){c:Addr}(hc:c∈oY):H0 c=none:=by
 obtain⟨dx,nm,h1,h2,h3,h4,h5,h6,h7⟩:=h
 obtain⟨i,hi⟩:=Eb hc
 obtain⟨x,_,a',dx,nm,wy,as,bn,e,_,_,_,_,q,_⟩:=h4.get hi
 cases e
 exact q
abbrev SX:=Ra61.RawState×Addr×List Addr
abbrev UL(t:Adr)(H0 H:Hp)(nX:List Addr)(sx:List SX):Prop:=Ea (λ x a=>Jt t H0 H x.1 a x.2.1 x.2.2) nX sx
def N3(t:Adr)(H:Hp)(c:Ra61.Choice)(a:Addr):Prop:=∃dx nm wy ps,H a=some (.ins t.kF dx (BU (.ref nm) (.int c.gain) (.ref wy) (.int (c.ways.map λ w=>(w.2:Int)).sum)))/\H nm=some (.tup (jZ c.name))/\H wy=some (.lst (ps.map V.ref))/\Ea (NE H) ps c.ways
def UM(t:Adr)(H:Hp)(s:Ra61.State)(a:Addr):Prop:=∃dx nm cl oY,H a=some (.ins t.oJ dx (ND (.ref nm) (.ref cl)))/\H nm=some (.tup (jZ s.name))/\H cl=some (.lst (oY.map V.ref))/\Ea (N3 t H) oY s.choices
def QF(t:Adr)(net:Ra61.Net)(v:V)(H:Hp):Prop:=∃sl nX,v=.ref sl/\H sl=some (.lst (nX.map V.ref))/\Ea (UM t H) nX net
theorem N3.same{H H':Hp}{c:Ra61.Choice}{a:Addr}(h:N3 t H c a)(k:jF H H'):N3 t H' c a:=by
 obtain⟨dx,nm,wy,ps,h1,h2,h3,h4⟩:=h
 exact⟨dx,nm,wy,ps,k _ _ h1,k _ _ h2,k _ _ h3,h4.mono λ x a h=>k _ _ h⟩
theorem UM.same{H H':Hp}{c:Ra61.State}{a:Addr}(h:UM t H c a)(k:jF H H'):UM t H' c a:=by
 obtain⟨dx,nm,wy,ps,h1,h2,h3,h4⟩:=h
 exact⟨dx,nm,wy,ps,k _ _ h1,k _ _ h2,k _ _ h3,h4.mono λ x a h=>h.same k⟩
theorem N3.ki{H H':Hp}{c:Ra61.Choice}{a p C dp:Addr}{fs:List (Str×V)}(h:N3 t H c a)(hp:H p=some (.ins C dp fs))(hn:a≠p)(k:Kp p H H'):N3 t H' c a:=by
 obtain⟨dx,nm,wy,ps,h1,h2,h3,h4⟩:=h
 exact⟨dx,nm,wy,ps,k _ _ hn h1,Kp.tk k hp _ _ h2,k _ _ (oZ h3 hp (by intro z;cases z)) h3,h4.mono λ x a h=>Kp.tk k hp _ _ h⟩
theorem Gm.ki{H0 H H':Hp}{c:Ra61.RawChoice}{a p C dp:Addr}{fs:List (Str×V)}(h:Gm t H0 H c a)(hp:H p=some (.ins C dp fs))(hn:a≠p)(k:Kp p H H'):Gm t H0 H' c a:=by
 obtain⟨a',dx,nm,wy,as,bn,e,h1,h2,h3,h4,h5,h6⟩:=h
 cases e
 exact⟨a,dx,nm,wy,as,bn,rfl,k _ _ hn h1,Kp.tk k hp _ _ h2,k _ _ (oZ h3 hp (by intro z;cases z)) h3,h4.tk (Kp.tk k hp),h5,h6⟩
def WN(names:List (List Nat))(c:Ra61.RawChoice):Ra61.Choice:=⟨c.name,c.gain,c.ways.map λ w=>(Rd.placeOf names w.1,w.2)⟩
def LX(t:Adr)(H0 H:Hp)(names:List (List Nat))(dn:List Addr)(x:SX)(a:Addr):Prop:=∃dx nm,H a=some (.ins t.oJ dx (ND (.ref nm) (.ref x.2.1)))/\H nm=some (.tup (jZ x.1.name))/\H x.2.1=some (.lst (x.2.2.map V.ref)) /\
 Ea (λ c a=>(a∈dn->N3 t H (WN names c) a/\(c.ways.all λ w=>names.contains w.1)=true)/\(¬a∈dn->Gm t H0 H c a)) x.2.2 x.1.choices
theorem LX.same{H0 H H':Hp}{names:List (List Nat)}{dn:List Addr}{x:SX}{a:Addr}(h:LX t H0 H names dn x a)(k:jF H H'):LX t H0 H' names dn x a:=by
 obtain⟨dx,nm,h1,h2,h3,h4⟩:=h
 exact⟨dx,nm,k _ _ h1,k _ _ h2,k _ _ h3,h4.mono λ x a h=>⟨λ q=>⟨(h.1 q).1.same k,(h.1 q).2⟩,λ q=>(h.2 q).same k⟩⟩
theorem Yq{a b c d e f:V}:BU a b c d≠ND e f:=λ z=>by
 have h1:=xD a b c d
 rw[z] at h1
 unfold ND at h1
 rw[jI,if_neg (by decide),jI,if_neg (by decide)] at h1
 cases h1
theorem LX.step{H0 H H':Hp}{names:List (List Nat)}{dn:List Addr}{x:SX}{a p dp:Addr}{n g wv tv:V}{c:Ra61.RawChoice}(h:LX t H0 H names dn x a)(hp:H p=some (.ins t.kF dp (BU n g wv tv)))(k:Kp p H H')
  (new:∀i:Nat,x.2.2[i]? = some p->∀c,x.1.choices[i]? = some c->N3 t H' (WN names c) p/\(c.ways.all λ w=>names.contains w.1)=true):LX t H0 H' names (dn++[p]) x a:=by
 obtain⟨dx,nm,h1,h2,h3,h4⟩:=h
 refine⟨dx,nm,k _ _ (λ z=>?_) h1,Kp.tk k hp _ _ h2,k _ _ (oZ h3 hp (by intro z;cases z)) h3,h4.len,λ i c e=>?_⟩
 ·rw[z,hp] at h1
  have h1:=aW h1
  injection h1 with _ _ e
  exact Yq e
 ·obtain⟨a',e1,e2⟩:=h4.at_ i c e
  refine⟨a',e1,λ hm=>?_,λ hm=>?_⟩
  ·by_cases hap:a'=p
   ·subst hap;exact new i e1 c e
   ·rcases aY.mp hm with hm | hm
    ·exact⟨(e2.1 hm).1.ki hp hap k,(e2.1 hm).2⟩
    ·exact absurd (by simpa using hm) hap
  ·have hap:a'≠p:=λ z=>hm (by rw[z];simp)
   exact (e2.2 λ z=>hm (aY.mpr (.inl z))).ki hp hap k
theorem LX.of{H0 H:Hp}{names:List (List Nat)}{x:SX}{a:Addr}(h:Jt t H0 H x.1 a x.2.1 x.2.2):LX t H0 H names [] x a:=by
 obtain⟨dx,nm,h1,h2,h3,h4,_⟩:=h
 exact⟨dx,nm,h1,h2,h3,h4.mono λ x a h=>⟨λ z=>by simp at z,λ _=>h⟩⟩
def Yr(names:List (List Nat))(s:Ra61.RawState):Ra61.State:=⟨s.name,s.choices.map (WN names)⟩
theorem NH(raw:List Ra61.RawState):Rd.placed raw=raw.map (Yr (raw.map λ s=>s.name)):=rfl
theorem LX.all{H0 H:Hp}{names:List (List Nat)}{dn:List Addr}{x:SX}{a:Addr}(h:LX t H0 H names dn x a)(hd:∀c∈x.2.2,c∈dn):UM t H (Yr names x.1) a/\(x.1.choices.all λ c=>c.ways.all λ w=>names.contains w.1)=true:=by
 obtain⟨dx,nm,h1,h2,h3,h4⟩:=h
 constructor
 ·refine⟨dx,nm,_,_,h1,h2,h3,?_,λ i c e=>?_⟩
  ·rw[h4.len];simp[Yr]
  ·simp only[Yr,ai] at e
   cases ec:x.1.choices[i]? with
   |none=>rw[ec] at e;cases e
   |some c'=>
    rw[ec] at e
    cases e;obtain⟨a',e1,e2⟩:=h4.at_ i c' ec;exact⟨a',e1,(e2.1 (hd _ (aq e1))).1⟩
 ·rw[bz]
  intro c hc;obtain⟨i,hi⟩:=Eb hc;obtain⟨a',e1,e2⟩:=h4.at_ i c hi;exact (e2.1 (hd _ (aq e1))).2
theorem QG{H0 H:Hp}{nX:List Addr}{sx:List SX}(W:UL t H0 H nX sx):∃nms:List Addr,nms.length=sx.length/\∀(i:Nat) (x:SX),sx[i]? = some x->∃a dx n,nX[i]? = some a/\nms[i]? = some n/\H a=some (.ins t.oJ dx (ND (.ref n) (.ref x.2.1)))/\H n=some (.tup (jZ x.1.name)):=by
 have key:∀i:Fin sx.length,∃n,∃a dx,nX[i.1]? = some a/\H a=some (.ins t.oJ dx (ND (.ref n) (.ref (sx[i.1]).2.1)))/\H n=some (.tup (jZ (sx[i.1]).1.name)):=λ i=>by
  obtain⟨a,e,dx,nm,h1,h2,_⟩:=W.at_ i.1 _ (af i.2);exact⟨nm,a,dx,e,h1,h2⟩
 refine⟨List.ofFn λ i:Fin sx.length=>iw (key i),by simp,λ i c e=>?_⟩
 obtain⟨hi,rfl⟩:=ao.mp e
 obtain⟨a,dx,q1,q2,q3⟩:=fU (key ⟨i,hi⟩)
 exact⟨a,dx,_,q1,by rw[List.getElem?_ofFn];simp[hi],q2,q3⟩
theorem ET{bs b:List Nat}{x}(s:b <:+ bs)(h:Rd.readState b=some x):x.2 <:+ bs:=by
 rw[Rd.pF] at h
 obtain⟨a,h1,h⟩:=Rd.bind_some h
 obtain⟨_,h⟩:=Rd.jE h
 obtain⟨y,h4,h⟩:=Rd.bind_some h
 obtain⟨_,h⟩:=Rd.jE h
 obtain⟨r,h5,h⟩:=Rd.bind_some h
 obtain⟨_,h⟩:=Rd.jE h
 obtain⟨_,h⟩:=Rd.jE h
 cases h
 have s2:=kE (m:=123) (mO (mO s h1) h4)
 clear h1 h4
 generalize (Rd.passes 123 y.2).2=q at h5 s2
 have:∀(n:Nat) (q:List Nat),q.length<n->q <:+ bs->∀r,Rd.MC q=some r->r.2 <:+ bs:=by
  intro n
  induction n with
  |zero=>intro q h;omega
  |succ n ih=>
   intro q hq sq r e;rw[Rd.zx] at e;have hp:=Rd.jQ 125 q
   split at e
   ·cases e;exact kE sq
   ·obtain⟨w,e1,e⟩:=Rd.bind_some e;obtain⟨z,e2,rfl⟩:=Rd.map_some e;have:=Rd.mR e1;exact ih w.2 (by omega) (xG (kE sq) e1) z e2
 exact this _ q (aE _) s2 r h5
def NI(K:aj)(t:Adr):Sp:=λ vs H Q E=>∃l bs,vs=[.ref l]/\jO K H l (jZ bs)/\bs.length<=65536/\(∀c∈bs,c<256) /\
 Kn (Rd.kT bs) (∀H',E (.ref t.jM) none H') λ net=>∀v H',jF H H'->QF t net v H'->Q v H'
theorem QH{H0 H:Hp}{nX:List Addr}{sx:List SX}(W:UL t H0 H nX sx){c:Addr}(hc:c∈sx.flatMap λ x=>x.2.2):∃o,H c=some o:=by
 obtain⟨x,hx,hc⟩:=f6.mp hc
 obtain⟨i,hi⟩:=Eb hx
 obtain⟨a,_,h⟩:=W.at_ i x hi
 exact h.here hc
theorem Ec{b:List Nat}{x}(h:Rd.lW b=some x):2*x.1.ways.length<=b.length:=by
 rw[Rd.n6] at h
 obtain⟨a,h1,h⟩:=Rd.bind_some h
 obtain⟨g,h2,h⟩:=Rd.bind_some h
 obtain⟨_,h⟩:=Rd.jE h
 obtain⟨y,h4,h⟩:=Rd.bind_some h
 obtain⟨r,h5,h⟩:=Rd.bind_some h
 obtain⟨_,h⟩:=Rd.jE h
 obtain⟨_,h⟩:=Rd.jE h
 cases h
 have:=Rd.lI h1;have:=Rd.sV h2;have:=Rd.jQ 58 g.2;have:=Rd.lX h4;have:=Rd.PJ _ _ (aE _) _ h5
 simp only[aK];omega
theorem QI:∀(n:Nat) (b:List Nat),b.length<n->∀r,Rd.MC b=some r->∀c∈r.1,2*c.ways.length<=b.length
 |0,b,h,_,_=>by omega
 |n+1,b,h,r,e=>by
  rw[Rd.zx] at e;have hp:=Rd.jQ 125 b
  split at e
  ·cases e;simp
  ·obtain⟨w,e1,e⟩:=Rd.bind_some e;obtain⟨z,e2,rfl⟩:=Rd.map_some e;have l:=Rd.mR e1;intro c hc
   rcases aC.mp hc with rfl | hc
   ·have:=Ec e1;omega
   ·have:=QI n w.2 (by omega) z e2 c hc;omega
theorem QJ:∀(n:Nat) (b:List Nat),b.length<n->∀r,Rd.MS b=some r->∀s∈r,∀c∈s.choices,2*c.ways.length<=b.length
 |0,b,h,_,_=>by omega
 |n+1,b,h,r,e=>by
  rw[Rd.zy] at e;have hp:=Rd.lH false b
  split at e
  ·cases e;simp
  ·obtain⟨w,e1,e⟩:=Rd.bind_some e;obtain⟨z,e2,rfl⟩:=Rd.map_some e;have l:=Rd.m8 e1;intro s hs
   rcases aC.mp hs with rfl | hs
   ·rw[Rd.pF] at e1;obtain⟨a,h1,e1⟩:=Rd.bind_some e1;obtain⟨_,e1⟩:=Rd.jE e1;obtain⟨y,h4,e1⟩:=Rd.bind_some e1;obtain⟨_,e1⟩:=Rd.jE e1;obtain⟨r,h5,e1⟩:=Rd.bind_some e1;obtain⟨_,e1⟩:=Rd.jE e1;obtain⟨_,e1⟩:=Rd.jE e1
    cases e1;intro c hc;have:=Rd.lI h1;have:=Rd.lI h4;have:=Rd.jQ 123 y.2;have:=QI _ _ (aE _) _ h5 c hc;omega
   ·intro c hc;have:=QJ n w.2 (by omega) z e2 s hs c hc;omega
theorem Wb{H H':Hp}{p C dp a:Addr}{fs:List (Str×V)}{xs:List V}(h:sQ K H a xs)(hp:H p=some (.ins C dp fs))(k:Kp p H H'):sQ K H' a xs:=by
 rcases h with (h | ⟨o,h⟩) | h
 ·exact .inl (.inl (k _ _ (oZ h hp (by intro z;cases z)) h))
 ·exact .inl (.inr ⟨o,k _ _ (oZ h hp (by intro z;cases z)) h⟩)
 ·exact .inr h
theorem rj.ki{H H':Hp}{p C dp:Addr}{fs:List (Str×V)}{as:List Addr}{kl:List (List Int)}(T:rj K H as kl)(hp:H p=some (.ins C dp fs))(k:Kp p H H'):rj K H' as kl:=⟨T.len,λ i a k' e1 e2=>Wb (T.at_ i a k' e1 e2) hp k⟩
theorem NJ{sx:List SX}{i:Nat}{x:SX}(h:sx[i]? = some x):(sx.take (i+1)).flatMap (λ x=>x.2.2)=(sx.take i).flatMap (λ x=>x.2.2)++x.2.2:=by
 rw[take_snoc h,gx];simp
theorem IQ{sx:List SX}{i j:Nat}{x:SX}{c:Addr}(nd:(sx.flatMap λ x=>x.2.2).Nodup)(h:sx[i]? = some x)(hc:x.2.2[j]? = some c):¬c∈(sx.take i).flatMap (λ x=>x.2.2)++x.2.2.take j:=by
 obtain⟨hi,rfl⟩:=ao.mp h
 obtain⟨hj,rfl⟩:=ao.mp hc
 have e:sx.flatMap (λ x=>x.2.2)=((sx.take i).flatMap (λ x=>x.2.2)++(sx[i]).2.2.take j)++((sx[i]).2.2.drop j++(sx.drop (i+1)).flatMap (λ x=>x.2.2)):=by
  conv=>lhs;rw[<-iM i sx,gx,bC hi,fQ]
  conv=>lhs;rw[show (sx[i]).2.2=(sx[i]).2.2.take j++(sx[i]).2.2.drop j from (iM _ _).symm]
  simp only[cR]
 rw[e,dm] at nd
 intro hm
 refine nd.2.2 _ hm _ ?_ rfl
 refine aY.mpr (.inl ?_)
 rw[bC hj]
 exact aQ
theorem QK{sx:List SX}{i j i' j':Nat}{x x':SX}{c:Addr}(nd:(sx.flatMap λ x=>x.2.2).Nodup)(h:sx[i]? = some x)(hc:x.2.2[j]? = some c)(h':sx[i']? = some x')(hc':x'.2.2[j']? = some c):i'=i/\j'=j:=by
 have main:∀{i j i' j':Nat} {x x':SX},sx[i]? = some x->x.2.2[j]? = some c->sx[i']? = some x'->x'.2.2[j']? = some c->¬(i'<i\/(i'=i/\j'<j)):=by
  intro i j i' j' x x' h hc h' hc' z;refine IQ nd h hc (aY.mpr ?_)
  rcases z with z | ⟨rfl,z⟩
  ·refine .inl (f6.mpr ⟨x',?_,aq hc'⟩);exact aq (i:=i') (by rw[List.getElem?_take,if_pos z];exact h')
  ·rw[h] at h'
   cases h';exact .inr (aq (i:=j') (by rw[List.getElem?_take,if_pos z];exact hc'))
 have:=main h hc h' hc'
 have:=main h' hc' h hc
 omega
theorem Ed(T:Txt K mg t)(kb:K.In base):Ok P w K mg base 8 t.yp t.wI ["text"] (NI K t):=by
 refine T.Br.fn.rm lK (λ vs H Q E h=>?_) λ cdv A outer s H vs Q E hr h=>?_
 ·obtain⟨l,bs,rfl,_⟩:=h;rfl
 ·obtain⟨l,bs,rfl,hl,hlen,hb,h⟩:=h
  have LV:=hr.mono (show 4<=7 by decide);have hr2:=hr.mono (show 2<=7 by decide);have hr1:=hr.mono (show 1<=7 by decide);refine⟨_,jv (jV (i:=1) lK.nd rfl (Or.inl rfl) (CH T.jH T.Bt (DX T) hr2 rfl jU (jt (pv 0) jw)))<|
   jv (jV (i:=2) lK.nd rfl (Or.inl rfl) (mV jw))<|
   jv (nY nj (Ci (pS (mh T.jH T.yI (NB T) LV jU (pv 1))))
    (jy (j5 (Be bN cg cu rG (pv 2) (jt (j6 T.C2 (ES T kb) hr rfl (jT xl_of) (jt (pv 1) jw)) jw)))))<|
   jv (j5 (j6 T.nM (kW T kb) hr1 rfl (jT xl_of) (jt (ug pB pB jL (kj jY (by rfl) T.qE nN (jt (pv 2) jw)) (kO T.EK rfl)) jw)))<|
   jv (zm (i:=3) (own:=[("state",4)]) rfl lK.nd rfl rfl (BY lK.kind rfl rfl rfl) (kL (pv 2)) (ko rfl) (λ _ _ _ _ _=>j8 (i:=4) lK.nd rfl (Or.inl rfl)) (λ _ _ _ _ _=>kQ) (λ _ _ _ _ _=>jX K (pv 4) rfl))<|
   jv (j5 (j6 T.nM (kW T kb) hr1 rfl (jT xl_of) (jt (j6 T.vp (ua T) hr1 rfl jU (jt (pv 3) jw)) jw)))<|
   jv (oN nj rfl (kL (pv 2)) (j8 (i:=4) lK.nd rfl (Or.inl rfl))
    (jy (oN nj rfl (kL (oO (pv 4) rfl)) (j8 (i:=5) lK.nd rfl (Or.inl rfl))
     (jy (pT (pv 5) (j6 T.wY (NG T kb) hr2 rfl (jT xl_of) (jt (oO (pv 5) rfl)<|jt (pv 3) jw)) rfl)))))<|
   jy (jP (pv 2)),?_⟩
  rw[Rd.qh] at h;refine⟨_,rfl,?_⟩;intro r dx hr0 hdx hne;refine⟨r,dx,l,rfl,ju,rfl,?_⟩;rw[kh];have Y7:=qf (u:=.own r) (v:=.ins t.kU dx (Hu l 0)) hr0 hdx;have R1:Ai K t (upd (upd H dx (.own r)) r (.ins t.kU dx (Hu l 0))) r dx l bs bs:=⟨by rw[ju];unfold pl;rw[jn];rfl,jF.seq Y7 hl,fY _,hlen⟩
  generalize upd (upd H dx (.own r)) r (.ins t.kU dx (Hu l 0))=H1 at Y7 R1
  refine⟨(by show 0<=sizeLine;decide),λ sl hsl=>?_⟩;have sm2:=jz (o:=.lst []) hsl;have Ys:H sl=none:=jF.Es Y7 sl hsl;have R2:=R1.same sm2;have We:=Y7.trans sm2;have Wf:upd H1 sl (.lst []) sl=some (.lst []):=ju;have Yt:H r=none:=hr0;show Jv _ _ _ _ (upd H1 sl (.lst []));generalize upd H1 sl (.lst [])=H2 at R2 We Wf
  refine⟨λ m σ H'=>∃(sx:List SX) (nX:List Addr) (q:List Nat),Rd.MS bs=(Rd.MS q).map (λ u=>sx.map (·.1)++u)/\sx.length+q.length<=65536/\m=q.length /\
   σ=[some (.ref l),some (.ref r),some (.ref sl),none,none,none]/\Ai K t H' r dx l bs q/\H' sl=some (.lst (nX.map V.ref))/\UL t H2 H' nX sx/\(sx.flatMap λ x=>x.2.2).Nodup/\jF H H'/\Er H2 H',
   ⟨_,[],[],bs,?_,?_,rfl,rfl,R2,Wf,Ea.nil,by simp,We,Er.refl _⟩,?_⟩
  ·simp
  ·simp;omega
  rintro m σ H' ⟨sx,nX,q,inv,hq2,rfl,rfl,Rq,hsq,W,nd,smq,lq2⟩;refine⟨_,rfl,r,dx,_,rfl,Rq.ins,Am,r,dx,l,bs,q,rfl,Rq,hb,_,rfl,?_⟩;rw[inv,Rd.zy] at h;have sq:=nR Rq.Aj;have lq:=Rd.lH false q;have hstep:=Rd.zy q;generalize Rd.skip false q=y2 at h sq lq hstep
  have R6:=Rq.put sq;have Y8:sl≠r:=oZ hsq Rq.ins (by intro z;cases z);have k6:Kp r H' (lR t H' r dx l bs y2):=Kp.upd;have W6:UL t H2 (lR t H' r dx l bs y2) nX sx:=W.mono λ x a h=>h.kp R2.ins Rq.ins (by intro xs z;cases z) k6
  have UN:lR t H' r dx l bs y2 sl=some (.lst (nX.map V.ref)):=k6 _ _ Y8 hsq;have Yn:Er H' (lR t H' r dx l bs y2):=Kp.Es k6 R6.ins;have sm6:jF H (lR t H' r dx l bs y2):=λ b o eb=>k6 b o (jB eb Yt) (smq b o eb)
  generalize lR t H' r dx l bs y2=H6 at R6 k6 W6 UN Yn sm6
  by_cases NZ:y2=[]
  case neg=>
   rw[if_neg NZ] at h hstep;refine t9 (by rw[decide_eq_false NZ];rfl) ?_;refine⟨λ σ H7=>∃(q7:List Nat) (x7:SX) (a7:Addr),Rd.MS bs=(Rd.MS q7).map (λ u=>(sx++[x7]).map (·.1)++u)/\q7.length<q.length/\(sx++[x7]).length+q7.length<=65536 /\
    σ=[some (.ref l),some (.ref r),some (.ref sl),none,none,none]/\Ai K t H7 r dx l bs q7/\H7 sl=some (.lst ((nX++[a7]).map V.ref))/\UL t H2 H7 (nX++[a7]) (sx++[x7])/\((sx++[x7]).flatMap λ x=>x.2.2).Nodup/\jF H H7/\Er H2 H7,?_,?_⟩
   ·rintro σ7 H7 ⟨q7,x7,a7,i1,i2,i3,rfl,i5,i6,i7,i8,i9,i10⟩;exact⟨_,i2,sx++[x7],nX++[a7],q7,i1,i3,rfl,rfl,i5,i6,i7,i8,i9,i10⟩
   ·refine⟨_,rfl,.inl ⟨rfl,_,jO.of UN⟩,?_⟩;refine⟨_,rfl,Gk R6 hb (λ e H'=>?_) λ x7 e=>⟨ET sq e,λ v H7 R7 k7 hv=>?_⟩⟩
    ·rw[e] at h;exact h H'
    have l7:=Rd.m8 e;obtain⟨a7,cl7,Wg,rfl,hst⟩:=hv;have hs7:H7 sl=some (.lst (nX.map V.ref)):=k7 sl _ Y8 UN;have hsasl:nX.length<=65536:=by rw[W.len];omega
    have Yu:Er H2 H6:=lq2.trans Yn;refine⟨sl,_,_,rfl,rfl,hs7,?_,?_⟩
    ·rw[ah,sizeLine_eq];omega
    have k8:Kp sl H7 (upd H7 sl (.lst (nX.map V.ref++[.ref a7]))):=Kp.upd;have ls8:Er H7 (upd H7 sl (.lst (nX.map V.ref++[.ref a7]))):=Kp.Es k8 ju;have V4:UL t H2 H7 (nX++[a7]) (sx++[(x7.1,cl7,Wg)]):=Ea.snoc (W6.mono λ x a h=>h.kp R2.ins R6.ins (by intro xs z;cases z) k7) (hst.Es Yu);have hsl_ne:sl≠r:=Y8;refine⟨x7.2,(x7.1,cl7,Wg),a7,?_,by omega,by simp;omega,rfl,?_,?_,V4.mono λ x a h=>h.kp Wf hs7 (by intro xs z;cases z) k8,?_,?_,(Yu.trans (Kp.Es k7 R7.ins)).trans ls8⟩
    ·rw[inv,hstep,e,ak,iS]
     congr 1;funext z;simp
    ·exact⟨by rw[jA Y8.symm];exact R7.ins,Hl hl Ys R7.txt,R7.Aj,R7.len⟩
    ·rw[ju,bh];rfl
    ·rw[gx,dm];refine⟨nd,by simpa using hst.choose_spec.choose_spec.2.2.2.2.1,λ a ha b hb e2=>?_⟩;have hb:b∈Wg:=by simpa using hb
     obtain⟨o,eo⟩:=QH W6 ha;rw[e2,hst.new hb] at eo
     cases eo
    ·intro b o eb;rw[jA (jB eb Ys)];exact k7 b o (jB eb Yt) (sm6 b o eb)
  case pos=>
   rw[if_pos NZ] at h;simp only[bH,cF,ak] at h
   refine sP (by rw[decide_eq_true NZ];rfl) ?_;have nl:(sx.map (·.1)).length=nX.length:=by rw[ah,W.len]
   refine⟨_,rfl,sl,_,rfl,.inl (jO.of UN),_,_,rfl,rfl,?_⟩;have q1:decide ((1:Int)<=((nX.map V.ref).length:Int))=decide (1<=(sx.map (·.1)).length):=by rw[ah,<-nl];exact sE 1 _
   have q2:decide (((nX.map V.ref).length:Int)<=16)=decide ((sx.map (·.1)).length<=16):=by rw[ah,<-nl];exact sE _ 16
   refine⟨_,rfl,?_⟩
   by_cases w1:1<=(sx.map (·.1)).length
   case neg=>
    rw[if_neg (λ z=>w1 z.1)] at h;exact sP (q1.trans (decide_eq_false w1)) ⟨_,rfl,tP (h _)⟩
   refine t9 (q1.trans (decide_eq_true w1)) ⟨_,_,rfl,rfl,?_⟩
   by_cases w2:(sx.map (·.1)).length<=16
   case neg=>
    rw[if_neg (λ z=>w2 z.2)] at h;exact⟨_,rfl,sP (q2.trans (decide_eq_false w2)) (h _)⟩
   rw[if_pos ⟨w1,w2⟩] at h;refine⟨_,rfl,t9 (q2.trans (decide_eq_true w2)) ?_⟩;have sxl:sx.length<=16:=by rw[ah] at w2;exact w2
   obtain⟨nms,N6⟩:=QG W6;refine⟨_,rfl,sl,rfl,⟨_,jO.of UN⟩,λ D hD=>mE (K:=K) (a:=sl) (xs:=nX.map V.ref) (λ i H8=>H8=upd H6 D (.lst ((nms.map V.ref).take i))) rfl (λ i H8 _ e8=>by rw[e8];exact jO.of (by rw[jA (jB UN hD)];exact UN)) ?_ ?_⟩
   ·rintro i v H8 hi rfl;obtain⟨ha,ea,rfl⟩:=lC hi;have hil:i<sx.length:=by rw[<-W6.len];exact (ao.mp ea).1
    obtain⟨a',N2,n,p1,p2,p3,p4⟩:=N6.2 i sx[i] (af hil);rw[ea] at p1
    cases p1;refine⟨rfl,?_⟩;refine⟨_,rfl,ha,_,N2,_,_,rfl,(by rw[jA (jB p3 hD)];exact p3),T.tK.cl,T.vq,IP _ _,(nms.map V.ref).take i,ju,?_,?_⟩
    ·rw[aR,sizeLine_eq];have:=N6.1;simp;omega
    ·rw[kh,take_snoc (l:=nms.map V.ref) (x:=V.ref n) (by rw[ai,p2];rfl)]
   ·rintro H8 rfl;rw[ah,show (nms.map V.ref).take nX.length=nms.map V.ref from aA (by rw[ah,N6.1,W6.len];exact au _)];have Ho:=jz (o:=.lst (nms.map V.ref)) hD;have Yv:upd H6 D (.lst (nms.map V.ref)) D=some (.lst (nms.map V.ref)):=ju;have N8:rj K (upd H6 D (.lst (nms.map V.ref))) nms (((sx.map (·.1)).map λ s=>s.name).map zn):=⟨by simp[N6.1],λ i a k e1 e2=>by
     rw[ai,ai,ai] at e2
     cases e:sx[i]? with
     |none=>rw[e] at e2;cases e2
     |some x=>
      rw[e] at e2;have e2:some (zn x.1.name)=some k:=e2
      cases e2;obtain⟨a',N2,n,p1,p2,p3,p4⟩:=N6.2 i x e;rw[e1] at p2
      cases p2;rw[<-xW];exact sQ.of (Ho _ _ p4)⟩
    have hs8:=Ho _ _ UN;have W8:UL t H2 (upd H6 D (.lst (nms.map V.ref))) nX sx:=W6.mono λ x a h=>h.same Ho
    have Yw:=sm6.trans Ho;show Jv _ _ _ _ (upd H6 D (.lst (nms.map V.ref)));generalize upd H6 D (.lst (nms.map V.ref))=H8 at Ho Yv N8 hs8 W8 Yw
    refine⟨_,rfl,D,nms,_,rfl,jO.of Yv,N8,by simp;omega,λ H9 Tf=>?_⟩;refine⟨_,rfl,?_⟩;generalize hnames:((sx.map (·.1)).map λ s=>s.name)=names at h N8
    have end_:decide ((names.map zn).Nodup)=decide (names.Nodup):=by
     rw[aX,decide_eq_true_eq,decide_eq_true_eq];exact DZ _
    by_cases Tg:names.Nodup
    case neg=>rw[if_neg Tg] at h;exact sP (end_.trans (decide_eq_false Tg)) (h _)
    rw[if_pos Tg] at h;refine t9 (end_.trans (decide_eq_true Tg)) ?_;have hD9:=Tf _ _ Yv;have N9:=rj.tk N8 Tf;have hs9:=Tf _ _ hs8;have W9:UL t H2 H9 nX sx:=W8.mono λ x a h=>h.same Tf
    have smt9:=Yw.trans Tf;have raws:Rd.MS bs=some (sx.map (·.1)):=by rw[inv,hstep,if_pos NZ];simp
    have few:=QJ _ _ (aE _) _ raws;refine⟨_,rfl,sl,rfl,⟨_,jO.of hs9⟩,ue (K:=K) (a:=sl) (xs:=nX.map V.ref)
     (λ i σ Hc=>∃v4 v5,σ=[some (.ref l),some (.ref r),some (.ref sl),some (.ref D),v4,v5]/\Hc sl=some (.lst (nX.map V.ref))/\Hc D=some (.lst (nms.map V.ref))/\rj K Hc nms (names.map zn)/\jF H Hc/\Ea (LX t H2 Hc names ((sx.take i).flatMap λ x=>x.2.2)) nX sx)
     ⟨none,none,rfl,hs9,hD9,N9,smt9,W9.mono λ x a h=>LX.of h⟩ (λ i σ Hc _ ⟨_,_,_,e,_⟩=>jO.of e) ?_ ?_⟩
    ·rintro i v σ Hc hi ⟨v4,v5,rfl,hsc,hDc,Nc,smc,Wc⟩;obtain⟨ha,ea,rfl⟩:=lC hi;obtain⟨x,ex,dxs,nm,g1,g2,g3,g4⟩:=Wc.get ea;refine⟨_,rfl,ha,_,dxs,_,_,rfl,g1,T.tK.cl,T.oK,xE _ _,x.2.1,rfl,⟨_,jO.of g3⟩,?_⟩;refine ue (K:=K) (a:=x.2.1) (xs:=x.2.2.map V.ref)
      (λ j σ Hd=>∃v5,σ=[some (.ref l),some (.ref r),some (.ref sl),some (.ref D),some (.ref ha),v5]/\Hd sl=some (.lst (nX.map V.ref))/\Hd D=some (.lst (nms.map V.ref))/\rj K Hd nms (names.map zn)/\jF H Hd/\Ea (LX t H2 Hd names ((sx.take i).flatMap (λ x=>x.2.2)++x.2.2.take j)) nX sx)
      ⟨v5,rfl,hsc,hDc,Nc,smc,by rw[gP,cF];exact Wc⟩ (λ j σ Hd _ ⟨_,_,_,_,_,_,e⟩=>by
       obtain⟨x',WA,_,_,_,_,g3',_⟩:=e.get ea;rw[ex] at WA
       cases WA;exact jO.of g3') ?_ ?_
     ·rintro j v σ Hd hj ⟨v5',rfl,WO,WQ,Nd,Yx,Wd⟩;obtain⟨ca,ec,rfl⟩:=lC hj;obtain⟨x',WA,dxs',WI,k1,k2,k3,k4⟩:=Wd.get ea;rw[ex] at WA
      cases WA;obtain⟨c,ecc,_,raw⟩:=k4.get ec;obtain⟨a',N2,Y9,wy,as,bn,e0,c1,c2,c3,c4,c5,c6⟩:=raw (IQ nd ex ec)
      cases e0;have hx:x.1∈sx.map (·.1):=aB.mpr ⟨x,aq ex,rfl⟩;have R0:c∈x.1.choices:=aq ecc;have hfew:=few _ hx _ R0;refine⟨_,rfl,ca,_,N2,_,_,rfl,c1,T.j0.cl,T.mq,uW _ _ _ _,_,rfl,wy,D,as,bn,nms,c.ways,names,rfl,jO.of c3,c4,jO.of WQ,Nd,by omega,?_⟩
      by_cases hall:(c.ways.all λ w=>names.contains w.1)=true
      case neg=>
       rw[if_neg hall];have hno:¬((sx.map (·.1)).all λ s=>s.choices.all λ c=>c.ways.all λ w=>names.contains w.1)=true:=λ z=>by
        have z1:=bz.mp z x.1 hx;have z2:=bz.mp z1 c R0;exact hall z2
       rw[if_neg hno] at h;exact h
      rw[if_pos hall];intro p ps He To hp hpe Ee;have UO:=To _ _ c1;refine⟨_,rfl,ca,_,N2,_,rfl,UO,T.j0.cl,T.mq,(by show 4<1000;decide),?_⟩;rw[Td];have kp:Kp ca He (upd He ca (.ins t.kF N2 (BU (.ref Y9) (.int c.gain) (.ref p) (.int (c.ways.map λ w=>(w.2:Int)).sum)))):=Kp.upd;have new:N3 t (upd He ca (.ins t.kF N2 (BU (.ref Y9) (.int c.gain) (.ref p) (.int (c.ways.map λ w=>(w.2:Int)).sum)))) (WN names c) ca:=by
       refine⟨N2,Y9,p,ps,?_,Kp.tk kp UO _ _ (To _ _ c2),kp _ _ (oZ hpe UO (by intro z;cases z)) hpe,Ee.mono λ x a h=>Kp.tk kp UO _ _ h⟩;rw[ju];have:((WN names c).ways.map λ w=>(w.2:Int))=(c.ways.map λ w=>(w.2:Int)):=by unfold WN;rw[dO];rfl
       rw[this];rfl
      generalize upd He ca (.ins t.kF N2 (BU (.ref Y9) (.int c.gain) (.ref p) (.int (c.ways.map λ w=>(w.2:Int)).sum)))=Hf at kp new
      refine⟨some (.ref ca),rfl,kp _ _ (oZ (To _ _ WO) UO (by intro z;cases z)) (To _ _ WO),kp _ _ (oZ (To _ _ WQ) UO (by intro z;cases z)) (To _ _ WQ),rj.ki (rj.tk Nd To) UO kp,?_,?_⟩
      ·intro b o eb;refine kp b o (λ z=>?_) (To _ _ (Yx _ _ eb));rw[z,jF.Es We _ c5] at eb
       cases eb
      ·rw[take_snoc ec,<-cR];refine⟨Wd.len,λ i' x' e'=>?_⟩;obtain⟨a',e1,e2⟩:=Wd.at_ i' x' e';refine⟨a',e1,LX.step (c:=c) (e2.same To) UO kp λ j' e3 c' e4=>?_⟩;obtain⟨rfl,rfl⟩:i'=i/\j'=j:=QK nd ex ec e' e3;rw[ex] at e'
       cases e';rw[ecc] at e4
       cases e4;exact⟨new,hall⟩
     ·rintro σ Hd ⟨v5',rfl,WO,WQ,Nd,Yx,Wd⟩;rw[ah,cX,<-NJ ex] at Wd;exact⟨_,_,rfl,WO,WQ,Nd,Yx,Wd⟩
    ·rintro σ Hd ⟨v4,v5,rfl,WO,WQ,Nd,Yx,Wd⟩;rw[ah,W.len,cX] at Wd;have fin:∀(i:Nat) (x:SX),sx[i]? = some x->∃a,nX[i]? = some a/\UM t Hd (Yr names x.1) a/\(x.1.choices.all λ c=>c.ways.all λ w=>names.contains w.1)=true:=λ i x e=>by
      obtain⟨a,e1,e2⟩:=Wd.at_ i x e;exact⟨a,e1,e2.all λ c hc=>f6.mpr ⟨x,aq e,hc⟩⟩
     have hall:((sx.map (·.1)).all λ s=>s.choices.all λ c=>c.ways.all λ w=>names.contains w.1)=true:=by
      rw[bz];intro s hs;obtain⟨x,hx,rfl⟩:=aB.mp hs;obtain⟨i,hi⟩:=Eb hx;obtain⟨_,_,_,z⟩:=fin i x hi;exact z
     rw[if_pos hall,NH,hnames] at h;refine⟨_,rfl,h _ _ Yx ⟨sl,nX,rfl,WO,?_,λ i s e=>?_⟩⟩
     ·rw[W.len];simp
     ·rw[ai,ai] at e
      cases ex:sx[i]? with
      |none=>rw[ex] at e;cases e
      |some x=>
       rw[ex] at e
       cases e;obtain⟨a,e1,e2,_⟩:=fin i x ex;exact⟨a,e1,e2⟩
theorem rL(T:Txt K mg t)(kb:K.In base):OwnCls "OutOfRange" t.j9 [.type "Exception",.type "BaseException",.type "object"] "Exception.__new__" mg base:=uq kb T.zS.mg T.zS.ex
def QL(t:Adr):Sp:=λ vs H Q E=>∃n a b:Int,vs=[.int n,.int a,.int b]/\if a<=n/\n<=b then Q .qZ H else E (.ref t.j9) none H
theorem qQ(T:Txt K mg t)(kb:K.In base):Ok P w K mg base 1 t.wJ t.vG ["number","least","greatest"] (QL t):=by
 refine T.rB.fn.rm BO (λ vs H Q E h=>?_) λ cdv A outer s H vs Q E hr h=>?_
 ·obtain⟨n,a,b,rfl,_⟩:=h;rfl
 ·obtain⟨n,a,b,rfl,h⟩:=h
  refine⟨_,jy (qR (Ci (Oq pB pB (pv 1) (pv 0) (pv 2))) (jy (vZ xl_of rfl (rL T kb) bX)) ny),?_⟩;refine⟨_,rfl,_,rfl,_,_,rfl,rfl,_,rfl,?_⟩
  by_cases h1:a<=n
  case neg=>
   rw[if_neg (λ z=>h1 z.1)] at h;exact sP (decide_eq_false h1) ⟨_,rfl,vX h⟩
  refine t9 (decide_eq_true h1) ⟨_,rfl,_,_,rfl,rfl,_,rfl,?_⟩
  by_cases h2:n<=b
  ·rw[if_pos ⟨h1,h2⟩] at h;exact sP (by rw[decide_eq_true h2];rfl) h
  ·rw[if_neg (λ z=>h2 z.2)] at h;exact t9 (by rw[decide_eq_false h2];rfl) h
theorem uX(T:Txt K mg t)(kb:K.In base):OwnCls "NoSuchGoal" t.kg [.type "Exception",.type "BaseException",.type "object"] "Exception.__new__" mg base:=uq kb T.zT.mg T.zT.ex
theorem uY(T:Txt K mg t)(kb:K.In base):OwnCls "GainTooLow" t.kr [.type "Exception",.type "BaseException",.type "object"] "Exception.__new__" mg base:=uq kb T.zU.mg T.zU.ex
theorem uZ(T:Txt K mg t)(kb:K.In base):OwnCls "NoRoom" t.mJ [.type "Exception",.type "BaseException",.type "object"] "Exception.__new__" mg base:=uq kb T.Ii.mg T.Ii.ex
inductive Told(t:Adr):Value->Int->Prop
 |range:Told t (.ref t.j9) (-1)
 |text:Told t (.ref t.jM) (-2)
 |goal:Told t (.ref t.kg) (-3)
 |gain:Told t (.ref t.kr) (-4)
 |room:Told t (.ref t.mJ) (-7)
def Yy(t:Adr)(Q:VK):XK:=λ cls _ H1=>∃c:Int,Told t cls c/\∀l,H1 l=none->Q (.ref l) (upd H1 l (.lst [.int c]))
theorem Kv(T:Txt K mg t)(kb:K.In base){A:Around}{outer:List Env}{s:Shared}{H:Hp}{Q:VK}{E:XK}{p:Addr}{o:Obj}{fd:FuncData}{k:Nat}(hr:nT (k+1) A)(e0:AA P w K mg base A outer s H)
  (ho:s.heap.get? p=some o) (hd:o.data=.func fd)
  (run:∀(Wh:Env) (A1:Around) (s1:Shared),nT k A1->AA P w K mg base A1 (Wh::outer) s1 H->(∀b o,s.heap.get? b=some o->s1.heap.get? b=some o) ->
   codeAny (model P w) A1 (.call (.ref p) ⟨[],[]⟩) (CR (yT P w) (Wh::outer) P w H s1 Q (Yy t Q)) s1) :
  codeAny (model P w) A (.call (.ref t.CY) ⟨[.ref p],[]⟩) (CR (yT P w) outer P w H s Q E) s:=by
 obtain⟨oc,od,kV,doc,pm,an,cdv,ct,osl,efd,lk,hcd⟩:=T.answer.fn.ex
 have KX:K.In s.heap:=kb.keeps λ b o e=>(e0.bs b o e).1
 have hb:=T.answer.bd s [.ref p] KX rfl
 rw[efd] at hb lk
 refine Pf (vs:=[.ref p]) (us:=[.ref p]) (E:=E) lk hcd M9 rfl hr e0 hb (.cons rfl .nil) λ s1 hr1 I kp=>?_
 have hS:∀{D:Ends} {f:Flow} {s':Shared},D.rt=Q->(∀σ H,¬D.nx σ H)->(∀σ H,¬D.bk σ H)->(∀σ H,¬D.ct σ H)->SP (Cu (yT P w) P w K mg base ["work"] "answer" (jD zz) t.CY cdv A outer s H E) [] D f s'->(match f with
    |.ret u=>CR (yT P w) outer P w H s Q E (.ok (.ret u)) s'
    |.next=>CR (yT P w) outer P w H s Q E (.ok (.ret .none)) s'
    |_=>False):=by
  intro D f s' e1 e2 e3 e4 h
  cases f with
  |ret u=>obtain⟨v,σ',H',J,rv,q⟩:=h;rw[e1] at q;exact⟨v,H',J.os,J.bare,J.base,J.hok,rv,q⟩
  |next=>obtain⟨σ',H',_,q⟩:=h;exact (e2 _ _ q).elim
  |brk=>obtain⟨σ',H',_,q⟩:=h;exact (e3 _ _ q).elim
  |cont=>obtain⟨σ',H',_,q⟩:=h;exact (e4 _ _ q).elim
 refine wpAny_execs_cons (wpAny_mono (Ph (Ds:={ nx:=λ _ _=>False,rt:=Q }) (i:=0) (p:=p) (E:=Yy t Q) I rfl rfl rfl (Or.inl rfl) rfl (kp _ _ ho) hd (run _ _ s1 hr1 I.RO kp) ?_) (λ f s' h=>?_) λ e s' h=>h)
 ·rintro a C a0 B h3 s' H1 fl again ⟨c,tc,hq⟩
  have I3:=again h3 fl (Heap.UpToSlots.refl _);have ox:=bX
  cases tc with
  |range=>exact hit I3 fl rfl (rL T kb) ox (λ E=>jy (jP (mV (jt (kO T.De rfl) jw)))) ⟨(by show 1<=sizeLine;decide),hq⟩ again
  |text=>
   refine miss I3 fl rfl (AU T kb) (rL T kb) ox T.uH ?_;exact hit I3 fl rfl (AU T kb) ox (λ E=>jy (jP (mV (jt (kO T.Df rfl) jw)))) ⟨(by show 1<=sizeLine;decide),hq⟩ again
  |goal=>
   refine miss I3 fl rfl (uX T kb) (rL T kb) ox T.uJ ?_;refine miss I3 fl rfl (uX T kb) (AU T kb) ox T.uI ?_;exact hit I3 fl rfl (uX T kb) ox (λ E=>jy (jP (mV (jt (kO T.Dg rfl) jw)))) ⟨(by show 1<=sizeLine;decide),hq⟩ again
  |gain=>
   refine miss I3 fl rfl (uY T kb) (rL T kb) ox T.uL ?_;refine miss I3 fl rfl (uY T kb) (AU T kb) ox T.uK ?_;refine miss I3 fl rfl (uY T kb) (uX T kb) ox T.uM ?_;exact hit I3 fl rfl (uY T kb) ox (λ E=>jy (jP (mV (jt (kO T.Dh rfl) jw)))) ⟨(by show 1<=sizeLine;decide),hq⟩ again
  |room=>
   refine miss I3 fl rfl (uZ T kb) (rL T kb) ox T.x6 ?_;refine miss I3 fl rfl (uZ T kb) (AU T kb) ox T.xZ ?_;refine miss I3 fl rfl (uZ T kb) (uX T kb) ox T.x8 ?_;refine miss I3 fl rfl (uZ T kb) (uY T kb) ox T.x9 ?_;exact hit I3 fl rfl (uZ T kb) ox (λ E=>jy (jP (mV (jt (kO T.Nb rfl) jw)))) ⟨(by show 1<=sizeLine;decide),hq⟩ again
 ·have z:=hS (D:={ nx:=λ _ _=>False,rt:=Q }) rfl (λ _ _ z=>z) (λ _ _ z=>z) (λ _ _ z=>z) h
  cases f with
  |next=>exact wpAny_execs_nil z
  |ret u=>exact z
  |brk=>exact z
  |cont=>exact z
def Given(K:aj)(t:Adr)(H:Hp)(Q:VK)(E:XK)(l:Addr)(bs:List Nat)(room:Int):Prop:=jO K H l (jZ bs)/\(∀c∈bs,c<256) /\
 if bs.length<=65536/\0<=room/\room<=65536 then Kn (Rd.kT bs) (∀H',E (.ref t.jM) none H') (λ net=>∀v H',jF H H'->QF t net v H'->Q v H') else ∀H',E (.ref t.j9) none H'
def QM(K:aj)(t:Adr):Sp:=λ vs H Q E=>∃l bs room,vs=[.ref l,.int room]/\Given K t H Q E l bs room
theorem EU(T:Txt K mg t)(kb:K.In base):Ok P w K mg base 9 t.zF t.yq ["text","room"] (QM K t):=by
 refine T.C3.fn.rm EG (λ vs H Q E h=>?_) λ cdv A outer s H vs Q E hr h=>?_
 ·obtain⟨l,bs,room,rfl,_⟩:=h;rfl
 ·obtain⟨l,bs,room,rfl,hl,hb,h⟩:=h
  have hr1:=hr.mono (show 1<=8 by decide);refine⟨_,jv (j5 (j6 T.rB (qQ T kb) hr1 rfl (jT xl_of) (jt (kj jY (by rfl) T.qE nN (jt (pv 0) jw))<|jt jL<|jt (kO T.Dd rfl) jw)))<|
   jv (j5 (j6 T.rB (qQ T kb) hr1 rfl (jT xl_of) (jt (pv 1)<|jt jL<|jt (kO T.BQ rfl) jw)))<|
   jy (jP (j6 T.Br (Ed T kb) hr rfl (jT xl_of) (jt (pv 0) jw))),?_⟩
  refine⟨_,rfl,l,_,rfl,.inl hl,_,_,_,rfl,?_⟩;rw[ku]
  by_cases h1:bs.length<=65536
  case neg=>
   rw[if_neg (λ z=>h1 z.1)] at h;rw[if_neg (λ z=>h1 (by omega))];exact h _
  rw[if_pos ⟨by omega,by omega⟩];refine⟨_,rfl,_,_,_,rfl,?_⟩
  by_cases h2:0<=room/\room<=65536
  case neg=>
   rw[if_neg (λ z=>h2 z.2)] at h;rw[if_neg h2];exact h _
  rw[if_pos ⟨h1,h2⟩] at h;rw[if_pos h2];exact⟨_,rfl,l,bs,rfl,hl,h1,hb,h⟩
def QN(K:aj)(t:Adr):Sp:=λ vs H Q E=>∃l bs room g,vs=[.ref l,.int room,.int g]/\jO K H l (jZ bs)/\(∀c∈bs,c<256) /\
 if (0<=g/\g<=65535)/\bs.length<=65536/\0<=room/\room<=65536 then Kn (Rd.kT bs) (∀H',E (.ref t.jM) none H') (λ net=>if 2^net.length<=g.toNat then ∀H',E (.ref t.kg) none H' else ∀v H',jF H H'->QF t net v H'->Q v H') else ∀H',E (.ref t.j9) none H'
theorem QO{g:Int}{n:Nat}(hg:0<=g):decide (V.int (g/2^n)=V.int 0)=decide (¬2^n<=g.toNat):=by
 rw[lD,aX,beq_iff_eq,decide_eq_true_eq]
 obtain⟨m,rfl⟩:=fE hg
 have e:(m:Int)/2^n=((m/2^n:Nat):Int):=by push_cast;rfl
 rw[e,bZ]
 have hp:0<2^n:=Nat.two_pow_pos n
 constructor
 ·intro z q
  have:m/2^n=0:=by omega
  rw[Nat.div_eq_zero_iff] at this;omega
 ·intro q
  have:m/2^n=0:=Nat.div_eq_of_lt (by omega);omega
theorem ya(T:Txt K mg t)(kb:K.In base):Ok P w K mg base 10 t.sj t.qV ["text","room","goals"] (QN K t):=by
 refine T.uG.fn.rm qT (λ vs H Q E h=>?_) λ cdv A outer s H vs Q E hr h=>?_
 ·obtain⟨l,bs,room,g,rfl,_⟩:=h;rfl
 ·obtain⟨l,bs,room,g,rfl,hl,hb,h⟩:=h
  have hr1:=hr.mono (show 1<=9 by decide);refine⟨_,jv (j5 (j6 T.rB (qQ T kb) hr1 rfl (jT xl_of) (jt (pv 2)<|jt jL<|jt (kO T.AR rfl) jw)))<|
   jv (jV (i:=3) qT.nd rfl (Or.inl rfl) (j6 T.C3 (EU T kb) hr rfl (jT xl_of) (jt (pv 0)<|jt (pv 1) jw)))<|
   jv (qR (l6 Fb (kP Oj (pv 2) (kj jY (by rfl) T.qE nN (jt (pv 3) jw))) jL (kH _)) (jy (vZ xl_of rfl (uX T kb) bX)) ny)<|
   jy (jP (pv 3)),?_⟩
  refine⟨_,rfl,_,_,_,rfl,?_⟩
  by_cases h1:0<=g/\g<=65535
  case neg=>
   rw[if_neg (λ z=>h1 z.1)] at h;rw[if_neg h1];exact h _
  rw[if_pos h1];refine⟨_,rfl,_,rfl,l,bs,room,rfl,hl,hb,?_⟩
  by_cases h2:bs.length<=65536/\0<=room/\room<=65536
  case neg=>
   rw[if_neg (λ z=>h2 z.2)] at h;rw[if_neg h2];exact h
  rw[if_pos ⟨h1,h2⟩] at h;rw[if_pos h2]
  cases e:Rd.kT bs with
  |none=>rw[e] at h;exact h
  |some net=>
   rw[e] at h;intro v H' sm hv;obtain⟨sl,nX,rfl,hsl,hst⟩:=id hv;refine⟨_,rfl,_,rfl,sl,_,rfl,.inl (jO.of hsl),_,_,rfl,rfl,by omega,rfl,_,rfl,?_⟩;have ez:=QO (g:=g) (n:=nX.length) h1.1;have en:((nX.map V.ref).length:Int).toNat=nX.length:=by simp
   have elen:=hst.len;have eb:(!decide (V.int (g/2^((nX.map V.ref).length:Int).toNat)=V.int 0))=decide (2^nX.length<=g.toNat):=by
    rw[en,ez]
    by_cases z:2^nX.length<=g.toNat
    ·rw[decide_eq_false (λ q=>q z),decide_eq_true z];rfl
    ·rw[decide_eq_true z,decide_eq_false z];rfl
   have h:if 2^net.length<=g.toNat then ∀H',E (.ref t.kg) none H' else ∀v H',jF H H'->QF t net v H'->Q v H':=h
   rw[<-elen] at h
   by_cases h3:2^nX.length<=g.toNat
   ·rw[if_pos h3] at h;exact t9 (eb.trans (decide_eq_true h3)) (h _)
   ·rw[if_neg h3] at h;exact sP (eb.trans (decide_eq_false h3)) ⟨_,rfl,h _ _ sm hv⟩
theorem Tq{g:Int}{s:Nat}(hg:0<=g):Builtin.bitAnd (g/2^s) 1=if Ra61.isGoal g.toNat s=true then 1 else 0:=by
 rw[PyProof.Rows.bitAnd_m1]
 obtain⟨m,rfl⟩:=fE hg
 have e:(m:Int)/2^s%2=((m/2^s%2:Nat):Int):=by push_cast;rfl
 rw[e,bZ]
 unfold Ra61.isGoal
 have:m/2^s%2=0\/m/2^s%2=1:=by omega
 rcases this with q | q<;>rw[q]<;>rfl
def m7(n:Nat)(g:Nat):List Int:=(ay n).map λ s=>if Ra61.isGoal g s=true then 1 else 0
def QR(K:aj):Sp:=λ vs H Q _=>∃g sl xs,vs=[.int g,.ref sl]/\0<=g/\jO K H sl xs/\xs.length<=16/\∀D,H D=none->Q (.ref D) (upd H D (.lst ((m7 xs.length g.toNat).map V.int)))
theorem EV(T:Txt K mg t):Ok P w K mg base 1 t.zH t.yr ["goals","states"] (QR K):=by
 refine T.C4.fn.rm t7 (λ vs H Q E h=>?_) λ cdv A outer s H vs Q E hr h=>?_
 ·obtain⟨g,sl,xs,rfl,_⟩:=h;rfl
 ·obtain⟨g,sl,xs,rfl,hg,hl,hn,h⟩:=h
  refine⟨_,jy (jP (o5 (own:=[("place",2)]) rfl t7.nd (ud (by rfl) T.zX (jt (kj jY (by rfl) T.qE nN (jt (pv 1) jw)) jw)) (ko rfl) (λ _ _ _ _ _=>j8 (i:=2) t7.nd rfl (Or.inl rfl)) (λ _ _ _ _ _=>kQ)
   (λ _ _ _ _ _=>kP Vj (kP Oj (pv 0) (pv 2)) jL))),?_⟩
  refine⟨_,rfl,sl,_,rfl,.inl hl,_,rfl,by omega,by omega,λ D hD=>?_⟩;have en:(xs.length:Int).toNat=xs.length:=by simp
  refine HJ (n:=(xs.length:Int).toNat) (λ i H8=>H8=upd H D (.lst (((m7 xs.length g.toNat).map V.int).take i))) rfl ?_ ?_
  ·rintro i H8 hi rfl;rw[en] at hi;refine⟨rfl,?_⟩;refine⟨_,rfl,_,rfl,_,_,rfl,rfl,by omega,_,_,rfl,rfl,_,ju,?_,?_⟩
   ·rw[aR,sizeLine_eq];unfold m7;simp;omega
   ·have e1:(0+(i:Int)).toNat=i:=by omega
    show upd (upd _ D _) D (.lst (_++[V.int (Builtin.bitAnd (g/2^(0+(i:Int)).toNat) 1)]))=_;rw[kh,e1,Tq hg,take_snoc (l:=(m7 xs.length g.toNat).map V.int) (x:=V.int (if Ra61.isGoal g.toNat i=true then 1 else 0)) (by unfold m7;rw[ai,ai,aL hi];rfl)]
  ·rintro H8 rfl;rw[en,aA (by unfold m7;simp)];exact h D hD
theorem QS(x y:Int):iV y (x%y)=iV x y:=by
 rw[Int.emod_def,Int.gcd_comm x y]
 simp
def Wi:Sp:=λ vs H Q _=>∃a b:Int,vs=[.int a,.int b]/\0<b/\Q (.int (iV a b:Nat)) H
theorem Aq(T:Txt K mg t):Ok P w K mg base 1 t.uz t.sY ["number","other"] Wi:=by
 refine T.wZ.fn.rm nA (λ vs H Q E h=>?_) λ cdv A outer s H vs Q E hr h=>?_
 ·obtain⟨a,b,rfl,_⟩:=h;rfl
 ·obtain⟨a,b,rfl,hb,h⟩:=h
  refine⟨_,jv (nY nj (l6 Fb (pv 1) jL (kH _))
    (jv (jV (i:=2) nA.nd rfl (Or.inl rfl) (kP Jz (pv 0) (pv 1)))<|
      jv (jV (i:=0) nA.nd rfl (Or.inl rfl) (pv 1))<|
      jy (jV (i:=1) nA.nd rfl (Or.inl rfl) (pv 2))))<|
   jy (jP (pv 0)),?_⟩
  refine⟨λ m σ H'=>∃(x y:Int) (v2:Option V),σ=[some (.int x),some (.int y),v2]/\0<=y/\(0<x\/0<y)/\iV x y=iV a b/\m=y.toNat/\H'=H,⟨_,a,b,none,rfl,by omega,.inr hb,rfl,rfl,rfl⟩,?_⟩;rintro m σ H' ⟨x,y,v2,rfl,hy,hxy,e,rfl,hH⟩;have hH':=hH.symm;subst hH';refine⟨_,rfl,rfl,_,rfl,?_⟩
  by_cases h0:y=0
  ·subst h0;refine sP (by rw[lD];rfl) ⟨_,rfl,?_⟩;have hx:0<x:=by omega
   rw[Int.gcd_zero] at e;have ex:x=((iV a b:Nat):Int):=by omega
   rw[ex];exact h
  ·have hy1:0<y:=by omega
   refine t9 (by rw[lD];simpa using h0) ⟨λ σ H'=>∃v2,σ=[some (.int y),some (.int (x%y)),v2]/\H'=H,?_,?_⟩
   ·rintro σ' H' ⟨v2',rfl,hH2⟩;have hlt:=Int.emod_lt_of_pos x hy1;have hge:=Int.emod_nonneg x h0;exact⟨(x%y).toNat,by omega,y,x%y,v2',rfl,hge,.inl (by omega),(QS x y).trans e,rfl,hH2⟩
   ·refine⟨_,rfl,_,rfl,_,_,rfl,rfl,hy1,_,rfl,_,rfl,?_⟩;exact⟨_,rfl,rfl⟩
def Rr(jx bot:V):List (Str×V):=nZ "bottom" bot (nZ "tops" jx [])
def NK(os es:V):List (Str×V):=nZ "ends" es (nZ "options" os [])
theorem Ar(a b:V):(Rr a b).lookup ("tops":Str)=some a:=by
 unfold Rr;rw[jI,if_neg (by decide),jI,if_pos rfl]
theorem zf(a b:V):(Rr a b).lookup ("bottom":Str)=some b:=by
 unfold Rr;rw[jI,if_pos rfl]
theorem tO(a b:V):(NK a b).lookup ("options":Str)=some a:=by
 unfold NK;rw[jI,if_neg (by decide),jI,if_pos rfl]
theorem QT(a b:V):(NK a b).lookup ("ends":Str)=some b:=by
 unfold NK;rw[jI,if_pos rfl]
def Ef(t:Adr):Sp:=λ vs H Q _=>∃x dx a b,vs=[.ref x,a,b]/\H x=some (.ins t.nL dx [])/\Q .qZ (upd H x (.ins t.nL dx (Rr a b)))
theorem xH(T:Txt K mg t):Ok P w K mg base 1 t.yE t.wV ["self","tops","bottom"] (Ef t):=by
 refine T.xh.fn.rm CU (λ vs H Q E h=>?_) λ cdv A outer s H vs Q E hr h=>?_
 ·obtain⟨x,dx,a,b,rfl,_⟩:=h;rfl
 ·obtain⟨x,dx,a,b,rfl,hx,h⟩:=h
  refine⟨_,jv (pT (pv 0) (pv 1) rfl) (jy (pT (pv 0) (pv 2) rfl)),?_⟩;refine⟨_,rfl,_,rfl,x,_,dx,_,rfl,hx,T.mX.cl,T.om,(by show 0<1000;decide),?_⟩;refine⟨_,rfl,_,rfl,x,_,dx,_,rfl,ju,T.mX.cl,T.oM,(by show 1<1000;decide),?_⟩;rw[kh];exact h
def EW(t:Adr):Sp:=λ vs H Q _=>∃x dx a b,vs=[.ref x,a,b]/\H x=some (.ins t.mF dx [])/\Q .qZ (upd H x (.ins t.mF dx (NK a b)))
theorem EX(T:Txt K mg t):Ok P w K mg base 1 t.zL t.yG ["self","options","ends"] (EW t):=by
 refine T.C7.fn.rm EI (λ vs H Q E h=>?_) λ cdv A outer s H vs Q E hr h=>?_
 ·obtain⟨x,dx,a,b,rfl,_⟩:=h;rfl
 ·obtain⟨x,dx,a,b,rfl,hx,h⟩:=h
  refine⟨_,jv (pT (pv 0) (pv 1) rfl) (jy (pT (pv 0) (pv 2) rfl)),?_⟩;refine⟨_,rfl,_,rfl,x,_,dx,_,rfl,hx,T.mT.cl,T.nq,(by show 0<1000;decide),?_⟩;refine⟨_,rfl,_,rfl,x,_,dx,_,rfl,ju,T.mT.cl,T.zQ,(by show 1<1000;decide),?_⟩;rw[kh];exact h
def Kw(t:Adr)(H:Hp)(o:Fq.kZ)(a:Addr):Prop:=∃dx nm wy ps,H a=some (.ins t.kF dx (BU (.ref nm) (.int o.gain) (.ref wy) (.int o.tot)))/\H nm=some (.tup (jZ o.name))/\H wy=some (.lst (ps.map V.ref))/\Ea (NE H) ps o.ways
theorem Kw.same{H H':Hp}{o:Fq.kZ}{a:Addr}(h:Kw t H o a)(k:jF H H'):Kw t H' o a:=by
 obtain⟨dx,nm,wy,ps,h1,h2,h3,h4⟩:=h
 exact⟨dx,nm,wy,ps,k _ _ h1,k _ _ h2,k _ _ h3,h4.mono λ x a h=>k _ _ h⟩
def NL(t:Adr)(H:Hp)(os:List Fq.kZ)(a:Addr):Prop:=∃as:List Addr,H a=some (.lst (as.map V.ref))/\Ea (Kw t H) as os
theorem NL.same{H H':Hp}{os:List Fq.kZ}{a:Addr}(h:NL t H os a)(k:jF H H'):NL t H' os a:=by
 obtain⟨as,h1,h2⟩:=h
 exact⟨as,k _ _ h1,h2.mono λ x a h=>h.same k⟩
def Tr(c:Ra61.Choice):Fq.kZ:=⟨c.name,c.gain,c.ways,(c.weight:Int)⟩
theorem N3.op{H:Hp}{c:Ra61.Choice}{a:Addr}(h:N3 t H c a):Kw t H (Tr c) a:=by
 obtain⟨dx,nm,wy,ps,h1,h2,h3,h4⟩:=h
 have e:(c.ways.map λ w=>(w.2:Int)).sum=((Tr c).tot):=by
  show _=(((c.ways.map λ w=>w.2).sum:Nat):Int)
  induction c.ways with
  |nil=>rfl
  |cons w r ih=>rw[aS,aS,dB,dB,ih,Int.natCast_add]
 exact⟨dx,nm,wy,ps,by rw[<-e];exact h1,h2,h3,h4⟩
theorem Ea.map{α β:Type}{R:α->Addr->Prop}{S:β->Addr->Prop}{f:α->β}{as:List Addr}{xs:List α}(E:Ea R as xs)(h:∀x a,R x a->S (f x) a):Ea S as (xs.map f):=
 ⟨by rw[ah];exact E.len,λ i y e=>by
  rw[ai] at e
  cases q:xs[i]? with
  |none=>rw[q] at e;cases e
  |some x=>rw[q] at e;cases e;obtain⟨a,e1,e2⟩:=E.at_ i x q;exact⟨a,e1,h x a e2⟩⟩
def Rt(t:Adr)(H:Hp)(D:Addr)(o:Fq.kZ)(a:Addr):Prop:=∃dx nm wy ps,H a=some (.ins t.kF dx (BU (.ref nm) (.int o.gain) (.ref wy) (.int o.tot)))/\H nm=some (.tup (jZ o.name))/\H wy=some (.lst (ps.map V.ref))/\Ea (NE H) ps o.ways/\wy≠D
def QU(t:Adr)(H:Hp)(D:Addr)(os:List Fq.kZ)(a:Addr):Prop:=a≠D/\∃as:List Addr,H a=some (.lst (as.map V.ref))/\Ea (Rt t H D) as os
theorem Rt.op{H:Hp}{D:Addr}{o:Fq.kZ}{a:Addr}(h:Rt t H D o a):Kw t H o a:=by
 obtain⟨dx,nm,wy,ps,h1,h2,h3,h4,_⟩:=h
 exact⟨dx,nm,wy,ps,h1,h2,h3,h4⟩
theorem Rt.same{H H':Hp}{D:Addr}{o:Fq.kZ}{a:Addr}(h:Rt t H D o a)(k:jF H H'):Rt t H' D o a:=by
 obtain⟨dx,nm,wy,ps,h1,h2,h3,h4,h5⟩:=h
 exact⟨dx,nm,wy,ps,k _ _ h1,k _ _ h2,k _ _ h3,h4.mono λ x a h=>k _ _ h,h5⟩
theorem Rt.put{H:Hp}{D:Addr}{o:Fq.kZ}{a:Addr}{xs ys:List V}(h:Rt t H D o a)(hD:H D=some (.lst xs)):Rt t (upd H D (.lst ys)) D o a:=by
 obtain⟨dx,nm,wy,ps,h1,h2,h3,h4,h5⟩:=h
 exact⟨dx,nm,wy,ps,by rw[jA (oZ h1 hD (by intro z;cases z))];exact h1,by rw[jA (oZ h2 hD (by intro z;cases z))];exact h2,by rw[jA h5];exact h3,h4.mono λ x a h=>by
  show (upd H D (.lst ys)) a=_;rw[jA (oZ (show H a=_ from h) hD (by intro z;cases z))];exact h,h5⟩
theorem Kw.new{H H':Hp}{D:Addr}{o:Fq.kZ}{a:Addr}(h:Kw t H o a)(hD:H D=none)(k:jF H H'):Rt t H' D o a:=by
 obtain⟨dx,nm,wy,ps,h1,h2,h3,h4⟩:=h
 exact⟨dx,nm,wy,ps,k _ _ h1,k _ _ h2,k _ _ h3,h4.mono λ x a h=>k _ _ h,jB h3 hD⟩
theorem QU.os{H:Hp}{D:Addr}{os:List Fq.kZ}{a:Addr}(h:QU t H D os a):NL t H os a:=by
 obtain⟨_,as,h1,h2⟩:=h
 exact⟨as,h1,h2.mono λ x a h=>h.op⟩
theorem QU.same{H H':Hp}{D:Addr}{os:List Fq.kZ}{a:Addr}(h:QU t H D os a)(k:jF H H'):QU t H' D os a:=by
 obtain⟨h0,as,h1,h2⟩:=h
 exact⟨h0,as,k _ _ h1,h2.mono λ x a h=>h.same k⟩
theorem QU.put{H:Hp}{D:Addr}{os:List Fq.kZ}{a:Addr}{xs ys:List V}(h:QU t H D os a)(hD:H D=some (.lst xs)):QU t (upd H D (.lst ys)) D os a:=by
 obtain⟨h0,as,h1,h2⟩:=h
 exact⟨h0,as,by rw[jA h0];exact h1,h2.mono λ x a h=>h.put hD⟩
def Eg(m:Int)(o:Fq.kZ):Fq.kZ:=⟨o.name,o.gain*m,o.ways,o.tot⟩
def Eh(t:Adr)(H0 H:Hp)(o:Fq.kZ)(a:Addr):Prop:=∃dx nm wy ps,H a=some (.ins t.kF dx (BU (.ref nm) (.int o.gain) (.ref wy) (.int o.tot)))/\H0 nm=some (.tup (jZ o.name))/\H0 wy=some (.lst (ps.map V.ref))/\Ea (NE H0) ps o.ways
def QV(K:aj)(t:Adr):Sp:=λ vs H Q _=>∃(H0:Hp) (cl:Addr) (m:Int) (oY:List Addr) (os:List Fq.kZ),vs=[.ref cl,.int m]/\jF H0 H/\(m=0\/m = -1)/\jO K H cl (oY.map V.ref)/\Ea (Kw t H0) oY os/\oY.length<=8 /\
 ∀(D:Addr) (as:List Addr) (H':Hp),jF H H'->H D=none->H' D=some (.lst (as.map V.ref))->Ea (Eh t H0 H') as (os.map (Eg m))->Q (.ref D) H'
theorem Eh.op{H0 H:Hp}{o:Fq.kZ}{a:Addr}(h:Eh t H0 H o a)(k:jF H0 H):Kw t H o a:=by
 obtain⟨dx,nm,wy,ps,h1,h2,h3,h4⟩:=h
 exact⟨dx,nm,wy,ps,h1,k _ _ h2,k _ _ h3,h4.mono λ x a h=>k _ _ h⟩
theorem Ei(T:Txt K mg t):Ok P w K mg base 3 t.yt t.wK ["choices","times"] (QV K t):=by
 refine T.Bs.fn.rm rY (λ vs H Q E h=>?_) λ cdv A outer s H vs Q E hr h=>?_
 ·obtain⟨H0,cl,m,oY,os,rfl,_⟩:=h;rfl
 ·obtain⟨H0,cl,m,oY,os,rfl,k0,hm,hl,W,hn,h⟩:=h
  refine⟨_,jy (jP (o5 (own:=[("choice",2)]) rfl rY.nd (kL (pv 0)) (ko rfl) (λ _ _ _ _ _=>j8 (i:=2) rY.nd rfl (Or.inl rfl)) (λ _ _ _ _ _=>kQ)
   (λ _ _ _ _ _=>CH T.j0 T.xg (xF T) hr rfl jU (jt (jX K (pv 2) rfl)<|jt (kP u4 (jX K (pv 2) rfl) (pv 1))<|jt (jX K (pv 2) rfl)<|jt (jX K (pv 2) rfl) jw)))),?_⟩
  refine⟨_,rfl,cl,rfl,⟨_,hl⟩,λ D hD=>mE (K:=K) (a:=cl) (xs:=oY.map V.ref) (λ i H9=>∃as:List Addr,as.length=i/\jF H H9/\H9 D=some (.lst (as.map V.ref))/\Ea (Eh t H0 H9) as ((os.map (Eg m)).take i))
   ⟨[],rfl,jz hD,ju,Ea.nil⟩ (λ i H9 _ ⟨_,_,e,_,_⟩=>jF.seq e hl) ?_ ?_⟩
  ·rintro i v H9 hi ⟨as,has,s9,h9,E9⟩;obtain⟨ca,ea,rfl⟩:=lC hi;obtain⟨o,eo,dx,nm,wy,ps,c1,c2,c3,c4⟩:=W.get ea;have Za:=s9 _ _ (k0 _ _ c1);refine⟨rfl,?_⟩;refine⟨_,rfl,ca,_,dx,_,_,rfl,Za,T.j0.cl,T.qi,DU _ _ _ _,_,rfl,ca,_,dx,_,_,rfl,Za,T.j0.cl,T.oj,xD _ _ _ _,_,rfl,_,_,rfl,rfl,?_,_,rfl,ca,_,dx,_,_,rfl,Za,T.j0.cl,T.mq,uW _ _ _ _,_,rfl,ca,_,dx,_,_,rfl,Za,T.j0.cl,T.lO,qe _ _ _ _,?_⟩
   ·exact .inr (by rcases hm with rfl | rfl<;>exact⟨by decide,by decide⟩)
   intro x dx2 hx hdx2 hne;refine⟨x,dx2,_,_,_,_,rfl,ju,rfl,?_⟩;rw[kh];have sm:=qf (u:=.own x) (v:=.ins t.kF dx2 (BU (.ref nm) (.int (o.gain*m)) (.ref wy) (.int o.tot))) hx hdx2;refine⟨as.map V.ref,sm _ _ h9,?_,as++[x],by simp[has],?_,?_,?_⟩
   ·rw[ah,has,sizeLine_eq];have:=(ao.mp ea).1;omega
   ·intro b ob eb;rw[jA (jB eb hD)];exact sm _ _ (s9 _ _ eb)
   ·rw[ju,bh];rfl
   ·have hDl:=sm _ _ h9;rw[take_snoc (l:=os.map (Eg m)) (x:=Eg m o) (by rw[ai,eo];rfl)];have hxD:x≠D:=λ z=>by rw[z,h9] at hx;cases hx
    refine Ea.snoc (E9.mono λ o' a' h'=>?_) ⟨dx2,nm,wy,ps,by rw[jA hxD];exact ju,c2,c3,c4⟩;obtain⟨Xg,WI,Y6,ps',q1,q2,q3,q4⟩:=h';exact⟨Xg,WI,Y6,ps',by rw[jA (oZ q1 h9 (by intro z;cases z))];exact sm _ _ q1,q2,q3,q4⟩
  ·rintro H9 ⟨as,has,s9,h9,E9⟩;rw[ah] at has E9;rw[aA (by rw[ah,<-W.len];exact au _)] at E9;exact h D as H9 s9 hD h9 E9
def QW(t:Adr)(H0 H:Hp)(os:List Fq.kZ)(a:Addr):Prop:=∃as:List Addr,H a=some (.lst (as.map V.ref))/\Ea (Eh t H0 H) as os
theorem QW.os{H0 H:Hp}{os:List Fq.kZ}{a:Addr}(h:QW t H0 H os a)(k:jF H0 H):NL t H os a:=by
 obtain⟨as,h1,h2⟩:=h
 exact⟨as,h1,h2.mono λ x a h=>h.op k⟩
theorem Eh.same{H0 H H':Hp}{o:Fq.kZ}{a:Addr}(h:Eh t H0 H o a)(k:jF H H'):Eh t H0 H' o a:=by
 obtain⟨dx,nm,wy,ps,h1,h2,h3,h4⟩:=h
 exact⟨dx,nm,wy,ps,k _ _ h1,h2,h3,h4⟩
theorem QW.same{H0 H H':Hp}{os:List Fq.kZ}{a:Addr}(h:QW t H0 H os a)(k:jF H H'):QW t H0 H' os a:=by
 obtain⟨as,h1,h2⟩:=h
 exact⟨as,k _ _ h1,h2.mono λ x a h=>h.same k⟩
theorem Eh.put{H0 H:Hp}{o:Fq.kZ}{a D:Addr}{xs ys:List V}(h:Eh t H0 H o a)(hD:H D=some (.lst xs)):Eh t H0 (upd H D (.lst ys)) o a:=by
 obtain⟨dx,nm,wy,ps,h1,h2,h3,h4⟩:=h
 exact⟨dx,nm,wy,ps,by rw[jA (oZ h1 hD (by intro z;cases z))];exact h1,h2,h3,h4⟩
theorem QW.put{H0 H:Hp}{os:List Fq.kZ}{a D:Addr}{xs ys:List V}(h:QW t H0 H os a)(hD:H D=some (.lst xs))(ne:a≠D):QW t H0 (upd H D (.lst ys)) os a:=by
 obtain⟨as,h1,h2⟩:=h
 exact⟨as,by rw[jA ne];exact h1,h2.mono λ x a h=>h.put hD⟩
def Gn(N:Ra61.Net)(g:Nat)(m:Int)(s:Nat):List Fq.kZ:=if Ra61.isGoal g s=true then [] else (Ra61.choicesOf N s).map (Fq.kX m)
def Tt(K:aj)(t:Adr):Sp:=λ vs H Q _=>∃(ml sl:Addr) (m:Int) (N:Ra61.Net) (g:Nat) (nX:List Addr),vs=[.ref ml,.ref sl,.int m]/\(m=0\/m = -1)/\jO K H ml ((m7 N.length g).map V.int)/\jO K H sl (nX.map V.ref)/\Ea (UM t H) nX N/\Fq.Good N /\
 ∀(D:Addr) (ls:List Addr) (H':Hp),jF H H'->H D=none->H' D=some (.lst (ls.map V.ref))->Ea (NL t H') ls (Fq.sF N g m)->Q (.ref D) H'
theorem xw{n g i:Nat}{v:V}(h:((m7 n g).map V.int)[i]? = some v):i<n/\v=.int (if Ra61.isGoal g i=true then 1 else 0):=by
 unfold m7 at h
 rw[ai,ai] at h
 by_cases hi:i<n
 ·rw[aL hi] at h
  cases h;exact⟨hi,rfl⟩
 ·rw[bA (by simpa using hi)] at h
  cases h
theorem BV(T:Txt K mg t):Ok P w K mg base 4 t.wL t.vH ["marks","states","times"] (Tt K t):=by
 refine T.zN.fn.rm qO (λ vs H Q E h=>?_) λ cdv A outer s H vs Q E hr h=>?_
 ·obtain⟨ml,sl,m,N,g,nX,rfl,_⟩:=h;rfl
 ·obtain⟨ml,sl,m,N,g,nX,rfl,hm,hml,hsl,W,G,h⟩:=h
  refine⟨_,jy (jP (o5 (own:=[("mark",3),("state",4)]) rfl qO.nd (Gz (by rfl) T.Lq (jt (pv 0)<|jt (pv 1) jw)) (ko rfl)
   (λ _ _ _ _ _=>tQ K (i:=3) (j:=4) rfl qO.nd rfl rfl (Or.inl rfl) (Or.inl rfl)) (λ _ _ _ _ _=>kQ)
   (λ _ _ _ _ _=>zh (Lf K (pv 3)) (mV jw) (j6 T.Bs (Ei T) hr rfl jU (jt (jX K (pv 4) rfl)<|jt (pv 2) jw))))),?_⟩
  have nl:(m7 N.length g).length=N.length:=by unfold m7;simp
  have hlen:((m7 N.length g).map V.int).length=(nX.map V.ref).length:=by rw[ah,ah,nl,W.len]
  refine⟨_,rfl,_,rfl,ml,sl,_,_,rfl,hml,hsl,λ D hD=>JR (K:=K) (a:=ml) (b:=sl) (xs:=(m7 N.length g).map V.int) (ys:=nX.map V.ref) hlen
   (λ i H9=>∃ls:List Addr,ls.length=i/\jF H H9/\H9 D=some (.lst (ls.map V.ref))/\Ea (λ os a=>QW t H H9 os a/\a≠D) ls ((Fq.sF N g m).take i))
   ⟨[],rfl,jz hD,ju,Ea.nil⟩ (λ i H9 _ ⟨_,_,e,_,_⟩=>⟨jF.seq e hml,jF.seq e hsl⟩) ?_ ?_⟩
  ·rintro i v u H9 T9 hi hj Wj ⟨ls,hls,s9,h9,E9⟩;obtain⟨hin,rfl⟩:=xw hi;obtain⟨sa,ea,rfl⟩:=lC hj;obtain⟨st,es,dx,nm,cl,oY,c1,c2,c3,c4⟩:=W.get ea;have hu:∀{b o},H9 b=some o->(upd H9 T9 (.tup [.int (if Ra61.isGoal g i=true then 1 else 0),.ref sa])) b=some o:=λ {b o} e=>by rw[jA (jB e Wj)];exact e
   have tl:(Fq.sF N g m)[i]? = some (Gn N g m i):=by
    unfold Fq.sF;rw[ai,aL hin];rfl
   have lsl:ls.length<sizeLine:=by rw[sizeLine_eq];have:=G.len.2;omega
   refine AI.at ju ⟨rfl,?_⟩;have LY:jF H (upd H9 T9 (.tup [.int (if Ra61.isGoal g i=true then 1 else 0),.ref sa])):=λ b o e=>hu (s9 b o e)
   have fin:∀(z:Addr) (H4:Hp),jF (upd H9 T9 (.tup [.int (if Ra61.isGoal g i=true then 1 else 0),.ref sa])) H4->QW t H H4 (Gn N g m i) z->z≠D->∃acc,H4 D=some (.lst acc)/\acc.length<sizeLine/\∃ls:List Addr,ls.length=i+1/\jF H (upd H4 D (.lst (acc++[V.ref z]))) /\
     (upd H4 D (.lst (acc++[V.ref z]))) D=some (.lst (ls.map V.ref))/\Ea (λ os a=>QW t H (upd H4 D (.lst (acc++[V.ref z]))) os a/\a≠D) ls ((Fq.sF N g m).take (i+1)):=λ z H4 k4 hz hne=>by
    have Wk:=k4 _ _ (hu h9);refine⟨ls.map V.ref,Wk,by rw[ah];exact lsl,ls++[z],by simp[hls],λ b o e=>?_,by rw[ju,bh];rfl,?_⟩
    ·rw[jA (jB e hD)];exact k4 _ _ (hu (s9 _ _ e))
    ·rw[take_snoc tl];exact Ea.snoc (E9.mono λ x a h=>⟨(h.1.same λ b o e=>k4 _ _ (hu e)).put Wk h.2,h.2⟩) ⟨hz.put Wk hne,hne⟩
   by_cases hg:Ra61.isGoal g i=true
   ·refine⟨_,rfl,true,?_,?_⟩
    ·rw[if_pos hg];rfl
    ·refine t9 rfl ?_;refine⟨by simp,λ z hz=>fin z _ (jz hz) ?_ (λ q=>by rw[q,hu h9] at hz;cases hz)⟩;have e0:Gn N g m i=[]:=by unfold Gn;rw[if_pos hg]
     rw[e0];exact⟨[],ju,Ea.nil⟩
   ·refine⟨_,rfl,false,?_,?_⟩
    ·rw[if_neg hg];rfl
    ·have c3':jF H (upd H9 T9 (.tup [.int (if Ra61.isGoal g i=true then 1 else 0),.ref sa])):=LY;have Zb:=aq es;refine sP rfl ?_;refine⟨_,rfl,sa,_,dx,_,_,rfl,LY _ _ c1,T.tK.cl,T.oK,xE _ _,_,rfl,H,cl,m,oY,st.choices.map Tr,rfl,LY,hm,.inl (.inl (LY _ _ c3)),c4.map λ x a h=>h.op,by rw[c4.len];exact G.few st Zb,?_⟩;intro z as H4 k4 hz hz4 E4;refine fin z H4 k4 ⟨as,hz4,?_⟩ (λ q=>by rw[q,hu h9] at hz;cases hz);have e0:Gn N g m i=(Ra61.choicesOf N i).map (Fq.kX m):=by unfold Gn;rw[if_neg hg]
     rw[e0];have:(st.choices.map Tr).map (Eg m)=(Ra61.choicesOf N i).map (Fq.kX m):=by
      rw[dO];unfold Ra61.choicesOf;rw[es];rfl
     rw[<-this];exact E4
  ·rintro H9 ⟨ls,hls,s9,h9,E9⟩;rw[ah,nl] at hls E9;rw[aA (by unfold Fq.sF;simp)] at E9;exact h D ls H9 s9 hD h9 (E9.mono λ x a h=>h.1.os s9)
def NN(K:aj)(t:Adr)(H:Hp)(va:Addr)(jx:List Int)(bot:Int):Prop:=∃dv tl,H va=some (.ins t.nL dv (Rr (.ref tl) (.int bot)))/\jO K H tl (jx.map V.int)
theorem NN.same{H H':Hp}{va:Addr}{jx:List Int}{bot:Int}(h:NN K t H va jx bot)(k:jF H H'):NN K t H' va jx bot:=by
 obtain⟨dv,tl,h1,h2⟩:=h
 exact⟨dv,tl,k _ _ h1,k.seq h2⟩
structure Small(o:Fq.kZ)(n:Nat):Prop where
 gain:-1000<=o.gain/\o.gain<=1000
 tot:0<o.tot/\o.tot<=16000000
 ways:o.ways.length<=16/\∀w∈o.ways,w.1<n/\w.2<=1000000
theorem Small.gt{o:Fq.kZ}{n:Nat}(S:Small o n):-(2^64)<o.gain*o.tot/\o.gain*o.tot<2^64:=by
 obtain⟨a,b⟩:=S.gain
 obtain⟨c,d⟩:=S.tot
 have h1:o.gain*o.tot<=1000*o.tot:=bW b (by omega)
 have h2:(-1000)*o.tot<=o.gain*o.tot:=bW a (by omega)
 constructor<;>omega
theorem QX{α:Type}{xs:List α}{i:Nat}(h:i<xs.length):Ht xs (i:Int)=xs[i]?:=by
 unfold Ht KW
 rw[if_pos (by omega),bZ]
 by_cases q:i<xs.length
 ·simp[q]
 ·exact absurd h q
theorem Tu{a b:Int}:Ht [V.int a,V.int b] 0=some (.int a):=rfl
theorem Yz{a b:Int}:Ht [V.int a,V.int b] 1=some (.int b):=rfl
def NO(K:aj)(t:Adr):Sp:=λ vs H Q _=>∃(sf:V) (c va:Addr) (o:Fq.kZ) (jx:List Int) (bot:Int),vs=[sf,.ref c,.ref va]/\Kw t H o c/\NN K t H va jx bot/\Small o jx.length /\
 ∀H',jF H H'->Q (.int (o.top jx bot)) H'
theorem oB{jx:List Int}{i:Nat}(h:i<jx.length):Ht (jx.map V.int) (i:Int)=some (.int (jx.getD i 0)):=by
 rw[QX (by rw[ah];exact h),ai,af h,aa,af h]
 rfl
theorem Ba(T:Txt K mg t):Ok P w K mg base 1 t.wX t.vM ["self","choice","values"] (NO K t):=by
 refine T.rC.fn.rm oH (λ vs H Q E h=>?_) λ cdv A outer s H vs Q E hr h=>?_
 ·obtain⟨sf,c,va,o,jx,bot,rfl,_⟩:=h;rfl
 ·obtain⟨sf,c,va,o,jx,bot,rfl,⟨dx,nm,wy,ps,c1,c2,c3,c4⟩,⟨dv,tl,v1,v2⟩,S,h⟩:=h
  refine⟨_,jv (jV (i:=3) oH.nd rfl (Or.inl rfl) (kj (OG rfl) (by rfl) T.Ux PP (jt
    (o5 (own:=[("way",4)]) rfl oH.nd (kL (jX K (pv 1) rfl)) (ko rfl) (λ _ _ _ _ _=>j8 (i:=4) oH.nd rfl (Or.inl rfl)) (λ _ _ _ _ _=>kQ)
     (λ _ _ _ _ _=>kP u4 (mi (QB K) (pv 4) jL (λ _ _=>rfl)) (mi (Gj K) (jX K (pv 2) rfl) (mi (QB K) (pv 4) jL (λ _ _=>rfl)) (λ _ _=>rfl)))) jw)))<|
   jy (jP (kP Cn (kP u4 (kP u4 (jX K (pv 1) rfl) (jX K (pv 1) rfl)) (jX K (pv 2) rfl)) (pv 3))),?_⟩
  refine⟨_,rfl,c,_,dx,_,_,rfl,c1,T.j0.cl,T.mq,uW _ _ _ _,wy,rfl,⟨_,jO.of c3⟩,λ D hD=>mE (K:=K) (a:=wy) (xs:=ps.map V.ref) (λ i H9=>H9=upd H D (.lst (((o.ways.map λ w=>(w.2:Int)*jx.getD w.1 0).map V.int).take i))) rfl (λ i H9 _ e9=>by rw[e9];exact jO.of (by rw[jA (jB c3 hD)];exact c3)) ?_ ?_⟩
  ·rintro i v H9 hi rfl;obtain⟨pa,ea,rfl⟩:=lC hi;obtain⟨wv,ew,hw⟩:=c4.get ea;have hk:∀{b u},H b=some u->(upd H D (.lst (((o.ways.map λ w=>(w.2:Int)*jx.getD w.1 0).map V.int).take i))) b=some u:=λ {b u} e=>by rw[jA (jB e hD)];exact e
   have wm:=S.ways.2 wv (aq ew);refine⟨rfl,?_⟩;refine⟨_,rfl,pa,_,_,_,rfl,rfl,sQ.of (hk hw),Yz,_,rfl,va,_,dv,_,_,rfl,hk v1,T.mX.cl,T.om,Ar _ _,_,rfl,pa,_,_,_,rfl,rfl,sQ.of (hk hw),Tu,tl,_,_,_,rfl,rfl,jF.seq (λ b u e=>hk e) v2,oB wm.1,_,_,rfl,rfl,?_,_,ju,?_,?_⟩
   ·left;constructor<;>omega
   ·rw[aR,sizeLine_eq];have:=S.ways.1;simp;omega
   ·rw[kh,take_snoc (l:=(o.ways.map λ w=>(w.2:Int)*jx.getD w.1 0).map V.int) (x:=V.int ((wv.2:Int)*jx.getD wv.1 0)) (by rw[ai,ai,ew];rfl)]
  ·rintro H9 rfl;rw[ah,show ((o.ways.map λ w=>(w.2:Int)*jx.getD w.1 0).map V.int).take ps.length=(o.ways.map λ w=>(w.2:Int)*jx.getD w.1 0).map V.int from aA (by rw[ah,ah,c4.len];exact au _)];have sm:=jz (o:=.lst ((o.ways.map λ w=>(w.2:Int)*jx.getD w.1 0).map V.int)) hD;refine⟨D,_,rfl,jO.of ju,?_⟩;refine⟨_,rfl,c,_,dx,_,_,rfl,sm _ _ c1,T.j0.cl,T.oj,xD _ _ _ _,_,rfl,c,_,dx,_,_,rfl,sm _ _ c1,T.j0.cl,T.lO,qe _ _ _ _,_,_,rfl,rfl,?_,_,rfl,va,_,dv,_,_,rfl,sm _ _ v1,T.mX.cl,T.oM,zf _ _,_,_,rfl,rfl,?_,_,rfl,_,_,rfl,rfl,?_⟩
   ·have:=S.gain;left;constructor<;>omega
   ·exact .inl S.gt
   ·exact h _ sm
theorem xJ{a b:V}{m:Str}(h1:(m==("options":Str))=false)(h2:(m==("ends":Str))=false):(NK a b).lookup m=none:=by
 unfold NK
 rw[jI,if_neg (λ z=>by rw[z] at h2;exact absurd h2 (by decide)),jI,if_neg (λ z=>by rw[z] at h1;exact absurd h1 (by decide))]
 rfl
def YA(t:Adr)(H:Hp)(q ol:Addr):Prop:=∃dq en,H q=some (.ins t.mF dq (NK (.ref ol) en))
theorem YA.same{H H':Hp}{q ol:Addr}(h:YA t H q ol)(k:jF H H'):YA t H' q ol:=by
 obtain⟨dq,en,h⟩:=h
 exact⟨dq,en,k _ _ h⟩
def NP(K:aj)(t:Adr):Sp:=λ vs H Q _=>∃(q ol a b va:Addr) (o p:Fq.kZ) (jx:List Int) (bot:Int),vs=[.ref q,.ref a,.ref b,.ref va]/\YA t H q ol/\Kw t H o a/\Kw t H p b/\NN K t H va jx bot/\Small o jx.length/\Small p jx.length /\
 ∀H',jF H H'->Q (.bl (o.better p jx bot)) H'
theorem Hq(T:Txt K mg t):Ok P w K mg base 2 t.tE t.sA ["self","choice","other","values"] (NP K t):=by
 refine T.vO.fn.rm yX (λ vs H Q E h=>?_) λ cdv A outer s H vs Q E hr h=>?_
 ·obtain⟨q,ol,a,b,va,o,p,jx,bot,rfl,_⟩:=h;rfl
 ·obtain⟨q,ol,a,b,va,o,p,jx,bot,rfl,hq,ho,hp,hv,So,Sp_,h⟩:=h
  refine⟨_,jy (jP (nS Uk (kP u4 (rP T.mT T.rC (Ba T) hr jU (pv 0) (jt (pv 1)<|jt (pv 3) jw)) (jX K (pv 2) rfl)) (kP u4 (rP T.mT T.rC (Ba T) hr jU (pv 0) (jt (pv 2)<|jt (pv 3) jw)) (jX K (pv 1) rfl)) (kH _))),?_⟩;obtain⟨dq,en,q1⟩:=id hq;refine⟨_,rfl,q,dq,_,rfl,q1,xJ (by decide) (by decide),_,rfl,_,rfl,.ref q,a,va,o,jx,bot,rfl,ho,hv,So,λ H1 k1=>?_⟩;obtain⟨dx,nm,wy,ps,b1,b2,b3,b4⟩:=hp.same k1;refine⟨_,rfl,b,_,dx,_,_,rfl,b1,T.j0.cl,T.lO,qe _ _ _ _,_,_,rfl,rfl,?_,?_⟩
  ·have:=Sp_.tot;right;constructor<;>omega
  refine⟨_,rfl,q,dq,_,rfl,k1 _ _ q1,xJ (by decide) (by decide),_,rfl,_,rfl,.ref q,b,va,p,jx,bot,rfl,hp.same k1,hv.same k1,Sp_,λ H2 k2=>?_⟩;obtain⟨dx,nm,wy,ps,a1,a2,a3,a4⟩:=(ho.same k1).same k2;refine⟨_,rfl,a,_,dx,_,_,rfl,a1,T.j0.cl,T.lO,qe _ _ _ _,_,_,rfl,rfl,?_,?_⟩
  ·have:=So.tot;right;constructor<;>omega
  exact⟨_,_,rfl,rfl,h _ (k1.trans k2)⟩
def pk(os:List Fq.kZ)(jx:List Int)(bot:Int)(b:Nat):Nat->Nat
 |0=>b
 |j+1=>if ((os.getD j Fq.jR).better (os.getD (pk os jx bot b j) Fq.jR) jx bot)=true then j else pk os jx bot b j
theorem LZ{os:List Fq.kZ}{jx:List Int}{bot:Int}{b:Nat}:∀(k j:Nat),j+k=os.length->Fq.lP os jx bot j (os.drop j) (pk os jx bot b j)=pk os jx bot b os.length
 |0,j,h=>by
  have:j=os.length:=by omega
  subst this;rw[List.drop_length];rfl
 |k+1,j,h=>by
  have hj:j<os.length:=by omega
  rw[bC hj];have e:os.getD j Fq.jR=os[j]:=by rw[aa,af hj];rfl
  show Fq.lP os jx bot (j+1) (os.drop (j+1)) (if os[j].better (os.getD (pk os jx bot b j) Fq.jR) jx bot=true then j else pk os jx bot b j)=_;rw[<-e];exact LZ k (j+1) (by omega)
theorem Tv{os:List Fq.kZ}{jx:List Int}{bot:Int}{b:Nat}:Fq.pick os jx bot b=pk os jx bot b os.length:=by
 have:=LZ (os:=os) (jx:=jx) (bot:=bot) (b:=b) os.length 0 (by omega)
 rw[List.drop_zero] at this
 exact this
theorem UP{os:List Fq.kZ}{jx:List Int}{bot:Int}{b:Nat}(hb:b<os.length):∀j,j<=os.length->pk os jx bot b j<os.length
 |0,_=>hb
 |j+1,h=>by
  unfold pk
  split
  ·omega
  ·exact UP hb j (by omega)
def IR(K:aj)(t:Adr):Sp:=λ vs H Q _=>∃(q ol pl va:Addr) (ls:List Addr) (jr:List (List Fq.kZ)) (jC jx:List Int) (bot:Int),vs=[.ref q,.ref pl,.ref va]/\YA t H q ol/\H ol=some (.lst (ls.map V.ref))/\Ea (NL t H) ls jr /\
 jO K H pl (jC.map V.int)/\NN K t H va jx bot/\(∀os∈jr,os.length<=8/\∀o∈os,Small o jx.length)/\jr.length<=16/\La.Fits jr jr.length jC /\
 ∀D H',jF H H'->H D=none->H' D=some (.lst ((La.nE jr jr.length jC jx bot).map V.int))->Q (.ref D) H'
theorem IS(T:Txt K mg t):Ok P w K mg base 3 t.uE t.tF ["self","plan","values"] (IR K t):=by
 refine T.xm.fn.rm nD (λ vs H Q E h=>?_) λ cdv A outer s H vs Q E hr h=>?_
 ·obtain⟨q,ol,pl,va,ls,jr,jC,jx,bot,rfl,_⟩:=h;rfl
 ·obtain⟨q,ol,pl,va,ls,jr,jC,jx,bot,rfl,hq,Wl,W,hpl,hv,S,hn,F,h⟩:=h
  refine⟨_,jv (jV (i:=3) nD.nd rfl (Or.inl rfl) (pU pC (by rfl) T.AS zY (jt (pv 1) jw)))<|
   jv (oN nj rfl (xP (by rfl) T.o7 (jt (jX K (pv 0) rfl) jw)) (tQ K (i:=4) (j:=5) rfl nD.nd rfl rfl (Or.inl rfl) (Or.inl rfl))
    (jy (oN nj rfl (xP (by rfl) T.o7 (jt (pv 5) jw)) (tQ K (i:=6) (j:=7) rfl nD.nd rfl rfl (Or.inl rfl) (Or.inl rfl))
     (jy (qR (pS (rP T.mT T.vO (Hq T) hr jU (pv 0) (jt (pv 7)<|jt (mi (Gj K) (pv 5) (mi (Gj K) (pv 3) (pv 4) (λ _ _=>rfl)) (λ _ _=>rfl))<|jt (pv 2) jw)))
      (jy (yP (pv 6) (yO (pv 3) (pv 4) set_list))) ny)))))<|
   jy (jP (pv 3)),?_⟩
  refine⟨_,rfl,pl,_,rfl,.inl hpl,λ D hD=>?_⟩;have s0:=jz (o:=.lst (jC.map V.int)) hD;obtain⟨dq,en,q1⟩:=id hq;refine⟨_,rfl,q,_,dq,_,_,rfl,s0 _ _ q1,T.mT.cl,T.nq,tO _ _,ol,_,rfl,jO.of (s0 _ _ Wl),?_⟩;have bl:(La.nE jr jr.length jC jx bot).length=jr.length:=by simp[La.nE]
  have pll:jC.length=jr.length:=F.len;refine we (K:=K) (a:=ol) (xs:=ls.map V.ref) (λ i σ H9=>∃v4 v5 v6 v7,σ=[some (.ref q),some (.ref pl),some (.ref va),some (.ref D),v4,v5,v6,v7]/\jF H H9/\H9 D=some (.lst (((La.nE jr jr.length jC jx bot).take i++jC.drop i).map V.int)))
   ⟨none,none,none,none,rfl,s0,by rw[gP,List.drop_zero,dS];exact ju⟩ (λ i σ H9 _ ⟨_,_,_,_,_,e,_⟩=>jO.of (e _ _ Wl)) ?_ ?_
  ·rintro i x σ H9 T9 hi Wj ⟨v4,v5,v6,v7,rfl,s9,h9⟩;obtain⟨l,el,rfl⟩:=lC hi;obtain⟨os,eo,as,l1,l2⟩:=W.get el;have hin:i<jr.length:=(ao.mp eo).1;have go:jr.getD i []=os:=by rw[aa,eo];rfl
   obtain⟨o8,So⟩:=S os (aq eo);have s9':jF H9 (upd H9 T9 (.tup [.int (i:Nat),.ref l])):=jz Wj;have gp:jC.drop i=jC.getD i 0::jC.drop (i+1):=by
    rw[bC (by omega),aa,af (by omega)];rfl
   let cur:Nat->Int:=λ j=>if os.length=0 then jC.getD i 0 else ((pk os jx bot (jC.getD i 0).toNat j:Nat):Int)
   let row:Int->List V:=λ x=>((La.nE jr jr.length jC jx bot).take i++x::jC.drop (i+1)).map V.int
   have til:((La.nE jr jr.length jC jx bot).take i).length=i:=by rw[aR,bl];omega
   have c0:cur 0=jC.getD i 0:=by
    show (if os.length=0 then jC.getD i 0 else ((jC.getD i 0).toNat:Int))=_
    split
    ·rfl
    ·rename_i ne
     have:=(F.at_ i hin (by rw[go];exact ne)).1;omega
   have rowAt:∀x,Ht (row x) (i:Int)=some (.int x):=λ x=>qg (by
    show (((La.nE jr jr.length jC jx bot).take i++x::jC.drop (i+1)).map V.int)[i]? = _;rw[ai,cZ (by omega),til,jn];rfl)
   have Wm:∀x,(row x).length=jr.length:=λ x=>by
    show (((La.nE jr jr.length jC jx bot).take i++x::jC.drop (i+1)).map V.int).length=_;rw[ah,aG,til,aK,fW];omega
   have Wn:∀x y,(row x).set i (.int y)=row y:=λ x y=>by
    show (((La.nE jr jr.length jC jx bot).take i++x::jC.drop (i+1)).map V.int).set i (V.int y)=_;rw[<-List.map_set,List.set_append_right _ _ (by omega),til,jn];rfl
   refine AI.at ju ?_;refine⟨_,rfl,l,_,rfl,jO.of (s9' _ _ (s9 _ _ l1)),?_⟩;refine we (K:=K) (a:=l) (xs:=as.map V.ref) (λ j σ H8=>∃v6 v7,σ=[some (.ref q),some (.ref pl),some (.ref va),some (.ref D),some (.int (i:Nat)),some (.ref l),v6,v7]/\jF H H8/\H8 D=some (.lst (row (cur j))))
    ⟨v6,v7,rfl,s9.trans s9',by rw[c0];rw[gp] at h9;exact s9' _ _ h9⟩ (λ j σ H8 _ ⟨_,_,_,e,_⟩=>jO.of (e _ _ l1)) ?_ ?_
   ·rintro j x σ H8 T8 hj YB ⟨w6,w7,rfl,s8,h8⟩;obtain⟨a,ea,rfl⟩:=lC hj;obtain⟨o,N4,ho⟩:=l2.get ea;have hjl:j<os.length:=(ao.mp N4).1;have ne:os.length≠0:=by omega
    have WR:os.getD j Fq.jR=o:=by rw[aa,N4];rfl
    have fit:=F.at_ i hin (by rw[go];exact ne);rw[go] at fit;have pl_:=UP (jx:=jx) (bot:=bot) fit.2 j (by omega);have cj:cur j=((pk os jx bot (jC.getD i 0).toNat j:Nat):Int):=if_neg ne;obtain⟨b,eb,hb⟩:=l2.at_ _ _ (af pl_);have gob:os.getD (pk os jx bot (jC.getD i 0).toNat j) Fq.jR=os[pk os jx bot (jC.getD i 0).toNat j]:=by rw[aa,af pl_];rfl
    have s8':jF H8 (upd H8 T8 (.tup [.int (j:Nat),.ref a])):=jz YB;have sH:=s8.trans s8';have h8':=s8' _ _ h8;refine AI.at ju ?_;refine⟨_,rfl,q,dq,_,rfl,sH _ _ q1,xJ (by decide) (by decide),_,rfl,_,rfl,_,rfl,_,rfl,D,_,_,_,rfl,rfl,jO.of h8',rowAt _,l,_,_,.ref b,rfl,rfl,jO.of (sH _ _ l1),?_,_,rfl,q,ol,a,b,va,o,os[pk os jx bot (jC.getD i 0).toNat j],jx,bot,rfl,hq.same sH,ho.same sH,hb.same sH,hv.same sH,So o (aq N4),So _ (aV pl_),λ H7 k7=>⟨_,rfl,?_⟩⟩
    ·rw[cj];exact qg (by rw[ai,eb];rfl)
    ·have h7:=k7 _ _ h8'
     by_cases c:o.better os[pk os jx bot (jC.getD i 0).toNat j] jx bot=true
     ·refine t9 c ?_;have e1:cur (j+1)=(j:Int):=by
       show (if os.length=0 then jC.getD i 0 else ((pk os jx bot (jC.getD i 0).toNat (j+1):Nat):Int))=_;rw[if_neg ne];show (((if (os.getD j Fq.jR).better (os.getD (pk os jx bot (jC.getD i 0).toNat j) Fq.jR) jx bot=true then j else _):Nat):Int)=_;rw[WR,gob,if_pos c]
      refine⟨_,rfl,_,rfl,_,rfl,D,_,(i:Int),i,rfl,rfl,h7,?_,?_⟩
      ·unfold KW;rw[Wm,if_pos (by omega),if_pos (by omega),bZ]
      ·refine⟨_,_,rfl,λ b' u' e'=>?_,?_⟩
       ·rw[jA (jB e' hD)];exact k7 _ _ (sH _ _ e')
       ·rw[ju,Wn,e1]
     ·have c':o.better os[pk os jx bot (jC.getD i 0).toNat j] jx bot=false:=by simpa using c
      refine sP c' ?_;have e1:cur (j+1)=cur j:=by
       rw[cj];show (if os.length=0 then jC.getD i 0 else ((pk os jx bot (jC.getD i 0).toNat (j+1):Nat):Int))=_;rw[if_neg ne];show (((if (os.getD j Fq.jR).better (os.getD (pk os jx bot (jC.getD i 0).toNat j) Fq.jR) jx bot=true then j else _):Nat):Int)=_;rw[WR,gob,if_neg c]
      exact⟨_,_,rfl,sH.trans k7,by rw[e1];exact h7⟩
   ·rintro σ H8 ⟨w6,w7,rfl,s8,h8⟩;refine⟨_,_,_,_,rfl,s8,?_⟩;rw[ah,l2.len] at h8;rw[h8];have bi:(La.nE jr jr.length jC jx bot)[i]? = some (cur os.length):=by
     unfold La.nE;rw[ai,aL hin];show some (if (jr.getD i []).length=0 then jC.getD i 0 else ((Fq.pick (jr.getD i []) jx bot (jC.getD i 0).toNat:Nat):Int))=some (if os.length=0 then jC.getD i 0 else ((pk os jx bot (jC.getD i 0).toNat os.length:Nat):Int));rw[go,Tv]
    rw[take_snoc bi,cR];rfl
  ·rintro σ H9 ⟨v4,v5,v6,v7,rfl,s9,h9⟩;rw[ah,W.len,aA (by rw[bl];exact au _),List.drop_of_length_le (by rw[pll];exact au _),cF] at h9;exact⟨_,rfl,h D H9 s9 hD h9⟩
structure IT(jx:List Int)(bot:Int)(B:Nat):Prop where
 jx:∀x∈jx,x.natAbs<2^B
 bot:bot.natAbs<2^B
 B:B<=1000000
theorem IU:∀d,d<10->(Nat.digitChar d).toNat=48+d
 |0,_ | 1,_ | 2,_ | 3,_ | 4,_ | 5,_ | 6,_ | 7,_ | 8,_ | 9,_=>rfl
 |n+10,h=>by omega
theorem xX{n:Nat}(h:n<10):Ra61.decimal n=[48+n]:=by
 unfold Ra61.decimal
 rw[Nat.toDigits_of_lt_base h]
 simp[IU n h]
theorem Cc{n:Nat}(h:10<=n):Ra61.decimal n=Ra61.decimal (n/10)++[48+n%10]:=by
 unfold Ra61.decimal
 rw[Nat.toDigits_of_base_le (by decide) h,bh]
 simp[IU (n%10) (by omega)]
def Ky:Nat:=2^2000000
def NQ(K:aj):Sp:=λ vs H Q _=>∃n:Nat,vs=[.int (n:Int)]/\n<Ky/\∀D H',jF H H'->H D=none->H' D=some (.lst (jZ (Ra61.decimal n)))->Q (.ref D) H'
theorem As(T:Txt K mg t):Ok P w K mg base 1 t.Bo t.zG ["number"] (NQ K):=by
 refine T.digits_of.fn.rm vo (λ vs H Q E h=>?_) λ cdv A outer s H vs Q E hr h=>?_
 ·obtain⟨n,rfl,_⟩:=h;rfl
 ·obtain⟨n,rfl,hn,h⟩:=h
  refine⟨_,jv (jV (i:=1) vo.nd rfl (Or.inl rfl) (mV (jt (kP Cn (kO T.J0 rfl) (kP Jz (pv 0) jL)) jw)))<|
   jv (nY nj (l6 Ul (pv 0) jL (kH _))
    (jv (Vc (i:=0) vo.nd rfl (Or.inl rfl) jL Ol)<|
      jy (j5 (Be bN cg cu rG (pv 1) (jt (kP Cn (kO T.J0 rfl) (kP Jz (pv 0) jL)) jw)))))<|
   jy (jP (JS rfl (by rfl) T.AS (by rfl) T.J1 (pv 1))),?_⟩
  refine⟨_,rfl,_,_,rfl,rfl,(show (0:Int)<10 by decide),_,_,rfl,rfl,by rw[sizeLine_eq];simp,λ D hD=>?_⟩;have k0:=jz (o:=.lst [V.int (48+(n:Int)%10)]) hD;refine⟨λ m σ H'=>∃(x:Nat) (ds:List Nat),σ=[some (.int (x:Int)),some (.ref D)]/\jF H H'/\H' D=some (.lst (jZ ds))/\Ra61.decimal n=(if 10<=x then Ra61.decimal (x/10) else [])++ds.reverse/\x*10^(ds.length-1)<=n/\1<=ds.length/\x=m,
   ⟨_,n,[48+n%10],rfl,k0,?_,?_,?_,?_,rfl⟩,?_⟩
  ·rw[ju];have e:(48:Int)+(n:Int)%10=((48+n%10:Nat):Int):=by push_cast;rfl
   show some (HO.lst [V.int (48+(n:Int)%10)])=_;rw[e];rfl
  ·by_cases WS:10<=n
   ·rw[if_pos WS,Cc WS];rfl
   ·rw[if_neg WS,xX (by omega),dG (by omega)];rfl
  ·simp
  ·simp
  ·rintro m σ H' ⟨x,ds,rfl,k1,h1,inv,big,one,rfl⟩;refine⟨_,rfl,_,_,rfl,rfl,_,rfl,?_⟩
   by_cases WS:10<=x
   ·refine t9 (by rw[decide_eq_true_eq];omega) ⟨λ σ H2=>∃(ds:List Nat),σ=[some (.int ((x/10:Nat):Int)),some (.ref D)]/\jF H H2/\H2 D=some (.lst (jZ ds))/\Ra61.decimal n=(if 10<=x/10 then Ra61.decimal (x/10/10) else [])++ds.reverse/\(x/10)*10^(ds.length-1)<=n/\1<=ds.length,?_,?_⟩
    ·rintro σ2 H2 ⟨ds2,rfl,a1,a2,a3,a4,a5⟩;exact⟨x/10,by omega,x/10,ds2,rfl,a1,a2,a3,a4,a5,rfl⟩
    ·refine⟨_,rfl,_,_,rfl,rfl,⟨by decide,by decide⟩,?_⟩;have pw:2^(ds.length-1)<=10^(ds.length-1):=gy (by decide) _;have pw2:10^(ds.length-1)<=x*10^(ds.length-1):=Nat.le_mul_of_pos_left _ (by omega);have ln:ds.length-1<2000000:=by
      have:2^(ds.length-1)<2^2000000:=bJ (bf pw (bf pw2 big)) (show n<2^2000000 from hn);exact (fk (by decide)).mp this
     refine⟨_,rfl,.inl ⟨rfl,_,jO.of h1⟩,_,rfl,_,_,rfl,rfl,(show (0:Int)<10 by decide),_,_,rfl,rfl,D,_,_,rfl,rfl,h1,by rw[ku,sizeLine_eq];omega,?_⟩;refine⟨ds++[48+x/10%10],rfl,λ b u e=>?_,?_,?_,?_,by simp⟩
     ·rw[jA (jB e hD)];exact k1 _ _ e
     ·rw[ju];have e:(48:Int)+(x:Int)/10%10=((48+x/10%10:Nat):Int):=by push_cast;rfl
      show some (HO.lst (jZ ds++[V.int (48+(x:Int)/10%10)]))=_;rw[e];unfold jZ;rw[bh];rfl
     ·rw[inv,if_pos WS,List.reverse_append]
      by_cases q:10<=x/10
      ·rw[if_pos q,Cc q];simp
      ·rw[if_neg q,xX (by omega),dG (show x/10<10 by omega)];simp
     ·rw[aG];show x/10*10^(ds.length+1-1)<=n;have e1:ds.length+1-1=ds.length-1+1:=by omega
      rw[e1,cC,<-iZ,Nat.mul_right_comm];refine bf (eT _ ?_) big;omega
   ·refine sP (by rw[decide_eq_false_iff_not];omega) ?_;refine⟨_,rfl,D,_,rfl,jO.of h1,λ D2 N1=>?_⟩;have k2:=jz (o:=.lst (jZ ds).reverse) N1;refine h D2 _ (k1.trans k2) (k1.free N1) ?_;rw[ju,inv,if_neg WS,dS];unfold jZ;rw[List.map_reverse]
def Tz(K:aj):Sp:=λ vs H Q _=>∃(z:Int) (d:Nat),vs=[.int z,.int (d:Int)]/\0<d/\z.natAbs<Ky/\d<Ky/\∀D H',jF H H'->H D=none->H' D=some (.lst (jZ (Ra61.frac z d)))->Q (.ref D) H'
theorem L7:∀n:Nat,n≠0->10^((Ra61.decimal n).length-1)<=n/\1<=(Ra61.decimal n).length:=by
 intro n
 induction n using iI with
 |_ n ih=>
  intro h0
  by_cases h:10<=n
  ·obtain⟨a,b⟩:=ih (n/10) (by omega) (by omega);rw[Cc h,aG];refine⟨?_,by simp⟩;show 10^((Ra61.decimal (n/10)).length+1-1)<=n;have e:(Ra61.decimal (n/10)).length+1-1=(Ra61.decimal (n/10)).length-1+1:=by omega
   rw[e,cC];have:=eT 10 a;omega
  ·rw[xX (by omega)];exact⟨by show 1<=n;omega,by simp⟩
theorem L8{n:Nat}(h:n<Ky):(Ra61.decimal n).length<=2000001:=by
 by_cases h0:n=0
 ·subst h0;decide
 ·obtain⟨a,b⟩:=L7 n h0
  have p1:2^((Ra61.decimal n).length-1)<=10^((Ra61.decimal n).length-1):=gy (by decide) _;have p2:2^((Ra61.decimal n).length-1)<2^2000000:=bJ (bf p1 a) (show n<2^2000000 from h);have:=(fk (by decide)).mp p2;omega
theorem Wo:bootBuiltins "abs" = some (.builtin "abs"):=by decide +kernel
theorem Bb(T:Txt K mg t)(hN:base.NoSeer)(hP:P.given.tree=none):Ok P w K mg base 36 t.qP t.uA ["top","bottom"] (Tz K):=by
 refine T.yH.fn.rm nU (λ vs H Q E h=>?_) λ cdv A outer s H vs Q E hr h=>?_
 ·obtain⟨z,d,rfl,_⟩:=h;rfl
 ·have UQ:(A.deeper (envOfC "fraction_told" (jD oF) s.heap.objs.size t.qP cdv)).depth+Builtin.pylongFrames<recursionLimit:=by
   have:=hr.dp;show _+100<_;omega
  obtain⟨z,d,rfl,hd,hz,hd2,h⟩:=h;have hr1:=hr.mono (show 1<=35 by decide);refine⟨_,jv (jV (i:=2) nU.nd rfl (Or.inl rfl) (j6 T.wZ (Aq T) hr1 rfl jU (jt (pv 0)<|jt (pv 1) jw)))<|
   jv (jV (i:=3) nU.nd rfl (Or.inl rfl) (j6 T.digits_of (As T) hr1 rfl jU (jt (kP (HY hN hP rfl rfl rfl UQ) (kj Ou (by rfl) T.XS Wo (jt (pv 0) jw)) (pv 2)) jw)))<|
   jv (qR (l6 Fb (pv 1) (pv 2) (kH _))
    (jy (jV (i:=3) nU.nd rfl (Or.inl rfl) (kP u5 (kP u5 (pv 3) (mV (jt (kO T.Lp rfl) jw))) (j6 T.digits_of (As T) hr1 rfl jU (jt (kP (HY hN hP rfl rfl rfl UQ) (pv 1) (pv 2)) jw))))) ny)<|
   jy (jP (zh (l6 KP (pv 0) jL (kH _)) (kP u5 (mV (jt (kO T.Lo rfl) jw)) (pv 3)) (pv 3))),?_⟩
  have g0:0<bx z.natAbs d:=dD _ hd;have eg:(iV z (d:Int):Nat)=bx z.natAbs d:=rfl;refine⟨_,rfl,_,rfl,z,(d:Int),rfl,by omega,?_⟩;have gd:bx z.natAbs d ∣ d:=gX _ _;have ea:(if z<0 then -z else z)/((bx z.natAbs d:Nat):Int)=((z.natAbs/bx z.natAbs d:Nat):Int):=by
   rw[show (if z<0 then -z else z)=(z.natAbs:Int) by split<;>omega]
   push_cast;rfl
  have l1:z.natAbs/bx z.natAbs d<Ky:=bJ (gr _ _) hz;have l2:d/bx z.natAbs d<Ky:=bJ (gr _ _) hd2;have ln1:=L8 l1;have ln2:=L8 l2;refine⟨_,rfl,z,rfl,_,rfl,_,_,rfl,rfl,(show (0:Int)<((bx z.natAbs d:Nat):Int) by omega),z.natAbs/bx z.natAbs d,?_,l1,λ D1 H1 k1 hD1 h1=>?_⟩
  ·show [V.int ((if z<0 then -z else z)/((bx z.natAbs d:Nat):Int))]=_;rw[ea]
  have fin:∀(D:Addr) (H2:Hp) (bs:List Nat) (v:V),jF H H2->H D=none->H2 D=some (.lst (jZ bs))->bs.length<=5000000->Ra61.frac z d=(if z<0 then [45] else [])++bs ->
    RC (tIf (Oo (Uj (Jk λ i j=>V.bl (decide (i<j))) (zg 0) (tC (V.int 0)))) (Uj Xr (Xi (Ct (tC (V.int 45)) Hz)) (zg 3)) (zg 3)) { nx:=λ x H'=>Q V.qZ H',rt:=Q } [some (.int z),some (.int (d:Int)),some v,some (.ref D)] H2:=by
   intro D H2 bs v k2 hD h2 hb e;refine⟨_,rfl,_,_,rfl,rfl,_,rfl,?_⟩
   by_cases hn:z<0
   ·refine t9 (decide_eq_true hn) ?_;refine⟨by rw[sizeLine_eq];simp,λ D3 hD3=>?_⟩;have k3:=jz (o:=.lst [V.int 45]) hD3;refine⟨_,rfl,D3,D,_,_,rfl,rfl,ju,k3 _ _ h2,by rw[ku,sizeLine_eq];simp;omega,λ D4 Wk=>?_⟩;have k4:=jz (o:=.lst ([V.int 45]++jZ bs)) Wk;refine h D4 _ ((k2.trans k3).trans k4) ((k2.trans k3).free Wk) ?_;rw[ju,e,if_pos hn];rfl
   ·refine sP (decide_eq_false hn) ?_;refine⟨_,rfl,h D H2 k2 hD ?_⟩;rw[h2,e,if_neg hn];rfl
  by_cases hq:d=bx z.natAbs d
  ·refine⟨_,rfl,_,rfl,rfl,_,rfl,sP ?_ ?_⟩
   ·rw[lD];simp[eg,<-hq]
   ·refine fin D1 H1 _ _ k1 hD1 h1 (by omega) ?_;unfold Ra61.frac;dsimp only;rw[if_pos (show d/bx z.natAbs d=1 by rw[<-hq];exact Nat.div_self hd),cF]
  ·refine⟨_,rfl,_,rfl,rfl,_,rfl,t9 ?_ ?_⟩
   ·rw[lD];simp[eg];omega
   ·have ed:(d:Int)/((bx z.natAbs d:Nat):Int)=((d/bx z.natAbs d:Nat):Int):=by push_cast;rfl
    refine⟨_,rfl,by rw[sizeLine_eq];simp,λ D2 N1=>?_⟩;have k2:=jz (o:=.lst [V.int 47]) N1;refine⟨D1,D2,_,_,rfl,rfl,k2 _ _ h1,ju,by rw[ku,sizeLine_eq];simp;omega,λ D3 hD3=>?_⟩;have k3:=jz (o:=.lst (jZ (Ra61.decimal (z.natAbs/bx z.natAbs d))++[V.int 47])) hD3;refine⟨_,rfl,_,rfl,_,_,rfl,rfl,(show (0:Int)<((bx z.natAbs d:Nat):Int) by omega),d/bx z.natAbs d,?_,l2,λ D4 H4 k4 Wk h4=>?_⟩
    ·show [V.int ((d:Int)/((bx z.natAbs d:Nat):Int))]=_;rw[ed]
    ·refine⟨D3,D4,_,_,rfl,rfl,k4 _ _ ju,h4,by rw[aG,ku,ku,sizeLine_eq];simp;omega,λ D5 hD5=>?_⟩;have k5:=jz (o:=.lst (jZ (Ra61.decimal (z.natAbs/bx z.natAbs d))++[V.int 47]++jZ (Ra61.decimal (d/bx z.natAbs d)))) hD5;have K5:=(((k1.trans k2).trans k3).trans k4)
     refine fin D5 _ (Ra61.decimal (z.natAbs/bx z.natAbs d)++47::Ra61.decimal (d/bx z.natAbs d)) _ (K5.trans k5) (K5.free hD5) ?_ (by simp;omega) ?_
     ·rw[ju];unfold jZ;simp
     ·unfold Ra61.frac;dsimp only;have:¬d/bx z.natAbs d=1:=λ q=>hq (by
       have:=Nat.div_mul_cancel gd;rw[q,Nat.one_mul] at this;exact this.symm)
      rw[if_neg this,cR]
theorem IV{n B:Nat}(h:n<2^B):(Ra61.decimal n).length<=B+1:=by
 by_cases h0:n=0
 ·subst h0
  show ([48]:List Nat).length<=B+1;simp
 ·obtain⟨a,b⟩:=L7 n h0
  have p1:2^((Ra61.decimal n).length-1)<=10^((Ra61.decimal n).length-1):=gy (by decide) _;have:=(fk (by decide)).mp (bJ (bf p1 a) h);omega
theorem QY{z:Int}{d B:Nat}(hz:z.natAbs<2^B)(hd:d<2^B):(Ra61.frac z d).length<=2*B+4:=by
 have l1:=IV (bJ (gr z.natAbs (bx z.natAbs d)) hz)
 have l2:=IV (bJ (gr d (bx z.natAbs d)) hd)
 unfold Ra61.frac
 dsimp only
 rw[aG,aG]
 have a:(if z<0 then [45] else ([]:List Nat)).length<=1:=by split<;>simp
 have b:(if d/bx z.natAbs d=1 then ([]:List Nat) else 47::Ra61.decimal (d/bx z.natAbs d)).length<=(Ra61.decimal (d/bx z.natAbs d)).length+1:=by split<;>simp
 omega
theorem QZ{n B:Nat}(h:n<2^B)(hB:B<=100000):n<Ky:=
 aM h (eG (by decide) (bf hB (by decide)))
abbrev Wds(H:Hp)(ws:List Addr)(words:List (List Nat)):Prop:=Ea (λ bs a=>H a=some (.lst (jZ bs))) ws words
def TF(K:aj)(t:Adr):Sp:=λ vs H Q _=>∃(va:Addr) (jx:List Int) (d B:Nat),vs=[.ref va]/\NN K t H va jx (d:Int)/\0<d/\IT jx (d:Int) B/\B<=100000/\jx.length<=16 /\
 ∀D ws H',jF H H'->H D=none->H' D=some (.lst (ws.map V.ref))->Wds H' ws (jx.map λ z=>Ra61.frac z d)->Q (.ref D) H'
theorem TH(T:Txt K mg t)(hN:base.NoSeer)(hP:P.given.tree=none):Ok P w K mg base 37 t.yF t.wW ["self"] (TF K t):=by
 refine T.Bu.fn.rm rZ (λ vs H Q E h=>?_) λ cdv A outer s H vs Q E hr h=>?_
 ·obtain⟨va,jx,d,B,rfl,_⟩:=h;rfl
 ·obtain⟨va,jx,d,B,rfl,⟨dv,tl,v1,v2⟩,hd,Z,hB,hn,h⟩:=h
  refine⟨_,jy (jP (o5 (own:=[("top",1)]) rfl rZ.nd (kL (jX K (pv 0) rfl)) (ko rfl) (λ _ _ _ _ _=>j8 (i:=1) rZ.nd rfl (Or.inl rfl)) (λ _ _ _ _ _=>kQ)
   (λ _ _ _ _ _=>j6 T.yH (Bb T hN hP) hr rfl jU (jt (pv 1)<|jt (jX K (pv 0) rfl) jw)))),?_⟩
  refine⟨_,rfl,va,_,dv,_,_,rfl,v1,T.mX.cl,T.om,Ar _ _,tl,rfl,⟨_,v2⟩,λ D hD=>mE (K:=K) (a:=tl) (xs:=jx.map V.int) (λ i H9=>∃ws:List Addr,ws.length=i/\jF H H9/\H9 D=some (.lst (ws.map V.ref))/\Ea (λ bs a=>H9 a=some (.lst (jZ bs))/\a≠D) ws ((jx.map λ z=>Ra61.frac z d).take i))
   ⟨[],rfl,jz hD,ju,Ea.nil⟩ (λ i H9 _ ⟨_,_,e,_,_⟩=>jF.seq e v2) ?_ ?_⟩
  ·rintro i x H9 hi ⟨ws,hw,s9,h9,E9⟩;obtain⟨z,ez,rfl⟩:∃z,jx[i]? = some z/\x=.int z:=by
    rw[ai] at hi
    cases q:jx[i]? with
    |none=>rw[q] at hi;cases hi
    |some z=>rw[q] at hi;cases hi;exact⟨z,rfl,rfl⟩
   have hin:i<jx.length:=(ao.mp ez).1;refine⟨rfl,?_⟩;refine⟨_,rfl,_,rfl,va,_,dv,_,_,rfl,s9 _ _ v1,T.mX.cl,T.oM,zf _ _,z,d,rfl,hd,QZ (Z.jx z (aq ez)) hB,QZ (by have:=Z.bot;simpa using this) hB,λ a H8 k8 ha h8=>?_⟩;have Yv:=k8 _ _ h9;have hne:a≠D:=λ q=>by rw[q,h9] at ha;cases ha
   refine⟨ws.map V.ref,Yv,by rw[ah,hw,sizeLine_eq];omega,ws++[a],by simp[hw],λ b u e=>?_,by rw[ju,bh];rfl,?_⟩
   ·rw[jA (jB e hD)];exact k8 _ _ (s9 _ _ e)
   ·rw[take_snoc (l:=jx.map λ z=>Ra61.frac z d) (x:=Ra61.frac z d) (by rw[ai,ez];rfl)];exact Ea.snoc (E9.mono λ bs b hb=>⟨by rw[jA hb.2];exact k8 _ _ hb.1,hb.2⟩) ⟨by rw[jA hne];exact h8,hne⟩
  ·rintro H9 ⟨ws,hw,s9,h9,E9⟩;rw[ah] at hw E9;rw[aA (by simp)] at E9;exact h D ws H9 s9 hD h9 (E9.mono λ bs a hb=>hb.1)
def Au(x bs:List Nat):List Nat:=x++[32]++bs++[10]
def nu:List (List Nat)->List (List Nat)->List Nat
 |x::xs,b::bs=>Au x b++nu xs bs
 |_,_=>[]
theorem BE:∀{xs bs:List (List Nat)}{x b:List Nat},xs.length=bs.length->nu (xs++[x]) (bs++[b])=nu xs bs++Au x b
 |[],[],x,b,_=>by simp[nu]
 |y::xs,c::bs,x,b,h=>by
  simp only[fZ,nu]
  rw[BE (by simpa using h),cR]
theorem Ej:∀{xs bs:List (List Nat)},(∀x∈xs,x.length<=100)->(∀b∈bs,b.length<=250000)->(nu xs bs).length<=xs.length*250102
 |[],_,_,_=>by simp[nu]
 |x::xs,[],_,_=>by simp[nu]
 |x::xs,b::bs,h1,h2=>by
  have i:=Ej (xs:=xs) (bs:=bs) (λ y hy=>h1 y (by simp[hy])) λ y hy=>h2 y (by simp[hy])
  have a:=h1 x (by simp);have c:=h2 b (by simp);simp only[nu,Au,aG,aK,List.length_nil]
  omega
def Q0(K:aj)(t:Adr):Sp:=λ vs H Q E=>∃(sl wl:Addr) (room:Int) (N:Ra61.Net) (ws:List Addr) (words:List (List Nat)),vs=[.ref sl,.ref wl,.int room]/\QF t N (.ref sl) H/\H wl=some (.lst (ws.map V.ref))/\Wds H ws words /\
 N.length=words.length/\N.length<=16/\(∀s∈N,s.name.length<=100)/\(∀b∈words,b.length<=250000) /\
 if room<((nu (N.map λ s=>s.name) words).length:Int) then ∀H',E (.ref t.mJ) none H' else
  ∀D H',jF H H'->H D=none->H' D=some (.lst (((((nu (N.map λ s=>s.name) words).length:Nat):Int)::(nu (N.map λ s=>s.name) words).map λ(b:Nat)=>(b:Int)).map V.int))->Q (.ref D) H'
theorem TJ(T:Txt K mg t)(kb:K.In base):Ok P w K mg base 1 t.PK t.Lm ["states","words","room"] (Q0 K t):=by
 refine T.tell.fn.rm GN (λ vs H Q E h=>?_) λ cdv A outer s H vs Q E hr h=>?_
 ·obtain⟨sl,wl,room,N,ws,words,rfl,_⟩:=h;rfl
 ·obtain⟨sl,wl,room,N,ws,words,rfl,⟨YS,nX,esl,n1,n2⟩,hwl,W,hlen,hn,hnm,hwd,h⟩:=h
  cases esl;refine⟨_,jv (jV (i:=3) GN.nd rfl (Or.inl rfl) (mV jw))<|
   jv (oN nj rfl (Gz (by rfl) T.Lq (jt (pv 0)<|jt (pv 1) jw)) (tQ K (i:=4) (j:=5) rfl GN.nd rfl rfl (Or.inl rfl) (Or.inl rfl))
    (jy (j5 (Be bN PySem.F.slot_list_extend PySem.F.type_list_extend Mp (pv 3) (jt
     (kP u5 (kP u5 (kP u5 (pU pC (by rfl) T.AS zY (jt (jX K (pv 4) rfl) jw)) (mV (jt (kO T.GO rfl) jw))) (pv 5)) (mV (jt (kO T.Dc rfl) jw))) jw)))))<|
   jv (qR (l6 KP (pv 2) (kj jY (by rfl) T.qE nN (jt (pv 3) jw)) (kH _)) (jy (vZ xl_of rfl (uZ T kb) bX)) ny)<|
   jy (jP (kP u5 (mV (jt (kj jY (by rfl) T.qE nN (jt (pv 3) jw)) jw)) (pv 3))),?_⟩
  refine⟨by rw[sizeLine_eq];simp,λ D hD=>?_⟩;have k0:=jz (o:=.lst []) hD;refine⟨_,rfl,_,rfl,sl,wl,_,_,rfl,jO.of (k0 _ _ n1),jO.of (k0 _ _ hwl),?_⟩;have Q2:∀{i:Nat} {st:Ra61.State},N[i]? = some st->(N.map λ s=>s.name)[i]? = some st.name:=λ e=>by rw[ai,e];rfl
  have small:∀i,(nu ((N.map λ s=>s.name).take i) (words.take i)).length<=4100000:=λ i=>by
   have:=Ej (xs:=(N.map λ s=>s.name).take i) (bs:=words.take i) (λ x hx=>by
    obtain⟨s,hs,rfl⟩:=aB.mp (iT hx);exact hnm s hs) λ b hb=>hwd b (iT hb)
   have l:((N.map λ s=>s.name).take i).length<=16:=by rw[aR,ah];omega
   have:((N.map λ s=>s.name).take i).length*250102<=16*250102:=eT _ l;omega
  refine Sv (K:=K) (a:=sl) (b:=wl) (xs:=nX.map V.ref) (ys:=ws.map V.ref) (by rw[ah,ah,n2.len,W.len,hlen]) (λ i σ H9=>∃v4 v5,σ=[some (.ref sl),some (.ref wl),some (.int room),some (.ref D),v4,v5]/\jF H H9/\H9 D=some (.lst (jZ (nu ((N.map λ s=>s.name).take i) (words.take i)))))
   ⟨none,none,rfl,k0,by rw[gP,gP];exact ju⟩ (λ i σ H9 _ ⟨_,_,_,e,_⟩=>⟨jO.of (e _ _ n1),jO.of (e _ _ hwl)⟩) ?_ ?_
  ·rintro i x y σ H9 T9 hi hj Wj ⟨v4,v5,rfl,k9,h9⟩;obtain⟨sa,ea,rfl⟩:=lC hi;obtain⟨wa,eb,rfl⟩:=lC hj;obtain⟨st,es,dx,nm,cl,oY,c1,c2,c3,c4⟩:=n2.get ea;obtain⟨wd,ew,Wq⟩:=W.get eb;have hin:i<N.length:=(ao.mp es).1;have ln:=hnm st (aq es);have lw:=hwd wd (aq ew);have ls:=small i;have k1:jF H9 (upd H9 T9 (.tup [.ref sa,.ref wa])):=jz Wj;have K1:=k9.trans k1;have h1:=k1 _ _ h9;refine AI.at ju ?_;generalize upd H9 T9 (.tup [.ref sa,.ref wa])=H1 at *
   refine⟨_,rfl,.inl ⟨rfl,_,jO.of h1⟩,_,rfl,sa,_,dx,_,_,rfl,K1 _ _ c1,T.tK.cl,T.vq,IP _ _,nm,_,rfl,.inr (sQ.of (K1 _ _ c2)),λ L1 YC=>?_⟩;have k2:=jz (o:=.lst (jZ st.name)) YC;refine⟨by rw[sizeLine_eq];simp,λ L2 WT=>?_⟩;have k3:=jz (o:=.lst [V.int 32]) WT;refine⟨L1,L2,_,_,rfl,rfl,k3 _ _ ju,ju,by rw[ku,sizeLine_eq];simp;omega,λ L3 Zc=>?_⟩;have k4:=jz (o:=.lst (jZ st.name++[V.int 32])) Zc;have K4:=((K1.trans k2).trans k3).trans k4;refine⟨_,rfl,L3,wa,_,_,rfl,rfl,ju,K4 _ _ Wq,by rw[aG,ku,ku,sizeLine_eq];simp;omega,λ L4 hL4=>?_⟩;have k5:=jz (o:=.lst (jZ st.name++[V.int 32]++jZ wd)) hL4;refine⟨by rw[sizeLine_eq];simp,λ L5 hL5=>?_⟩;have k6:=jz (o:=.lst [V.int 10]) hL5;refine⟨L4,L5,_,_,rfl,rfl,k6 _ _ ju,ju,by rw[aG,aG,ku,ku,sizeLine_eq];simp;omega,λ L6 hL6=>?_⟩;have k7:=jz (o:=.lst (jZ st.name++[V.int 32]++jZ wd++[V.int 10])) hL6;have K7:=((K4.trans k5).trans k6).trans k7;have hD7:=k7 _ _ (k6 _ _ (k5 _ _ (k4 _ _ (k3 _ _ (k2 _ _ h1)))));refine⟨D,L6,_,_,rfl,rfl,hD7,ju,by rw[aG,aG,aG,ku,ku,ku,sizeLine_eq];simp;omega,?_⟩;refine⟨_,_,rfl,λ b u e=>?_,?_⟩
   ·rw[jA (jB e hD)];exact K7 _ _ e
   ·rw[ju,take_snoc (Q2 es),take_snoc ew,BE (by rw[aR,aR,ah,hlen])];unfold jZ Au;simp
  ·rintro σ H9 ⟨v4,v5,rfl,k9,h9⟩;rw[ah,n2.len,aA (by rw[ah];exact au _),aA (by rw[hlen];exact au _)] at h9;have ls:=small N.length;rw[aA (by rw[ah];exact au _),aA (by rw[hlen];exact au _)] at ls;generalize nu (N.map λ s=>s.name) words=out at *
   refine⟨_,rfl,_,rfl,D,_,rfl,.inl (jO.of h9),_,_,rfl,rfl,_,rfl,?_⟩
   by_cases hq:room<(out.length:Int)
   ·rw[if_pos hq] at h;exact t9 (by rw[ku];exact decide_eq_true hq) (h _)
   ·rw[if_neg hq] at h;refine sP (by rw[ku];exact decide_eq_false hq) ?_;refine⟨_,rfl,D,_,rfl,.inl (jO.of h9),by rw[sizeLine_eq];simp,λ L1 YC=>?_⟩;have k1:=jz (o:=.lst [V.int ((jZ out).length:Nat)]) YC;refine⟨_,rfl,L1,D,_,_,rfl,rfl,ju,k1 _ _ h9,by rw[ku,sizeLine_eq];simp;omega,λ L2 WT=>?_⟩;have k2:=jz (o:=.lst ([V.int ((jZ out).length:Nat)]++jZ out)) WT;refine h L2 _ ((k9.trans k1).trans k2) ((k9.trans k1).free WT) ?_;rw[ju,ku];unfold jZ;simp
theorem int_at{xs:List Int}{i:Nat}{v:V}(h:(xs.map V.int)[i]? = some v):i<xs.length/\v=.int (xs.getD i 0):=by
 rw[ai] at h
 cases e:xs[i]? with
 |none=>rw[e] at h;cases h
 |some x=>rw[e] at h;cases h;exact⟨(ao.mp e).1,by rw[aa,e];rfl⟩
def Kz(K:aj):Sp:=λ vs H Q _=>∃(ra pa:Addr) (row oW:List Int) (turn:Nat) (before:Int),vs=[.ref ra,.ref pa,.int (turn:Int),.int before]/\jO K H ra (row.map V.int)/\jO K H pa (oW.map V.int)/\row.length=oW.length/\row.length<=17/\turn<row.length /\
 0<before/\before.natAbs<2^1000/\(∀x∈row,x.natAbs<2^1000)/\(∀x∈oW,x.natAbs<2^1000)/\∀D H',jF H H'->H D=none->H' D=some (.lst ((La.mK row oW turn before).map V.int))->Q (.ref D) H'
theorem KA(T:Txt K mg t):Ok P w K mg base 1 t.FN t.CZ ["row","pivot_row","turn","pivot_before"] (Kz K):=by
 refine T.cleared.fn.rm rX (λ vs H Q E h=>?_) λ cdv A outer s H vs Q E hr h=>?_
 ·obtain⟨ra,pa,row,oW,turn,before,rfl,_⟩:=h;rfl
 ·obtain⟨ra,pa,row,oW,turn,before,rfl,hra,hpa,hl,h17,ht,b0,bb,Hr,UR,h⟩:=h
  refine⟨_,jv (jV (i:=4) rX.nd rfl (Or.inr rfl) (mi (Gj K) (pv 1) (pv 2) (λ _ _=>rfl)))<|
   jv (jV (i:=5) rX.nd rfl (Or.inr rfl) (mi (Gj K) (pv 0) (pv 2) (λ _ _=>rfl)))<|
   jy (jP (o5 (own:=[("number",6),("other",7)]) rfl rX.nd (Gz (by rfl) T.Lq (jt (pv 0)<|jt (pv 1) jw)) (ko rfl) (λ _ _ _ _ _=>tQ K (i:=6) (j:=7) rfl rX.nd rfl rfl (Or.inl rfl) (Or.inl rfl)) (λ _ _ _ _ _=>kQ)
    (λ _ _ _ _ _=>kP Pq (kP Gs (kP Lg (pv 4) (pv 6)) (kP Lg (pv 5) (pv 7))) (pv 3)))),?_⟩
  have mem:∀{l:List Int} {i:Nat},i<l.length->l.getD i 0∈l:=λ {l i} h=>by rw[aa,af h];exact aV h
  have cl:(La.mK row oW turn before).length=row.length:=by unfold La.mK;rw[eZ];omega
  refine⟨_,rfl,_,rfl,pa,_,_,_,rfl,rfl,hpa,oB (by omega),_,rfl,_,rfl,ra,_,_,_,rfl,rfl,hra,oB ht,_,rfl,_,rfl,ra,pa,_,_,rfl,hra,hpa,λ D hD=>JR (K:=K) (a:=ra) (b:=pa) (xs:=row.map V.int) (ys:=oW.map V.int) (by rw[ah,ah,hl])
   (λ i H9=>jF H H9/\H9 D=some (.lst (((La.mK row oW turn before).map V.int).take i))) ⟨jz hD,ju⟩ (λ i H9 _ ⟨e,_⟩=>⟨jF.seq e hra,jF.seq e hpa⟩) ?_ ?_⟩
  ·rintro i x y H9 T9 hi hj Wj ⟨s9,h9⟩;obtain⟨hi1,rfl⟩:=int_at hi;obtain⟨hj1,rfl⟩:=int_at hj;have k1:jF H9 (upd H9 T9 (.tup [.int (row.getD i 0),.int (oW.getD i 0)])):=jz Wj;refine AI.at ju ⟨rfl,?_⟩;refine⟨_,rfl,_,rfl,_,_,rfl,rfl,Uv (UR _ (mem (by omega))) (Hr _ (mem hi1)) (by decide),_,rfl,_,rfl,_,_,rfl,rfl,Uv (Hr _ (mem ht)) (UR _ (mem hj1)) (by decide),_,_,rfl,rfl,_,rfl,_,_,rfl,rfl,⟨b0,bb⟩,_,k1 _ _ h9,by rw[aR,sizeLine_eq];omega,λ b u e=>?_,?_⟩
   ·rw[jA (jB e hD)];exact k1 _ _ (s9 _ _ e)
   ·rw[ju,take_snoc (l:=(La.mK row oW turn before).map V.int) (x:=V.int ((oW.getD turn 0*row.getD i 0-row.getD turn 0*oW.getD i 0).fdiv before)) (by
     have q:(La.mK row oW turn before)[i]? = some ((oW.getD turn 0*row.getD i 0-row.getD turn 0*oW.getD i 0).fdiv before):=by
      unfold La.mK;rw[fT,af hi1,af hj1,aa (l:=row) (i:=i),af hi1,aa (l:=oW) (i:=i),af hj1];rfl
     rw[ai,q];rfl)]
  ·rintro H9 ⟨s9,h9⟩;rw[ah,aA (by rw[ah,cl];exact au _)] at h9;exact h D H9 s9 hD h9
abbrev Ros(H:Hp)(US:List Addr)(rows:List (List Int)):Prop:=Ea (λ row a=>H a=some (.lst (row.map V.int))) US rows
def Q3(K:aj)(t:Adr):Sp:=λ vs H Q _=>∃(rl:Addr) (US:List Addr) (rows:List (List Int)),vs=[.ref rl]/\H rl=some (.lst (US.map V.ref))/\Ros H US rows/\1<=rows.length/\rows.length<=16/\(∀r∈rows,r.length=rows.length+1) /\
 (∀i j,i<rows.length->j<=rows.length->((rows.getD i []).getD j 0).natAbs<2^40)/\(∀k,k<rows.length->0<La.G (La.ent rows) k k k)/\∀x H',jF H H'->H x=none->NN K t H' x (La.mD rows).1 (La.mD rows).2->Q (.ref x) H'
theorem TM{xs:List V}{n:Nat}(h:xs.length=n+1):Ht xs (-1)=xs[n]?:=by
 unfold Ht KW
 rw[if_neg (by decide),if_pos (by omega)]
 show xs[((-1:Int)+(xs.length:Int)).toNat]? = _
 rw[h]
 congr 1
 omega
theorem Q4(T:Txt K mg t):Ok P w K mg base 3 t.Ln t.Ih ["rows"] (Q3 K t):=by
 refine T.Uw.fn.rm n9 (λ vs H Q E h=>?_) λ cdv A outer s H vs Q E hr h=>?_
 ·obtain⟨rl,US,rows,rfl,_⟩:=h;rfl
 ·obtain⟨rl,US,rows,rfl,hrl,R,n1,TN,hw,hA,hp,h⟩:=h
  have hr1:=hr.mono (show 1<=2 by decide);refine⟨_,jv (jV (i:=1) n9.nd rfl (Or.inr rfl) jL)<|
   jv (oN nj rfl (ud (by rfl) T.zX (jt (kj jY (by rfl) T.qE nN (jt (pv 0) jw)) jw)) (j8 (i:=2) n9.nd rfl (Or.inr rfl))
    (jv (jV (i:=3) n9.nd rfl (Or.inr rfl) (mi (Gj K) (pv 0) (pv 2) (λ _ _=>rfl)))<|
      jv (zm (i:=0) (own:=[("place",4),("row",5)]) rfl n9.nd rfl rfl (BY n9.kind rfl rfl rfl) (xP (by rfl) T.o7 (jt (pv 0) jw)) (ko rfl) (λ _ _ _ _ _=>tQ K (i:=4) (j:=5) rfl n9.nd rfl rfl (Or.inl rfl) (Or.inl rfl)) (λ _ _ _ _ _=>kQ)
       (λ _ _ _ _ _=>zh (l6 yb (pv 4) (pv 2) (kH _)) (pv 5) (j6 T.cleared (KA T) hr1 rfl jU (jt (pv 5)<|jt (pv 3)<|jt (pv 2)<|jt (pv 1) jw))))<|
      jy (jV (i:=1) n9.nd rfl (Or.inr rfl) (mi (Gj K) (pv 3) (pv 2) (λ _ _=>rfl)))))<|
   jy (jP (CH T.mX T.xh (xH T) hr rfl jU (jt (o5 (own:=[("row",5)]) rfl n9.nd (kL (pv 0)) (ko rfl) (λ _ _ _ _ _=>j8 (i:=5) n9.nd rfl (Or.inl rfl)) (λ _ _ _ _ _=>kQ) (λ _ _ _ _ _=>mi (Gj K) (pv 5) (Cm yR jL) (λ _ _=>rfl)))<|jt (pv 1) jw))),?_⟩
  have lr:(US.map V.ref).length=rows.length:=by rw[ah,R.len]
  refine⟨_,rfl,rl,_,rfl,.inl (jO.of hrl),_,rfl,by rw[lr];omega,by rw[lr];omega,?_⟩;rw[lr];have en:(rows.length:Int).toNat=rows.length:=by simp
  refine Ay (n:=(rows.length:Int).toNat) (λ k σ H9=>∃(la:Addr) (Wr:List Addr) (v2 v3:Option V),σ=[some (.ref la),some (.int (La.jS rows k).2),v2,v3,none,none]/\jF H H9/\H9 la=some (.lst (Wr.map V.ref))/\Ros H9 Wr (La.jS rows k).1)
   ⟨rl,US,none,none,rfl,jF.refl _,hrl,R⟩ ?_ ?_
  ·rintro k σ H9 hk ⟨la,Wr,v2,v3,rfl,k9,h9,R9⟩;rw[en] at hk;have ez:(0:Int)+(k:Int)=(k:Int):=by omega
   obtain⟨t1,t2,t3,t4⟩:=La.sG rfl hw hp k (bg hk);obtain⟨z1,z2⟩:=La.Iv rfl hw TN hA hp k (bg hk);have pos:0<(La.jS rows k).2:=by
    have:((0:Int):Rat)<((La.jS rows k).2:Rat):=by rw[t3];exact La.Dt hp k (bg hk)
    exact cV.mp this
   have big:∀r∈(La.jS rows k).1,∀x∈r,x.natAbs<2^1000:=λ r hr x hx=>by
    obtain⟨i,hi,rfl⟩:=bQ hr;obtain⟨j,hj,rfl⟩:=bQ hx;have lr:=t2 _ (aV hi);have:=z2 i j (by omega) (by omega);rw[aa,aa,af hi] at this;rw[dJ,af hj] at this;exact this
   obtain⟨oW,ep⟩:∃oW,(La.jS rows k).1[k]? = some oW:=⟨_,af (by omega)⟩
   obtain⟨pa,ea,hpa⟩:=R9.at_ k oW ep;have gp:(La.jS rows k).1.getD k []=oW:=by rw[aa,ep];rfl
   have lp:=t2 oW (aq ep);refine⟨_,rfl,_,rfl,la,_,(k:Int),.ref pa,rfl,by rw[ez],jO.of h9,qg (by rw[ai,ea];rfl),?_⟩;have YD:(La.jS rows (k+1)).1.length=rows.length:=(La.sG rfl hw hp (k+1) hk).1;refine⟨_,rfl,la,_,rfl,jO.of h9,λ D hD=>Su (K:=K) (a:=la) (xs:=Wr.map V.ref) (λ i H8=>∃qs:List Addr,qs.length=i/\jF H9 H8/\H8 D=some (.lst (qs.map V.ref))/\Ea (λ row a=>H8 a=some (.lst (row.map V.int))/\a≠D) qs ((La.jS rows (k+1)).1.take i))
    ⟨[],rfl,jz hD,ju,Ea.nil⟩ (λ i H8 _ ⟨_,_,e,_,_⟩=>jO.of (e _ _ h9)) ?_ ?_⟩
   ·rintro i x H8 T8 hi YB ⟨qs,UT,k8,h8,E8⟩;obtain⟨ra,er,rfl⟩:=lC hi;obtain⟨row,eo,Hr⟩:=R9.get er;have hin:i<rows.length:=by rw[<-t1];exact (ao.mp eo).1
    have Q5:=t2 row (aq eo);have k7:jF H8 (upd H8 T8 (.tup [.int (i:Nat),.ref ra])):=jz YB;have h7:=k7 _ _ h8;have K7:=k8.trans k7;have E7:=E8.mono λ x a h=>(⟨k7 _ _ h.1,h.2⟩:_/\a≠D)
    have nx:(La.jS rows (k+1)).1[i]? = some (if i=k then row else La.mK row oW k (La.jS rows k).2):=by
     show ((La.jS rows k).1.zipIdx.map λ x=>if x.2=k then x.1 else La.mK x.1 ((La.jS rows k).1.getD k []) k (La.jS rows k).2)[i]? = _;rw[ai,eL,eo,gp];simp
    refine AI.at ju ⟨rfl,?_⟩;generalize upd H8 T8 (.tup [.int (i:Nat),.ref ra])=H7 at *
    have fin:∀(z:Addr) (H4:Hp),jF H7 H4->H4 z=some (.lst ((if i=k then row else La.mK row oW k (La.jS rows k).2).map V.int))->z≠D->∃acc,H4 D=some (.lst acc)/\acc.length<sizeLine/\∃qs:List Addr,qs.length=i+1/\jF H9 (upd H4 D (.lst (acc++[V.ref z]))) /\
      (upd H4 D (.lst (acc++[V.ref z]))) D=some (.lst (qs.map V.ref))/\Ea (λ row a=>(upd H4 D (.lst (acc++[V.ref z]))) a=some (.lst (row.map V.int))/\a≠D) qs ((La.jS rows (k+1)).1.take (i+1)):=λ z H4 k4 hz hne=>by
     refine⟨qs.map V.ref,k4 _ _ h7,by rw[ah,UT,sizeLine_eq];omega,qs++[z],by simp[UT],λ b u e=>?_,by rw[ju,bh];rfl,?_⟩
     ·rw[jA (jB e hD)];exact k4 _ _ (K7 _ _ e)
     ·rw[take_snoc nx];exact Ea.snoc (E7.mono λ x a h=>⟨by rw[jA h.2];exact k4 _ _ h.1,h.2⟩) ⟨by rw[jA hne];exact hz,hne⟩
    have YE:=K7 _ _ Hr;have hneD:ra≠D:=λ q=>by rw[q,hD] at Hr;cases Hr
    refine⟨_,rfl,_,rfl,rfl,_,rfl,?_⟩;rw[ez]
    by_cases hik:i=k
    ·refine t9 (by rw[lD];simp[hik]) ?_;refine⟨_,rfl,fin ra H7 (jF.refl _) ?_ hneD⟩;rw[if_pos hik];exact YE
    ·refine sP (by rw[lD];simp;omega) ?_;rw[if_neg hik] at fin;refine⟨_,rfl,_,rfl,_,rfl,_,rfl,ra,pa,row,oW,k,(La.jS rows k).2,rfl,jO.of YE,jO.of (K7 _ _ hpa),by rw[Q5,lp],by rw[Q5];omega,by rw[Q5];omega,pos,z1,big row (aq eo),big oW (aq ep),λ z H4 k4 hz h4=>fin z H4 k4 h4 (λ q=>by rw[q,h7] at hz;cases hz)⟩
   ·rintro H8 ⟨qs,UT,k8,h8,E8⟩;rw[ah,R9.len,t1] at UT E8;rw[aA (by rw[YD];exact au _)] at E8;refine⟨_,rfl,_,rfl,pa,_,(k:Int),.int (oW.getD k 0),rfl,by rw[ez],jO.of (k8 _ _ hpa),oB (by omega),?_⟩;refine⟨D,qs,some (.int (0+(k:Int))),some (.ref pa),?_,k9.trans k8,h8,E8.mono λ x a h=>h.1⟩;show _=[some (V.ref D),some (V.int (((La.jS rows k).1.getD k []).getD k 0)),some (.int (0+(k:Int))),some (.ref pa),none,none];rw[gp];rfl
  ·rintro σ H9 ⟨la,Wr,v2,v3,rfl,k9,h9,R9⟩;rw[en] at R9 ⊢;obtain⟨t1,t2,t3,t4⟩:=La.sG rfl hw hp rows.length (au _);refine⟨_,rfl,la,rfl,⟨_,jO.of h9⟩,λ D hD=>mE (K:=K) (a:=la) (xs:=Wr.map V.ref) (λ i H8=>H8=upd H9 D (.lst (((La.mD rows).1.map V.int).take i))) rfl (λ i H8 _ e8=>by rw[e8];exact jO.of (by rw[jA (jB h9 hD)];exact h9)) ?_ ?_⟩
   ·rintro i x H8 hi rfl;obtain⟨ra,er,rfl⟩:=lC hi;obtain⟨row,eo,Hr⟩:=R9.get er;have Q5:=t2 row (aq eo);have hin:i<rows.length:=by rw[<-t1];exact (ao.mp eo).1
    refine⟨rfl,?_⟩;have gl:(row.map V.int)[rows.length]? = some (.int (row.getD rows.length 0)):=by
     rw[ai,af (by omega),aa,af (by omega)];rfl
    refine⟨_,rfl,_,rfl,ra,_,-1,.int (row.getD rows.length 0),rfl,rfl,jO.of (by rw[jA (jB Hr hD)];exact Hr),(TM (by rw[ah,Q5])).trans gl,_,ju,by rw[aR,sizeLine_eq];omega,?_⟩;rw[kh,take_snoc (l:=(La.mD rows).1.map V.int) (x:=V.int (row.getD rows.length 0)) (by
     unfold La.mD;rw[ai,ai,eo];rfl)]
   ·rintro H8 rfl;rw[ah,show ((La.mD rows).1.map V.int).take Wr.length=(La.mD rows).1.map V.int from aA (by rw[ah,R9.len];unfold La.mD;rw[ah];exact au _)];have k1:=jz (o:=.lst ((La.mD rows).1.map V.int)) hD;refine⟨_,rfl,?_⟩;intro x dx hx hdx hne;refine⟨x,dx,_,_,rfl,ju,?_⟩;rw[kh];have k2:=qf (u:=.own x) (v:=.ins t.nL dx (Rr (.ref D) (.int (La.jS rows rows.length).2))) hx hdx;exact⟨rfl,h x _ ((k9.trans k1).trans k2) ((k9.trans k1).free hx) ⟨dx,D,ju,jO.of (k2 _ _ ju)⟩⟩
structure Ws(K:aj)(t:Adr)(H:Hp)(q:Addr)(jr:List (List Fq.kZ))(ends:List Int):Prop where
 ex:∃dq ol el ls,H q=some (.ins t.mF dq (NK (.ref ol) (.ref el)))/\H ol=some (.lst (ls.map V.ref))/\Ea (NL t H) ls jr/\jO K H el (ends.map V.int)
theorem Ws.same{H H':Hp}{q:Addr}{jr:List (List Fq.kZ)}{ends:List Int}(h:Ws K t H q jr ends)(k:jF H H'):Ws K t H' q jr ends:=by
 obtain⟨dq,ol,el,ls,h1,h2,h3,h4⟩:=h.ex
 exact⟨dq,ol,el,ls,k _ _ h1,k _ _ h2,h3.mono λ x a h=>h.same k,k.seq h4⟩
theorem vC{H:Hp}{D:Addr}{row:List Int}{j:Nat}{z:Int}:upd H D (.lst ((row.map V.int).set j (.int z)))=upd H D (.lst ((row.set j z).map V.int)):=by rw[List.map_set]
theorem Ek{n i:Nat}(h:i<n):KW n (i:Int)=some i:=by
 unfold KW;rw[if_pos (by omega),if_pos (by omega),bZ]
theorem Q6{n:Nat}:KW (n+1) (-1)=some n:=by
 unfold KW;rw[if_neg (by decide),if_pos (by omega)]
 congr 1
 omega
theorem IW{α:Type}(x:α):∀n,(aJ n [x]).flatten=aJ n x
 |0=>rfl
 |n+1=>by rw[cU,dY,IW x n];rfl
def IX(K:aj)(t:Adr):Sp:=λ vs H Q _=>∃(q pl:Addr) (place n:Nat) (jr:List (List Fq.kZ)) (ends jC:List Int),vs=[.ref q,.ref pl,.int (place:Int)]/\Ws K t H q jr ends/\jO K H pl (jC.map V.int)/\jr.length=n/\ends.length=n/\n<=16/\place<n/\La.Fits jr n jC/\(∀os∈jr,∀o∈os,Small o n) /\
 ∀D H',jF H H'->H D=none->H' D=some (.lst ((La.LC n place (jr.getD place []) (ends.getD place 0) (jC.getD place 0).toNat).map V.int))->Q (.ref D) H'
theorem IY(T:Txt K mg t):Ok P w K mg base 1 t.uD t.tu ["self","plan","place"] (IX K t):=by
 refine T.xj.fn.rm nB (λ vs H Q E h=>?_) λ cdv A outer s H vs Q E hr h=>?_
 ·obtain⟨q,pl,place,n,jr,ends,jC,rfl,_⟩:=h;rfl
 ·obtain⟨q,pl,place,n,jr,ends,jC,rfl,⟨dq,ol,el,ls,q1,q2,W,q4⟩,hpl,hon,hen,hn,hp,F,S,h⟩:=h
  refine⟨_,jv (jV (i:=3) nB.nd rfl (Or.inl rfl) (kP Vq (mV (jt jL jw)) (kP Cn (kj jY (by rfl) T.qE nN (jt (pv 1) jw)) jL)))<|
   jv (qR (l6 yb (kj jY (by rfl) T.qE nN (jt (mi (Gj K) (jX K (pv 0) rfl) (pv 2) (λ _ _=>rfl)) jw)) jL (kH _))
    (jv (yP jL (yO (pv 3) (pv 2) set_list))<|
      jv (yP (mi (Gj K) (jX K (pv 0) rfl) (pv 2) (λ _ _=>rfl)) (yO (pv 3) (Cm yR jL) set_list))<|
      jy (jP (pv 3))) ny)<|
   jv (jV (i:=4) nB.nd rfl (Or.inl rfl) (mi (Gj K) (mi (Gj K) (jX K (pv 0) rfl) (pv 2) (λ _ _=>rfl)) (mi (Gj K) (pv 1) (pv 2) (λ _ _=>rfl)) (λ _ _=>rfl)))<|
   jv (yP (jX K (pv 4) rfl) (yO (pv 3) (pv 2) set_list))<|
   jv (oN nj rfl (kL (jX K (pv 4) rfl)) (j8 (i:=5) nB.nd rfl (Or.inl rfl))
    (jy (RH (pv 3) (mi (QB K) (pv 5) jL (λ _ _=>rfl)) Pr (mi (QB K) (pv 5) jL (λ _ _=>rfl)) Vd set_list)))<|
   jv (yP (kP u4 (jX K (pv 4) rfl) (jX K (pv 4) rfl)) (yO (pv 3) (Cm yR jL) set_list))<|
   jy (jP (pv 3)),?_⟩
  have lp:(jC.map V.int).length=n:=by rw[ah,F.len]
  refine⟨by rw[sizeLine_eq];simp,λ L0 hL0=>?_⟩;have k0:=jz (o:=.lst [V.int 0]) hL0;refine⟨_,rfl,pl,_,rfl,.inl (jF.seq k0 hpl),_,_,rfl,rfl,L0,_,_,rfl,rfl,ju,by rw[lp];omega,by rw[lp];omega,?_,λ D hD=>?_⟩
  ·rw[lp,sizeLine_eq];show 1*((n:Int)+1).toNat<=_;omega
  have e0:(aJ (((jC.map V.int).length:Int)+1).toNat [V.int 0]).flatten=(aJ (n+1) (0:Int)).map V.int:=by
   rw[lp,IW,List.map_replicate]
   congr 1
  rw[e0];have k1:=k0.trans (jz (o:=.lst ((aJ (n+1) (0:Int)).map V.int)) hD);have d1:(upd (upd H L0 (.lst [V.int 0])) D (.lst ((aJ (n+1) (0:Int)).map V.int))) D=some (.lst ((aJ (n+1) (0:Int)).map V.int)):=ju;have hD0:H D=none:=k0.free hD;generalize upd (upd H L0 (.lst [V.int 0])) D (.lst ((aJ (n+1) (0:Int)).map V.int))=H1 at *
  have put:∀{H9:Hp} {o:HO},jF H H9->jF H (upd H9 D o):=λ {H9 o} k b u e=>by rw[jA (jB e hD0)];exact k b u e
  obtain⟨os,eo⟩:∃os,jr[place]? = some os:=⟨_,af (by omega)⟩
  obtain⟨la,Zd,as,l1,l2⟩:=W.at_ place os eo;have go:jr.getD place []=os:=by rw[aa,eo];rfl
  rw[go] at h;refine⟨_,rfl,q,_,dq,_,_,rfl,k1 _ _ q1,T.mT.cl,T.nq,tO _ _,_,rfl,ol,_,_,.ref la,rfl,rfl,jO.of (k1 _ _ q2),qg (by rw[ai,Zd];rfl),la,_,rfl,.inl (jO.of (k1 _ _ l1)),rfl,_,rfl,?_⟩;rw[ah,l2.len]
  by_cases h0:os.length=0
  ·refine t9 (by rw[lD];simp[h0]) ?_;refine⟨_,rfl,_,rfl,D,_,(place:Int),place,rfl,rfl,d1,Ek (by rw[ah,cJ];omega),?_⟩;rw[vC];have k2:jF H (upd H1 D (.lst (((aJ (n+1) (0:Int)).set place 1).map V.int))):=put k1;refine⟨_,rfl,q,_,dq,_,_,rfl,k2 _ _ q1,T.mT.cl,T.zQ,QT _ _,_,rfl,el,_,_,.int (ends.getD place 0),rfl,rfl,jF.seq k2 q4,oB (by omega),?_⟩;refine⟨_,rfl,_,rfl,D,_,-1,n,rfl,rfl,ju,by rw[ah,cG,cJ];exact Q6,?_⟩;rw[vC];refine⟨_,rfl,h D _ (put k2) hD0 ?_⟩;rw[ju];unfold La.LC;rw[if_pos h0]
  ·refine sP (by rw[lD];exact beq_eq_false_iff_ne.mpr (by omega)) ?_;have fit:=F.at_ place hp (by rw[go];exact h0);rw[go] at fit;obtain⟨b,hb⟩:∃b,b=(jC.getD place 0).toNat:=⟨_,rfl⟩
   rw[<-hb] at fit h;have hb2:jC.getD place 0=(b:Int):=by rw[hb];exact (gv fit.1).symm
   obtain⟨o,eb⟩:∃o,os[b]? = some o:=⟨_,af fit.2⟩
   obtain⟨ca,ec,dx,nm,wy,ps,c1,c2,c3,c4⟩:=l2.at_ b o eb;have gb:os.getD b Fq.jR=o:=by rw[aa,eb];rfl
   have So:=S os (aq eo) o (aq eb);refine⟨_,rfl,q,_,dq,_,_,rfl,k1 _ _ q1,T.mT.cl,T.nq,tO _ _,_,rfl,ol,_,_,.ref la,rfl,rfl,jO.of (k1 _ _ q2),qg (by rw[ai,Zd];rfl),_,rfl,_,rfl,pl,_,_,.int (jC.getD place 0),rfl,rfl,jF.seq k1 hpl,oB (by rw[F.len];exact hp),la,_,_,.ref ca,rfl,rfl,jO.of (k1 _ _ l1),?_,?_⟩
   ·rw[hb2];exact qg (by rw[ai,ec];rfl)
   refine⟨_,rfl,ca,_,dx,_,_,rfl,k1 _ _ c1,T.j0.cl,T.lO,qe _ _ _ _,_,rfl,_,rfl,D,_,(place:Int),place,rfl,rfl,d1,Ek (by rw[ah,cJ];omega),?_⟩;rw[vC];have k2:jF H (upd H1 D (.lst (((aJ (n+1) (0:Int)).set place o.tot).map V.int))):=put k1;have d2:(upd H1 D (.lst (((aJ (n+1) (0:Int)).set place o.tot).map V.int))) D=some (.lst (((aJ (n+1) (0:Int)).set place o.tot).map V.int)):=ju;generalize upd H1 D (.lst (((aJ (n+1) (0:Int)).set place o.tot).map V.int))=H2 at *
   have tl:∀i,(La.uO (o.ways.take i) ((aJ (n+1) (0:Int)).set place o.tot)).length=n+1:=λ i=>by rw[La.uP,cG,cJ]
   refine⟨_,rfl,ca,_,dx,_,_,rfl,k2 _ _ c1,T.j0.cl,T.mq,uW _ _ _ _,wy,rfl,⟨_,jO.of (k2 _ _ c3)⟩,ue (K:=K) (a:=wy) (xs:=ps.map V.ref) (λ i σ H9=>∃v5,σ=[some (.ref q),some (.ref pl),some (.int (place:Int)),some (.ref D),some (.ref ca),v5]/\jF H H9/\H9 D=some (.lst ((La.uO (o.ways.take i) ((aJ (n+1) (0:Int)).set place o.tot)).map V.int)))
    ⟨none,rfl,k2,d2⟩ (λ i σ H9 _ ⟨_,_,e,_⟩=>jO.of (e _ _ c3)) ?_ ?_⟩
   ·rintro i x σ H9 hi ⟨v5,rfl,k9,d9⟩;obtain⟨pa,ea,rfl⟩:=lC hi;obtain⟨wv,ew,WU⟩:=c4.get ea;have wm:=(So.ways.2 wv (aq ew)).1;refine⟨_,rfl,_,rfl,pa,_,_,.int (wv.1:Int),rfl,rfl,sQ.of (k9 _ _ WU),Tu,D,_,wv.1,.int ((La.uO (o.ways.take i) ((aJ (n+1) (0:Int)).set place o.tot)).getD wv.1 0),rfl,rfl,jO.of d9,?_,_,rfl,pa,_,_,.int (wv.2:Int),rfl,rfl,sQ.of (k9 _ _ WU),Yz,_,_,rfl,rfl,D,_,(wv.1:Int),wv.1,rfl,rfl,d9,Ek (by rw[ah,tl];omega),?_⟩
    ·rw[ai,af (by rw[tl];omega),aa,af (by rw[tl];omega)];rfl
    ·rw[vC];refine⟨_,rfl,put k9,?_⟩;rw[ju,take_snoc ew];unfold La.uO;rw[dw];rfl
   ·rintro σ H9 ⟨v5,rfl,k9,d9⟩;rw[ah,c4.len,cX] at d9;have tn:=tl o.ways.length;rw[cX] at tn;refine⟨_,rfl,ca,_,dx,_,_,rfl,k9 _ _ c1,T.j0.cl,T.oj,xD _ _ _ _,_,rfl,ca,_,dx,_,_,rfl,k9 _ _ c1,T.j0.cl,T.lO,qe _ _ _ _,_,_,rfl,rfl,?_,_,rfl,_,rfl,D,_,-1,n,rfl,rfl,d9,by rw[ah,tn];exact Q6,?_⟩
    ·have:=So.gain;left;constructor<;>omega
    ·rw[vC];refine⟨_,rfl,h D _ (put k9) hD0 ?_⟩;rw[ju];unfold La.LC;rw[if_neg h0,gb]
theorem BF(k:List Int):SeqAt.shaped (.list (k.map PyData.int))=true:=by
 unfold SeqAt.shaped
 rw[PyData.canLay0,PyData.depth,lay_ints,ze];rfl
def rEqL(K:aj):R2:=λ x y H Q=>∃(a b:Addr) (k m:List Int),x=.ref a/\y=.ref b/\jO K H a (k.map V.int)/\jO K H b (m.map V.int)/\Q (.bl (decide (k=m))) H
theorem Wt{X:Cx}(K:aj)(hu:X.A.units+64<cLine)(e:X.K=K:=by rfl):xN X (compareOp .Eq) (rEqL K):=by
 subst e
 intro pins s σ H x y v u Q I rx ry h
 obtain⟨a,b,k,m,rfl,rfl,ha,hb,q⟩:=h
 refine OI hu pins s σ H _ _ v u Q I rx ry ⟨_,_,.lst ha (Ao k),.lst hb (Ao m),BF k,BF m,?_⟩
 rw[PyData.eqv,D8];exact q
theorem Ma{j b:Nat}:∀(ws:List (Nat×Nat)) (row:List Int) (b:Nat),(∀w∈ws,w.1<row.length/\w.2<=1000000)->(row.getD j 0).natAbs<=b->((La.uO ws row).getD j 0).natAbs<=b+ws.length*1000000
 |[],row,b,_,h=>by simpa [La.uO] using h
 |w::ws,row,b,hw,h=>by
  have w0:=hw w (by simp);have:=Ma (j:=j) (b:=b) ws (row.set w.1 (row.getD w.1 0-(w.2:Int))) (b+1000000) (λ v hv=>by rw[cG];exact hw v (by simp[hv])) (by
   rw[La.lQ w0.1]
   split
   ·rename_i e;rw[<-e];omega
   ·omega)
  show ((La.uO ws (row.set w.1 (row.getD w.1 0-(w.2:Int)))).getD j 0).natAbs<=_;rw[aK];omega
theorem Q7(n j:Nat):(aJ n (0:Int)).getD j 0=0:=by
 rw[aa,fB];split<;>rfl
theorem YF{n place k j:Nat}{os:List Fq.kZ}{e:Int}(hp:place<n)(he:e.natAbs<=1000)(hk:os.length≠0->k<os.length)(S:∀o∈os,Small o n):((La.LC n place os e k).getD j 0).natAbs<2^40:=by
 unfold La.LC
 split
 ·rw[La.lQ (by simp)]
  split
  ·omega
  ·rw[La.lQ (by simp;omega)]
   split
   ·decide
   ·rw[Q7];decide
 ·rename_i h
  have So:=S _ (La.getD_mem (hk h));rw[La.lQ (by rw[La.uP];simp)]
  split
  ·obtain⟨a,b⟩:=So.gain;obtain⟨c,d⟩:=So.tot;rw[gI];have:((os.getD k Fq.jR).gain.natAbs)*((os.getD k Fq.jR).tot.natAbs)<=1000*16000000:=Nat.mul_le_mul (by omega) (by omega);omega
  ·have:=Ma (j:=j) (b:=0) (os.getD k Fq.jR).ways ((aJ (n+1) (0:Int)).set place (os.getD k Fq.jR).tot) 16000000 (λ w hw=>by
    have:=So.ways.2 w hw;rw[cG,cJ];omega) (by
    rw[La.lQ (by simp;omega)]
    split
    ·have:=So.tot;omega
    ·rw[Q7];decide)
   have:=So.ways.1;have:(os.getD k Fq.jR).ways.length*1000000<=16*1000000:=eT _ this;omega
theorem Mb{jr:List (List Fq.kZ)}{s:Nat}(h:s<jr.length):jr.getD s []∈jr:=by
 rw[aa,af h];exact aV h
structure IZ(jr:List (List Fq.kZ))(ends:List Int):Prop where
 n1:1<=jr.length
 TN:jr.length<=16
 len:ends.length=jr.length
 ends:∀e∈ends,e.natAbs<=1000
 jr:∀os∈jr,os.length<=8/\∀o∈os,Small o jr.length
theorem IZ.ways{jr:List (List Fq.kZ)}{ends:List Int}(f:IZ jr ends):∀os∈jr,∀o∈os,∀w∈o.ways,w.1<jr.length:=λ os hos o ho w hw=>(((f.jr os hos).2 o ho).ways.2 w hw).1
theorem IZ.rows{jr:List (List Fq.kZ)}{ends jC:List Int}(f:IZ jr ends)(F:La.Fits jr jr.length jC):∀i j,i<jr.length->j<=jr.length->(((La.ou jr ends jr.length jC).getD i []).getD j 0).natAbs<2^40:=λ i j hi hj=>by
 rw[La.GY hi]
 refine YF hi (f.ends _ ?_) (λ h=>(F.at_ i hi h).2) (f.jr _ (Mb hi)).2
 have hi':i<ends.length:=by rw[f.len];exact hi
 rw[aa,af hi'];exact aV hi'
theorem IZ.YG{jr:List (List Fq.kZ)}{ends jC:List Int}(f:IZ jr ends)(F:La.Fits jr jr.length jC)(hp:∀k,k<jr.length->0<La.G (La.ent (La.ou jr ends jr.length jC)) k k k) :
  IT (La.kK jr ends jr.length jC).1 (La.kK jr ends jr.length jC).2 1000:=by
 have hl:=La.B8 (jr:=jr) (ends:=ends) (n:=jr.length) (jC:=jC)
 obtain⟨z1,z2⟩:=La.Iv hl.1 hl.2 f.TN (f.rows F) hp _ (au _)
 have t1:=(La.sG hl.1 hl.2 hp _ (au _)).1
 unfold La.kK La.mD
 rw[hl.1]
 refine⟨λ x hx=>?_,z1,by decide⟩
 obtain⟨r,hr,rfl⟩:=aB.mp hx
 obtain⟨i,hi,rfl⟩:=bQ hr
 have:=z2 i jr.length (by omega) (au _)
 rw[show (La.jS (La.ou jr ends jr.length jC) jr.length).1.getD i []=(La.jS (La.ou jr ends jr.length jC) jr.length).1[i] by rw[aa,af hi];rfl] at this
 exact this
def I0(K:aj)(t:Adr):Sp:=λ vs H Q _=>∃(q pl:Addr) (jr:List (List Fq.kZ)) (ends jC:List Int) (P:List Int->Prop),vs=[.ref q,.ref pl]/\Ws K t H q jr ends/\jO K H pl (jC.map V.int)/\IZ jr ends /\
 P jC/\(∀π,P π->La.Fits jr jr.length π/\(∃u,La.Keeps (La.lU jr ends π) jr.length u)/\P (La.nextM jr ends jr.length π))/\(∃k,La.nextM jr ends jr.length (La.iter (La.nextM jr ends jr.length) k jC)=La.iter (La.nextM jr ends jr.length) k jC) /\
 ∀π x H',P π->La.nextM jr ends jr.length π = π->jF H H'->H x=none->NN K t H' x (La.kK jr ends jr.length π).1 (La.kK jr ends jr.length π).2->IT (La.kK jr ends jr.length π).1 (La.kK jr ends jr.length π).2 1000->Q (.ref x) H'
theorem Ja(T:Txt K mg t):Ok P w K mg base 4 t.uF t.tG ["self","plan"] (I0 K t):=by
 refine T.xo.fn.rm lT (λ vs H Q E h=>?_) λ cdv A outer s H vs Q E hr h=>?_
 ·obtain⟨q,pl,jr,ends,jC,P,rfl,_⟩:=h;rfl
 ·obtain⟨q,pl,jr,ends,jC,Pp,rfl,hq,hpl,f,p0,ps,⟨k,hk⟩,h⟩:=h
  have hr1:=hr.mono (show 1<=3 by decide);refine⟨_,jy (nY nj (pS Oa)
   (jv (jV (i:=2) lT.nd rfl (Or.inl rfl) (j6 T.Uw (Q4 T) hr rfl jU (jt
    (o5 (own:=[("place",3)]) rfl lT.nd (ud (by rfl) T.zX (jt (kj jY (by rfl) T.qE nN (jt (pv 1) jw)) jw)) (ko rfl) (λ _ _ _ _ _=>j8 (i:=3) lT.nd rfl (Or.inl rfl)) (λ _ _ _ _ _=>kQ)
     (λ _ _ _ _ _=>rP T.mT T.xj (IY T) hr1 jU (pv 0) (jt (pv 1)<|jt (pv 3) jw))) jw)))<|
     jv (jV (i:=4) lT.nd rfl (Or.inl rfl) (rP T.mT T.xm (IS T) hr jU (pv 0) (jt (pv 1)<|jt (pv 2) jw)))<|
     jv (qR (l6 (Wt K hr.units) (pv 4) (pv 1) (kH _)) (jy (jP (pv 2))) ny)<|
     jy (jV (i:=1) lT.nd rfl (Or.inr rfl) (pv 4)))),?_⟩
  have Pi:∀i,Pp (La.iter (La.nextM jr ends jr.length) i jC):=λ i=>by
   induction i with
   |zero=>exact p0
   |succ i ih=>rw[La.ph];exact (ps _ ih).2.2
  refine⟨λ m σ H9=>∃i Wu v2 v4,σ=[some (.ref q),some (.ref Wu),v2,none,v4]/\jF H H9/\jO K H9 Wu ((La.iter (La.nextM jr ends jr.length) i jC).map V.int)/\i<=k/\m=k-i,
   ⟨_,0,pl,none,none,rfl,jF.refl _,hpl,bq _,rfl⟩,?_⟩
  rintro m σ H9 ⟨i,Wu,v2,v4,rfl,k9,Ze,hik,rfl⟩;obtain⟨F,⟨u,Ku⟩,pn⟩:=ps _ (Pi i);have nx:La.iter (La.nextM jr ends jr.length) (i+1) jC=La.nextM jr ends jr.length (La.iter (La.nextM jr ends jr.length) i jC):=La.ph _ _ _;have hpi:=Pi i;have YH:i=k->La.nextM jr ends jr.length (La.iter (La.nextM jr ends jr.length) i jC)=La.iter (La.nextM jr ends jr.length) i jC:=λ e=>by rw[e];exact hk
  generalize La.iter (La.nextM jr ends jr.length) i jC = π at *
  have hp:=(La.Lw (La.LG f.ways F Ku) jr.length (au _)).1;have vl:=La.Dv f.ways F Ku;refine⟨true,rfl,t9 rfl ⟨λ σ H8=>∃D x,σ=[some (.ref q),some (.ref D),some (.ref x),none,some (.ref D)]/\jF H H8/\H8 D=some (.lst ((La.nextM jr ends jr.length π).map V.int))/\i<k,?_,?_⟩⟩
  ·rintro σ H8 ⟨D,x,rfl,k8,h8,lt⟩;exact⟨k-(i+1),by omega,i+1,D,_,_,rfl,k8,by rw[nx];exact jO.of h8,lt,rfl⟩
  have lp:(π.map V.int).length=jr.length:=by rw[ah,F.len]
  obtain⟨dq,ol,el,ls,q1,q2,W,q4⟩:=hq.ex;refine⟨_,rfl,Wu,_,rfl,.inl Ze,_,rfl,by rw[lp];have:=f.TN;omega,by rw[lp];have:=f.TN;omega,λ D hD=>?_⟩;rw[lp];have en:(jr.length:Int).toNat=jr.length:=by simp
  refine HJ (n:=(jr.length:Int).toNat) (λ i H8=>∃qs:List Addr,qs.length=i/\jF H9 H8/\H8 D=some (.lst (qs.map V.ref))/\Ea (λ row a=>H8 a=some (.lst (row.map V.int))/\a≠D) qs ((La.ou jr ends jr.length π).take i))
   ⟨[],rfl,jz hD,ju,Ea.nil⟩ ?_ ?_
  ·rintro j H8 hj ⟨qs,UT,k8,h8,E8⟩;rw[en] at hj;have ez:(0:Int)+(j:Int)=(j:Int):=by omega
   have K8:=k9.trans k8;refine⟨rfl,?_⟩;refine⟨_,rfl,q,dq,_,rfl,K8 _ _ q1,xJ (by decide) (by decide),_,rfl,_,rfl,q,Wu,j,jr.length,jr,ends,π,by rw[ez];rfl,hq.same K8,jF.seq k8 Ze,rfl,f.len,f.TN,hj,F,λ os hos=>(f.jr os hos).2,λ z H7 k7 hz h7=>?_⟩;have hne:z≠D:=λ e=>by rw[e,h8] at hz;cases hz
   refine⟨qs.map V.ref,k7 _ _ h8,by rw[ah,UT,sizeLine_eq];have:=f.TN;omega,qs++[z],by simp[UT],λ b u e=>?_,by rw[ju,bh];rfl,?_⟩
   ·rw[jA (jB e hD)];exact k7 _ _ (k8 _ _ e)
   ·rw[take_snoc (l:=La.ou jr ends jr.length π) (x:=La.LC jr.length j (jr.getD j []) (ends.getD j 0) (π.getD j 0).toNat) (by unfold La.ou;rw[ai,aL hj];rfl)];exact Ea.snoc (E8.mono λ x a h=>⟨by rw[jA h.2];exact k7 _ _ h.1,h.2⟩) ⟨by rw[jA hne];exact h7,hne⟩
  ·rintro H8 ⟨qs,UT,k8,h8,E8⟩;have rl:=La.B8 (jr:=jr) (ends:=ends) (n:=jr.length) (jC:=π);rw[en,aA (by rw[rl.1];exact au _)] at E8;refine⟨D,qs,La.ou jr ends jr.length π,rfl,h8,E8.mono λ x a h=>h.1,by rw[rl.1];exact f.n1,by rw[rl.1];exact f.TN,by rw[rl.1];exact rl.2,by rw[rl.1];exact f.rows F,by rw[rl.1];exact hp,λ x H7 k7 hx V7=>?_⟩;have K97:=k8.trans k7;have K7:=k9.trans K97;refine⟨_,rfl,q,dq,_,rfl,K7 _ _ q1,xJ (by decide) (by decide),_,rfl,_,rfl,q,ol,Wu,x,ls,jr,π,_,_,rfl,⟨dq,_,K7 _ _ q1⟩,K7 _ _ q2,W.mono λ x a h=>h.same K7,jF.seq K97 Ze,V7,?_,f.TN,F,λ B H6 k6 hB h6=>?_⟩
   ·rw[show (La.mD (La.ou jr ends jr.length π)).1.length=jr.length from vl.2.1];exact f.jr
   ·have K6:=K7.trans k6;refine⟨_,rfl,_,rfl,B,Wu,_,_,rfl,rfl,jO.of h6,jF.seq (K97.trans k6) Ze,_,rfl,?_⟩
    by_cases e:La.nextM jr ends jr.length π = π
    ·refine t9 (decide_eq_true e) ⟨_,rfl,h π x H6 hpi e K6 (k9.trans k8 |>.free hx) (V7.same k6) (f.YG F hp)⟩
    ·refine sP (decide_eq_false e) ⟨_,rfl,?_⟩;refine⟨B,x,rfl,K6,h6,?_⟩
     by_cases z:i=k
     ·exact absurd (YH z) e
     ·omega
def yM(os:List Fq.kZ)(jx:List Int)(bot:Int)(s:Nat):List Nat:=match os.find? (λ o=>decide (o.top jx bot=jx.getD s 0*o.tot)) with
 |some o=>32::o.name
 |none=>[]
def El(K:aj)(t:Adr):Sp:=λ vs H Q _=>∃(q va:Addr) (place:Nat) (jr:List (List Fq.kZ)) (ends jx:List Int) (bot:Int),vs=[.ref q,.int (place:Int),.ref va]/\Ws K t H q jr ends/\NN K t H va jx bot/\place<jr.length/\jx.length=jr.length/\(∀os∈jr,∀o∈os,Small o jr.length/\o.name.length<=100) /\
 ∀D H',jF H H'->H D=none->H' D=some (.lst (jZ (yM (jr.getD place []) jx bot place)))->Q (.ref D) H'
theorem Em(T:Txt K mg t):Ok P w K mg base 2 t.qX t.qD ["self","place","values"] (El K t):=by
 refine T.tH.fn.rm qy (λ vs H Q E h=>?_) λ cdv A outer s H vs Q E hr h=>?_
 ·obtain⟨q,va,place,jr,ends,jx,bot,rfl,_⟩:=h;rfl
 ·obtain⟨q,va,place,jr,ends,jx,bot,rfl,⟨dq,ol,el,ls,q1,q2,W,q4⟩,hv,hp,hl,S,h⟩:=h
  refine⟨_,jv (oN nj rfl (kL (mi (Gj K) (jX K (pv 0) rfl) (pv 1) (λ _ _=>rfl))) (j8 (i:=3) qy.nd rfl (Or.inl rfl))
    (jy (qR (l6 yb (rP T.mT T.rC (Ba T) hr jU (pv 0) (jt (pv 3)<|jt (pv 2) jw)) (kP u4 (mi (Gj K) (jX K (pv 2) rfl) (pv 1) (λ _ _=>rfl)) (jX K (pv 3) rfl)) (kH _))
     (jy (jP (kP u5 (mV (jt (kO T.GO rfl) jw)) (pU pC (by rfl) T.AS zY (jt (jX K (pv 3) rfl) jw))))) ny)))<|
   jy (jP (mV jw)),?_⟩
  obtain⟨os,eo⟩:∃os,jr[place]? = some os:=⟨_,af hp⟩
  obtain⟨la,Zd,as,l1,l2⟩:=W.at_ place os eo;have go:jr.getD place []=os:=by rw[aa,eo];rfl
  rw[go] at h;obtain⟨dv,tl,v1,v2⟩:=id hv;refine⟨_,rfl,q,_,dq,_,_,rfl,q1,T.mT.cl,T.nq,tO _ _,_,rfl,ol,_,_,.ref la,rfl,rfl,jO.of q2,qg (by rw[ai,Zd];rfl),la,rfl,⟨_,jO.of l1⟩,ue (K:=K) (a:=la) (xs:=as.map V.ref) (λ i σ H9=>∃v3,σ=[some (.ref q),some (.int (place:Int)),some (.ref va),v3]/\jF H H9 /\
    os.find? (λ o=>decide (o.top jx bot=jx.getD place 0*o.tot))=(os.drop i).find? (λ o=>decide (o.top jx bot=jx.getD place 0*o.tot)))
   ⟨none,rfl,jF.refl _,rfl⟩ (λ i σ H9 _ ⟨_,_,e,_⟩=>jO.of (e _ _ l1)) ?_ ?_⟩
  ·rintro i x σ H9 hi ⟨v3,rfl,k9,e9⟩;obtain⟨ca,ea,rfl⟩:=lC hi;obtain⟨o,N4,ho⟩:=l2.get ea;have hil:i<os.length:=(ao.mp N4).1;have hd:os.drop i=o::os.drop (i+1):=by
    rw[bC hil];rw[af hil] at N4
    cases N4;rfl
   rw[hd,fu] at e9;obtain⟨So,nl⟩:=S os (aq eo) o (aq N4);refine⟨_,rfl,q,dq,_,rfl,k9 _ _ q1,xJ (by decide) (by decide),_,rfl,_,rfl,.ref q,ca,va,o,jx,bot,rfl,ho.same k9,hv.same k9,by rw[hl];exact So,λ H8 k8=>?_⟩;have K8:=k9.trans k8;obtain⟨dx,nm,wy,ps,c1,c2,c3,c4⟩:=ho.same K8;refine⟨_,rfl,va,_,dv,_,_,rfl,K8 _ _ v1,T.mX.cl,T.om,Ar _ _,_,rfl,tl,_,_,.int (jx.getD place 0),rfl,rfl,jF.seq K8 v2,oB (by omega),_,rfl,ca,_,dx,_,_,rfl,c1,T.j0.cl,T.lO,qe _ _ _ _,_,_,rfl,rfl,?_,rfl,_,rfl,?_⟩
   ·have:=So.tot;right;constructor<;>omega
   by_cases c:o.top jx bot=jx.getD place 0*o.tot
   ·refine t9 (by rw[lD];exact beq_iff_eq.mpr c) ?_;rw[decide_eq_true c] at e9;refine⟨by rw[sizeLine_eq];simp,λ L1 YC=>?_⟩;have k7:=jz (o:=.lst [V.int 32]) YC;refine⟨_,rfl,ca,_,dx,_,_,rfl,k7 _ _ c1,T.j0.cl,T.qi,DU _ _ _ _,nm,_,rfl,.inr (sQ.of (k7 _ _ c2)),λ L2 WT=>?_⟩;have k6:=jz (o:=.lst (jZ o.name)) WT;refine⟨L1,L2,_,_,rfl,rfl,k6 _ _ ju,ju,by rw[ku,sizeLine_eq];simp;omega,λ L3 Zc=>?_⟩;have k5:=jz (o:=.lst ([V.int 32]++jZ o.name)) Zc;refine h L3 _ (((K8.trans k7).trans k6).trans k5) (((K8.trans k7).trans k6).free Zc) ?_;rw[ju];unfold yM;rw[e9];rfl
   ·refine sP (by rw[lD];exact beq_eq_false_iff_ne.mpr c) ?_;rw[decide_eq_false c] at e9;exact⟨_,rfl,K8,e9⟩
  ·rintro σ H9 ⟨v3,rfl,k9,e9⟩;rw[ah,l2.len,List.drop_length] at e9;refine⟨by rw[sizeLine_eq];simp,λ D hD=>h D _ (k9.trans (jz hD)) (k9.free hD) ?_⟩;rw[ju];unfold yM;rw[e9];rfl
theorem Wv(x:Int):(x != 0)=decide (x≠0):=by by_cases h:x=0<;>simp[h]
def Q8(K:aj)(t:Adr):Sp:=λ vs H Q _=>∃(ca ml:Addr) (o:Fq.kZ) (m:List Int),vs=[.ref ca,.ref ml]/\Kw t H o ca/\jO K H ml (m.map V.int)/\o.ways.length<=16/\(∀w∈o.ways,w.1<m.length)/\∀H',jF H H'->Q (.bl (La.vz o m)) H'
theorem Q9(T:Txt K mg t):Ok P w K mg base 1 t.zI t.yu ["choice","marks"] (Q8 K t):=by
 refine T.C5.fn.rm t8 (λ vs H Q E h=>?_) λ cdv A outer s H vs Q E hr h=>?_
 ·obtain⟨ca,ml,o,m,rfl,_⟩:=h;rfl
 ·obtain⟨ca,ml,o,m,rfl,⟨dx,nm,wy,ps,c1,c2,c3,c4⟩,hm,h16,hw,h⟩:=h
  refine⟨_,jy (jP (kj (Sx rfl) (by rfl) T.Uy PR (jt
   (o5 (own:=[("way",2)]) rfl t8.nd (kL (jX K (pv 0) rfl)) (ko rfl) (λ _ _ _ _ _=>j8 (i:=2) t8.nd rfl (Or.inl rfl)) (λ _ _ _ _ _=>kQ)
    (λ _ _ _ _ _=>mi (Gj K) (pv 1) (mi (QB K) (pv 2) jL (λ _ _=>rfl)) (λ _ _=>rfl))) jw))),?_⟩
  refine⟨_,rfl,ca,_,dx,_,_,rfl,c1,T.j0.cl,T.mq,uW _ _ _ _,wy,rfl,⟨_,jO.of c3⟩,λ D hD=>mE (K:=K) (a:=wy) (xs:=ps.map V.ref) (λ i H9=>H9=upd H D (.lst (((o.ways.map λ w=>m.getD w.1 0).map V.int).take i))) rfl (λ i H9 _ e9=>by rw[e9];exact jO.of (by rw[jA (jB c3 hD)];exact c3)) ?_ ?_⟩
  ·rintro i v H9 hi rfl;obtain⟨pa,ea,rfl⟩:=lC hi;obtain⟨wv,ew,WU⟩:=c4.get ea;have sm:=jz (o:=.lst (((o.ways.map λ w=>m.getD w.1 0).map V.int).take i)) hD;have wm:=hw wv (aq ew);refine⟨rfl,?_⟩;refine⟨_,rfl,_,rfl,pa,_,_,_,rfl,rfl,sQ.of (sm _ _ WU),Tu,ml,_,_,_,rfl,rfl,jF.seq sm hm,oB wm,_,ju,?_,?_⟩
   ·rw[aR,sizeLine_eq];simp;omega
   ·rw[kh,take_snoc (l:=(o.ways.map λ w=>m.getD w.1 0).map V.int) (x:=V.int (m.getD wv.1 0)) (by rw[ai,ai,ew];rfl)]
  ·rintro H9 rfl;rw[ah,show ((o.ways.map λ w=>m.getD w.1 0).map V.int).take ps.length=(o.ways.map λ w=>m.getD w.1 0).map V.int from aA (by rw[ah,ah,c4.len];exact au _)];refine⟨D,_,rfl,jO.of ju,?_⟩;have e:((o.ways.map λ w=>m.getD w.1 0).map λ n=>n != 0).any id=La.vz o m:=by
    unfold La.vz;rw[dO,jh]
    congr 1
    funext w
    exact Wv _
   rw[e];exact h _ (jz hD)
theorem Bc(n:Nat):(La.zeros n).length=n:=by simp[La.zeros]
theorem Ra:∀{ws:List (Nat×Nat)},(∀w∈ws,w.2<=1000)->(ws.map λ w=>w.2).sum<=ws.length*1000
 |[],_=>by simp
 |w::ws,h=>by
  have i:=Ra (ws:=ws) λ x hx=>h x (by simp[hx])
  have a:=h w (by simp);rw[aS,dB,aK];omega
theorem NR{N:Ra61.Net}(G:Fq.Good N){s:Nat}{c:Ra61.Choice}(hc:c∈Ra61.choicesOf N s){m:Int}(hm:m=0\/m = -1):Small (Fq.kX m c) N.length:=by
 obtain⟨x,hx,hc'⟩:=Fq.o9 hc
 obtain⟨a,b,d,e,f⟩:=G.ways x hx c hc'
 have wp:=Fq.Dl a λ w hw=>(d w hw).2.1
 have ws:=Ra (ws:=c.ways) λ w hw=>(d w hw).2.2
 have wt:c.weight<=16000:=by
  show (c.ways.map λ w=>w.2).sum<=16000;omega
 refine⟨?_,⟨by show (0:Int)<(c.weight:Int);omega,by show (c.weight:Int)<=16000000;omega⟩,⟨b,λ w hw=>⟨(d w hw).1,by have:=(d w hw).2.2;omega⟩⟩⟩
 show -1000<=c.gain*m/\c.gain*m<=1000
 rcases hm with rfl | rfl<;>constructor<;>omega
theorem Jb{N:Ra61.Net}(G:Fq.Good N)(s:Nat):(Ra61.choicesOf N s).length<=8:=by
 unfold Ra61.choicesOf
 cases e:N[s]? with
 |none=>simp
 |some y=>simp only[bH,dJ];exact G.few y (aq e)
theorem Jc(N:Ra61.Net)(g:Nat)(m:Int):(Fq.sF N g m).length=N.length:=by simp[Fq.sF]
theorem En{N:Ra61.Net}{g:Nat}(G:Fq.Good N){m:Int}(hm:m=0\/m = -1):∀os∈Fq.sF N g m,os.length<=8/\∀o∈os,Small o N.length:=λ os hos=>by
 obtain⟨s,_,rfl⟩:=aB.mp hos
 split
 ·exact⟨by simp,λ o ho=>by cases ho⟩
 ·refine⟨by rw[ah];exact Jb G s,λ o ho=>?_⟩
  obtain⟨c,hc,rfl⟩:=aB.mp ho;exact NR G hc hm
theorem Rb{a b:V}{m:Str}(h1:(m==("tops":Str))=false)(h2:(m==("bottom":Str))=false):(Rr a b).lookup m=none:=by
 unfold Rr
 rw[jI,if_neg (λ z=>by rw[z] at h2;exact absurd h2 (by decide)),jI,if_neg (λ z=>by rw[z] at h1;exact absurd h1 (by decide))]
 rfl
theorem Av:∀(xs bs:List (List Nat)),xs.length=bs.length->nu xs bs=(ay xs.length).flatMap λ s=>Au (xs.getD s []) (bs.getD s [])
 |[],[],_=>rfl
 |x::xs,b::bs,h=>by
  have i:=Av xs bs (by simpa using h);rw[aK,fJ,fQ,List.flatMap_map];show Au x b++nu xs bs=_;rw[i];rfl
theorem Eo{α β:Type}{f g:α->List β}:∀{l:List α},(∀x∈l,f x=g x)->l.flatMap f=l.flatMap g
 |[],_=>rfl
 |x::l,h=>by rw[fQ,fQ,h x (by simp),Eo λ y hy=>h y (by simp[hy])]
def Jd(K:aj)(t:Adr):Sp:=λ vs H Q _=>∃(va:Addr) (jx:List Int) (bot:Int),vs=[.ref va]/\NN K t H va jx bot/\jx.length<=16/\∀x H',jF H H'->H x=none->NN K t H' x (jx.map λ z=>-z) bot->Q (.ref x) H'
theorem Je(T:Txt K mg t):Ok P w K mg base 3 t.sZ t.su ["self"] (Jd K t):=by
 refine T.vN.fn.rm oU (λ vs H Q E h=>?_) λ cdv A outer s H vs Q E hr h=>?_
 ·obtain⟨va,jx,bot,rfl,_⟩:=h;rfl
 ·obtain⟨va,jx,bot,rfl,⟨dv,tl,v1,v2⟩,hn,h⟩:=h
  refine⟨_,jy (jP (CH T.mX T.xh (xH T) hr rfl jU (jt (o5 (own:=[("top",1)]) rfl oU.nd (kL (jX K (pv 0) rfl)) (ko rfl) (λ _ _ _ _ _=>j8 (i:=1) oU.nd rfl (Or.inl rfl)) (λ _ _ _ _ _=>kQ)
   (λ _ _ _ _ _=>Cm yR (pv 1)))<|jt (jX K (pv 0) rfl) jw))),?_⟩
  refine⟨_,rfl,va,_,dv,_,_,rfl,v1,T.mX.cl,T.om,Ar _ _,tl,rfl,⟨_,v2⟩,λ D hD=>mE (K:=K) (a:=tl) (xs:=jx.map V.int) (λ i H9=>H9=upd H D (.lst (((jx.map λ z=>-z).map V.int).take i))) rfl (λ i H9 _ e9=>by rw[e9];exact jF.seq (jz hD) v2) ?_ ?_⟩
  ·rintro i x H9 hi rfl;obtain⟨hi1,rfl⟩:=int_at hi;refine⟨rfl,?_⟩;refine⟨_,rfl,_,rfl,_,ju,by rw[aR,sizeLine_eq];simp;omega,?_⟩;rw[kh,take_snoc (l:=(jx.map λ z=>-z).map V.int) (x:=V.int (-(jx.getD i 0))) (by rw[ai,ai,af hi1,aa,af hi1];rfl)]
  ·rintro H9 rfl;rw[ah,show ((jx.map λ z=>-z).map V.int).take jx.length=(jx.map λ z=>-z).map V.int from aA (by rw[ah,ah];exact au _)];have k1:=jz (o:=.lst ((jx.map λ z=>-z).map V.int)) hD;refine⟨_,rfl,va,_,dv,_,_,rfl,k1 _ _ v1,T.mX.cl,T.oM,zf _ _,?_⟩;intro x dx hx hdx hne;refine⟨x,dx,_,_,rfl,ju,?_⟩;rw[kh];have k2:=qf (u:=.own x) (v:=.ins t.nL dx (Rr (.ref D) (.int bot))) hx hdx;exact⟨rfl,h x _ (k1.trans k2) (k1.free hx) ⟨dx,D,ju,jO.of (k2 _ _ ju)⟩⟩
theorem Gp(n:Nat):(La.minus n).length=n:=by simp[La.minus]
def NS(K:aj)(t:Adr):Sp:=λ vs H Q _=>∃(ml ol:Addr) (m:List Int) (ls:List Addr) (jr:List (List Fq.kZ)),vs=[.ref ml,.ref ol]/\jO K H ml (m.map V.int)/\La.pV m jr.length/\H ol=some (.lst (ls.map V.ref))/\Ea (NL t H) ls jr/\jr.length<=16/\(∀os∈jr,os.length<=8/\∀o∈os,Small o jr.length) /\
 ∀D H',jF H H'->H D=none->H' D=some (.lst ((La.rE jr m jr.length).2.map V.int))->Q (.ref D) H'
theorem Gq(T:Txt K mg t):Ok P w K mg base 2 t.yw t.wM ["marks","options"] (NS K t):=by
 refine T.xf.fn.rm lM (λ vs H Q E h=>?_) λ cdv A outer s H vs Q E hr h=>?_
 ·obtain⟨ml,ol,m,ls,jr,rfl,_⟩:=h;rfl
 ·obtain⟨ml,ol,m,ls,jr,rfl,hml,Bm,Wl,W,h16,S,h⟩:=h
  refine⟨_,jv (jV (i:=2) lM.nd rfl (Or.inl rfl) (pU pC (by rfl) T.AS zY (jt (pv 0) jw)))<|
   jv (zm (i:=3) (own:=[("mark",4)]) rfl lM.nd rfl rfl (BY lM.kind rfl rfl rfl) (kL (pv 0)) (ko rfl) (λ _ _ _ _ _=>j8 (i:=4) lM.nd rfl (Or.inl rfl)) (λ _ _ _ _ _=>kQ) (λ _ _ _ _ _=>Cm yR jL))<|
   jv (oN nj rfl (ud (by rfl) T.zX (jt (kj jY (by rfl) T.qE nN (jt (pv 0) jw)) jw)) (j8 (i:=5) lM.nd rfl (Or.inl rfl))
    (jy (oN nj rfl (xP (by rfl) T.o7 (jt (pv 1) jw)) (tQ K (i:=6) (j:=7) rfl lM.nd rfl rfl (Or.inl rfl) (Or.inl rfl))
     (jy (oN nj rfl (xP (by rfl) T.o7 (jt (pv 7) jw)) (tQ K (i:=8) (j:=9) rfl lM.nd rfl rfl (Or.inl rfl) (Or.inl rfl))
      (jy (qR (PW.pt (Oc (Ci (Lf K (mi (Gj K) (pv 2) (pv 6) (λ _ _=>rfl)))) (KJ (pS (j6 T.C5 (Q9 T) hr rfl jU (jt (pv 9)<|jt (pv 2) jw))))))
       (jv (yP jL (yO (pv 2) (pv 6) set_list))<|jy (yP (pv 8) (yO (pv 3) (pv 6) set_list))) ny)))))))<|
   jy (jP (pv 3)),?_⟩
  have mn:(m.map V.int).length=jr.length:=by rw[ah,Bm.len]
  have lsn:(ls.map V.ref).length=jr.length:=by rw[ah,W.len]
  refine⟨_,rfl,ml,_,rfl,.inl hml,λ R hR=>?_⟩;have k0:=jz (o:=.lst (m.map V.int)) hR;have r0:(upd H R (.lst (m.map V.int))) R=some (.lst (m.map V.int)):=ju;generalize upd H R (.lst (m.map V.int))=H0 at *
  refine⟨_,rfl,ml,rfl,⟨_,jF.seq k0 hml⟩,λ D hD=>mE (K:=K) (a:=ml) (xs:=m.map V.int) (λ i H9=>H9=upd H0 D (.lst (((La.minus jr.length).map V.int).take i))) rfl (λ i H9 _ e9=>by rw[e9];exact jF.seq (k0.trans (jz hD)) hml) ?_ ?_⟩
  ·rintro i x H9 hi rfl;have hi':i<jr.length:=by rw[<-mn];exact (ao.mp hi).1
   refine⟨rfl,?_⟩;refine⟨_,rfl,_,ju,by rw[aR,ah,Gp,sizeLine_eq];omega,?_⟩;rw[kh,take_snoc (l:=(La.minus jr.length).map V.int) (x:=V.int (-1)) (by unfold La.minus;rw[ai,ai,aL hi'];rfl)]
  rintro H9 rfl;rw[mn,show ((La.minus jr.length).map V.int).take jr.length=(La.minus jr.length).map V.int from aA (by rw[ah,Gp];exact au _)];have k1:=jz (o:=.lst ((La.minus jr.length).map V.int)) hD;have d1:(upd H0 D (.lst ((La.minus jr.length).map V.int))) D=some (.lst ((La.minus jr.length).map V.int)):=ju;have r1:=k1 _ _ r0;generalize upd H0 D (.lst ((La.minus jr.length).map V.int))=H1 at *
  have K1:=k0.trans k1;have hDH:H D=none:=k0.free hD;have nRD:R≠D:=jB r0 hD;refine⟨_,rfl,ml,_,rfl,.inl (jF.seq K1 hml),_,rfl,by rw[mn];omega,by rw[mn];omega,?_⟩;rw[mn];have en:(jr.length:Int).toNat=jr.length:=by simp
  have TK:∀k,La.pJ jr m jr.length (La.iter (La.nF jr jr.length) k (m,La.minus jr.length)):=λ k=>La.mS (P:=La.pJ jr m jr.length) (λ _ b=>(La.xr b).1) k _ (La.DG Bm)
  refine Ay (n:=(jr.length:Int).toNat) (λ k σ H9=>∃v5 v6 v7 v8 v9,σ=[some (.ref ml),some (.ref ol),some (.ref R),some (.ref D),none,v5,v6,v7,v8,v9]/\jF H H9/\H9 R=some (.lst ((La.iter (La.nF jr jr.length) k (m,La.minus jr.length)).1.map V.int))/\H9 D=some (.lst ((La.iter (La.nF jr jr.length) k (m,La.minus jr.length)).2.map V.int)))
   ⟨none,none,none,none,none,rfl,K1,r1,d1⟩ ?_ ?_
  ·rintro k σ H9 hk ⟨v5,v6,v7,v8,v9,rfl,k9,r9,d9⟩;have Tk:=TK k;have nx:La.iter (La.nF jr jr.length) (k+1) (m,La.minus jr.length)=La.nF jr jr.length (La.iter (La.nF jr jr.length) k (m,La.minus jr.length)):=La.ph _ _ _;rw[nx];generalize La.iter (La.nF jr jr.length) k (m,La.minus jr.length)=xk at *
   refine⟨_,rfl,ol,_,rfl,jO.of (k9 _ _ Wl),we (K:=K) (a:=ol) (xs:=ls.map V.ref) (λ i σ H8=>∃v5 v6 v7 v8 v9,σ=[some (.ref ml),some (.ref ol),some (.ref R),some (.ref D),none,v5,v6,v7,v8,v9]/\jF H H8/\H8 R=some (.lst (((ay i).foldl (La.nO jr) xk).1.map V.int))/\H8 D=some (.lst (((ay i).foldl (La.nO jr) xk).2.map V.int)))
    ⟨_,_,_,_,_,rfl,k9,r9,d9⟩ (λ i σ H8 _ ⟨_,_,_,_,_,_,e,_⟩=>jO.of (e _ _ Wl)) ?_ ?_⟩
   ·rintro i x σ H8 T8 hi YB ⟨w5,w6,w7,w8,w9,rfl,k8,r8,d8⟩;obtain⟨la,el,rfl⟩:=lC hi;obtain⟨os,eo,as,l1,l2⟩:=W.get el;have hin:i<jr.length:=(ao.mp eo).1;have go:jr.getD i []=os:=by rw[aa,eo];rfl
    obtain⟨o8,So⟩:=S os (aq eo);have Ti:La.pJ jr m jr.length ((ay i).foldl (La.nO jr) xk):=La.DC (P:=La.pJ jr m jr.length) _ _ (λ _ b hb q=>(La.xS q (jk (aF.mp hb) hin)).1) Tk;have nx2:(ay (i+1)).foldl (La.nO jr) xk=(ay os.length).foldl (La.lV os i) ((ay i).foldl (La.nO jr) xk):=by rw[iJ,dw,<-go];rfl
    rw[nx2];generalize (ay i).foldl (La.nO jr) xk=xi at *
    have k7:jF H8 (upd H8 T8 (.tup [.int (i:Nat),.ref la])):=jz YB;have K7:=k8.trans k7;have r7:=k7 _ _ r8;have d7:=k7 _ _ d8;refine AI.at ju ?_;generalize upd H8 T8 (.tup [.int (i:Nat),.ref la])=H7 at *
    refine⟨_,rfl,la,_,rfl,jO.of (K7 _ _ l1),we (K:=K) (a:=la) (xs:=as.map V.ref) (λ j σ H6=>∃v8 v9,σ=[some (.ref ml),some (.ref ol),some (.ref R),some (.ref D),none,w5,some (.int (i:Nat)),some (.ref la),v8,v9]/\jF H H6/\H6 R=some (.lst (((ay j).foldl (La.lV os i) xi).1.map V.int))/\H6 D=some (.lst (((ay j).foldl (La.lV os i) xi).2.map V.int)))
     ⟨_,_,rfl,K7,r7,d7⟩ (λ j σ H6 _ ⟨_,_,_,e,_⟩=>jO.of (e _ _ l1)) ?_ ?_⟩
    ·rintro j y σ H6 T6 hj hT6 ⟨u8,u9,rfl,k6,r6,d6⟩;obtain⟨ca,ec,rfl⟩:=lC hj;obtain⟨o,N4,ho⟩:=l2.get ec;have hjl:j<os.length:=(ao.mp N4).1;have WR:os.getD j Fq.jR=o:=by rw[aa,N4];rfl
     have sm:=So o (aq N4);have Tj:La.pJ jr m jr.length ((ay j).foldl (La.lV os i) xi):=La.DC (P:=La.pJ jr m jr.length) _ _ (λ _ b hb q=>by
      have:=(La.IB (s:=i) (j:=b) q hin (by rw[go];exact jk (aF.mp hb) hjl)).1;rw[go] at this;exact this) Ti
     have nx3:(ay (j+1)).foldl (La.lV os i) xi=La.lV os i ((ay j).foldl (La.lV os i) xi) j:=by rw[iJ,dw];rfl
     rw[nx3];generalize (ay j).foldl (La.lV os i) xi=x at *
     have k5:jF H6 (upd H6 T6 (.tup [.int (j:Nat),.ref ca])):=jz hT6;have K5:=k6.trans k5;have r5:=k5 _ _ r6;have d5:=k5 _ _ d6;refine AI.at ju ?_;generalize upd H6 T6 (.tup [.int (j:Nat),.ref ca])=H5 at *
     refine⟨_,rfl,_,rfl,R,_,_,.int (x.1.getD i 0),rfl,rfl,jO.of r5,oB (by rw[Tj.bits.len];exact hin),_,rfl,?_⟩
     by_cases z:x.1.getD i 0=0
     ·refine t9 (by rw[z];rfl) ?_;refine⟨_,rfl,_,rfl,ca,R,o,x.1,rfl,ho.same K5,jO.of r5,sm.ways.1,λ w hw=>by rw[Tj.bits.len];exact (sm.ways.2 w hw).1,λ H4 k4=>⟨_,rfl,?_⟩⟩;have r4:=k4 _ _ r5;have d4:=k4 _ _ d5;have K4:=K5.trans k4
      cases c:La.vz o x.1 with
      |true=>
       refine t9 rfl ?_;refine⟨_,rfl,_,rfl,R,_,(i:Int),i,rfl,rfl,r4,Ek (by rw[ah,Tj.bits.len];exact hin),?_⟩;rw[vC];refine⟨_,rfl,_,rfl,_,rfl,D,_,(i:Int),i,rfl,rfl,by rw[jA (Ne.symm nRD)];exact d4,Ek (by rw[ah,Tj.len];exact hin),?_⟩;rw[vC];refine⟨_,_,rfl,λ b u e=>?_,?_,?_⟩
       ·rw[jA (jB e hDH),jA (jB e hR)];exact K4 _ _ e
       ·rw[jA nRD,ju];unfold La.lV;rw[if_pos ⟨z,by rw[WR];exact c⟩]
       ·rw[ju];unfold La.lV;rw[if_pos ⟨z,by rw[WR];exact c⟩]
      |false=>
       refine sP rfl ?_;have e:La.lV os i x j=x:=by
        unfold La.lV;rw[if_neg λ q=>by rw[WR,c] at q;exact absurd q.2 (by decide)]
       rw[e];exact⟨_,_,rfl,K4,r4,d4⟩
     ·refine sP (by rw[show (x.1.getD i 0 != 0)=true from bne_iff_ne.mpr z];rfl) ?_;refine sP rfl ?_;have e:La.lV os i x j=x:=by
       unfold La.lV;rw[if_neg λ q=>z q.1]
      rw[e];exact⟨_,_,rfl,K5,r5,d5⟩
    ·rintro σ H6 ⟨u8,u9,rfl,k6,r6,d6⟩;rw[ah,l2.len] at r6 d6;exact⟨_,_,_,_,_,rfl,k6,r6,d6⟩
   ·rintro σ H8 ⟨w5,w6,w7,w8,w9,rfl,k8,r8,d8⟩;rw[lsn] at r8 d8;exact⟨_,_,_,_,_,rfl,k8,r8,d8⟩
  ·rintro σ H9 ⟨v5,v6,v7,v8,v9,rfl,k9,r9,d9⟩;rw[en] at d9;exact⟨_,rfl,h D H9 k9 hDH d9⟩
def Jf(s:Ra61.State):Bool:=s.choices.any λ c=>decide (c.gain<1)
def EY(s:Ra61.State):List Bool:=s.choices.map λ c=>decide (c.gain<1)
def Ep(N:Ra61.Net):Bool:=N.any Jf
def Rc(K:aj)(t:Adr):Sp:=λ vs H Q E=>∃(sl:Addr) (nX:List Addr) (N:Ra61.Net),vs=[.ref sl]/\H sl=some (.lst (nX.map V.ref))/\Ea (UM t H) nX N/\Fq.Good N /\
 if Ep N=true then ∀H',E (.ref t.kr) none H' else ∀H',jF H H'->Q .qZ H'
theorem Rf(T:Txt K mg t)(kb:K.In base):Ok P w K mg base 1 t.wO t.vJ ["states"] (Rc K t):=by
 refine T.zP.fn.rm oG (λ vs H Q E h=>?_) λ cdv A outer s H vs Q E hr h=>?_
 ·obtain⟨sl,nX,N,rfl,_⟩:=h;rfl
 ·obtain⟨sl,nX,N,rfl,hsl,W,G,h⟩:=h
  refine⟨_,jy (oN nj rfl (kL (pv 0)) (j8 (i:=1) oG.nd rfl (Or.inl rfl))
   (jy (qR (pS (kj (Vr rfl) (by rfl) T.Uy PR (jt
     (o5 (own:=[("choice",2)]) rfl oG.nd (kL (jX K (pv 1) rfl)) (ko rfl) (λ _ _ _ _ _=>j8 (i:=2) oG.nd rfl (Or.inl rfl)) (λ _ _ _ _ _=>kQ)
      (λ _ _ _ _ _=>nS KP (jX K (pv 2) rfl) jL (kH _))) jw)))
    (jy (vZ xl_of rfl (uY T kb) bX)) ny))),?_⟩
  refine⟨_,rfl,sl,rfl,⟨_,jO.of hsl⟩,ue (K:=K) (a:=sl) (xs:=nX.map V.ref) (λ i σ H9=>∃v1,σ=[some (.ref sl),v1,none]/\jF H H9/\(N.take i).any Jf=false)
   ⟨none,rfl,jF.refl _,rfl⟩ (λ i σ H9 _ ⟨_,_,e,_⟩=>jO.of (e _ _ hsl)) ?_ ?_⟩
  ·rintro i x σ H9 hi ⟨v1,rfl,k9,a9⟩;obtain⟨sa,ea,rfl⟩:=lC hi;obtain⟨st,es,dx,nm,cl,oY,c1,c2,c3,c4⟩:=W.get ea;have Zb:=aq es;have c8:=G.few st Zb;refine⟨_,rfl,sa,_,dx,_,_,rfl,k9 _ _ c1,T.tK.cl,T.oK,xE _ _,cl,rfl,⟨_,jO.of (k9 _ _ c3)⟩,λ D hD=>mE (K:=K) (a:=cl) (xs:=oY.map V.ref) (λ j H8=>H8=upd H9 D (.lst (((EY st).map V.bl).take j))) rfl (λ j H8 _ e8=>by rw[e8];exact jO.of (by rw[jA (jB (k9 _ _ c3) hD)];exact k9 _ _ c3)) ?_ ?_⟩
   ·rintro j y H8 hj rfl;obtain⟨ca,ec,rfl⟩:=lC hj;obtain⟨c,eo,hc⟩:=c4.get ec;obtain⟨dy,WI,wy,ps,d1,d2,d3,d4⟩:=(hc.op).same (k9.trans (jz (o:=.lst (((EY st).map V.bl).take j)) hD));have hjl:j<st.choices.length:=(ao.mp eo).1;refine⟨rfl,?_⟩;refine⟨_,rfl,ca,_,dy,_,_,rfl,d1,T.j0.cl,T.oj,xD _ _ _ _,_,_,rfl,rfl,_,ju,by unfold EY;rw[aR,sizeLine_eq];simp;omega,?_⟩;rw[kh,take_snoc (l:=(EY st).map V.bl) (x:=V.bl (decide (c.gain<1))) (by unfold EY;rw[ai,ai,eo];rfl)];rfl
   ·rintro H8 rfl;rw[ah,show ((EY st).map V.bl).take oY.length=(EY st).map V.bl from aA (by unfold EY;rw[ah,ah,c4.len];exact au _)];refine⟨D,_,rfl,jO.of ju,_,rfl,?_⟩;have ee:(EY st).any id=Jf st:=by unfold Jf EY;rw[jh];rfl
    have tk:(N.take (i+1)).any Jf=Jf st:=by
     rw[take_snoc es,List.any_append,a9,fi,iY,List.any_nil,Bool.or_false]
    cases c:Jf st with
    |true=>
     refine t9 (ee.trans c) ?_;rw[if_pos (show Ep N=true from cN.mpr ⟨st,Zb,c⟩)] at h;exact h _
    |false=>
     refine sP (ee.trans c) ?_;exact⟨_,rfl,k9.trans (jz hD),by rw[tk];exact c⟩
  ·rintro σ H9 ⟨v1,rfl,k9,a9⟩;rw[ah,W.len,cX] at a9;rw[if_neg (by unfold Ep;rw[a9];simp)] at h;exact h H9 k9
def Ru(bs:List Bool)(o:Fq.kZ):Bool:=o.ways.all λ w=>bs.getD w.1 false
theorem TQ{bs:List Bool}{i:Nat}(h:i<bs.length):Ht (bs.map V.bl) (i:Int)=some (.bl (bs.getD i false)):=by
 rw[QX (by rw[ah];exact h),ai,af h,aa,af h]
 rfl
def KC(K:aj)(t:Adr):Sp:=λ vs H Q _=>∃(ml la:Addr) (bs:List Bool) (as:List Addr) (os:List Fq.kZ),vs=[.ref ml,.ref la]/\jO K H ml (bs.map V.bl)/\H la=some (.lst (as.map V.ref))/\Ea (Kw t H) as os/\os.length<=8/\(∀o∈os,Small o bs.length) /\
 ∀D as' H',jF H H'->H D=none->H' D=some (.lst (as'.map V.ref))->(∀R:Fq.kZ->Addr->Prop,Ea R as os->Ea R as' (os.filter (Ru bs)))->Q (.ref D) H'
theorem KD(T:Txt K mg t):Ok P w K mg base 1 t.qz t.pO ["marks","choices"] (KC K t):=by
 refine T.sC.fn.rm lA (λ vs H Q E h=>?_) λ cdv A outer s H vs Q E hr h=>?_
 ·obtain⟨ml,la,bs,as,os,rfl,_⟩:=h;rfl
 ·obtain⟨ml,la,bs,as,os,rfl,hml,hla,W,h8,S,h⟩:=h
  refine⟨_,jy (jP (o5 (own:=[("choice",2)]) rfl lA.nd (kL (pv 1)) (ko rfl) (λ _ _ _ _ _=>j8 (i:=2) lA.nd rfl (Or.inl rfl))
   (λ _ _ _ _ _=>RY (pS (kj (Sy K rfl) (by rfl) T.Uz PU (jt
    (o5 (own:=[("way",3)]) rfl lA.nd (Pu K (jX K (pv 2) rfl)) (ko rfl) (λ _ _ _ _ _=>j8 (i:=3) lA.nd rfl (Or.inl rfl)) (λ _ _ _ _ _=>kQ)
     (λ _ _ _ _ _=>mi (Gj K) (pv 0) (mi (QB K) (pv 3) jL (λ _ _=>rfl)) (λ _ _=>rfl))) jw))))
   (λ _ _ _ _ _=>pv 2))),?_⟩
  refine⟨_,rfl,la,rfl,⟨_,jO.of hla⟩,λ D hD=>mE (K:=K) (a:=la) (xs:=as.map V.ref) (λ i H9=>∃as':List Addr,jF H H9/\H9 D=some (.lst (as'.map V.ref))/\∀R:Fq.kZ->Addr->Prop,Ea R as os->Ea R as' ((os.take i).filter (Ru bs)))
   ⟨[],jz hD,ju,λ _ _=>Ea.nil⟩ (λ i H9 _ ⟨_,e,_,_⟩=>jO.of (e _ _ hla)) ?_ ?_⟩
  ·rintro i x H9 hi ⟨as',k9,h9,E9⟩;obtain⟨ca,ec,rfl⟩:=lC hi;obtain⟨o,eo,ho⟩:=W.get ec;have hil:i<os.length:=(ao.mp eo).1;have sm:=S o (aq eo);obtain⟨dx,nm,wy,ps,c1,c2,c3,c4⟩:=ho.same k9;have tk:(os.take (i+1)).filter (Ru bs)=(os.take i).filter (Ru bs)++(if Ru bs o=true then [o] else []):=by
    rw[take_snoc eo,List.filter_append,cz,List.filter_nil]
   have al:as'.length<=8:=by
    rw[(E9 _ W).len];exact bf (cK _ _) (by rw[aR];omega)
   refine⟨rfl,?_⟩;refine⟨_,rfl,ca,_,dx,_,_,rfl,c1,T.j0.cl,T.mq,uW _ _ _ _,wy,rfl,⟨_,jO.of c3⟩,λ Z hZ=>mE (K:=K) (a:=wy) (xs:=ps.map V.ref) (λ j H8=>H8=upd H9 Z (.lst (((o.ways.map λ w=>bs.getD w.1 false).map V.bl).take j))) rfl (λ j H8 _ e8=>by rw[e8];exact jO.of (by rw[jA (jB c3 hZ)];exact c3)) ?_ ?_⟩
   ·rintro j v H8 hj rfl;obtain⟨pa,ea,rfl⟩:=lC hj;obtain⟨wv,ew,WU⟩:=c4.get ea;have s8:=jz (o:=.lst (((o.ways.map λ w=>bs.getD w.1 false).map V.bl).take j)) hZ;have wm:=(sm.ways.2 wv (aq ew)).1;have w16:=sm.ways.1;refine⟨rfl,?_⟩;refine⟨_,rfl,_,rfl,pa,_,_,_,rfl,rfl,sQ.of (s8 _ _ WU),Tu,ml,_,_,_,rfl,rfl,jF.seq (k9.trans s8) hml,TQ wm,_,ju,?_,?_⟩
    ·rw[aR,sizeLine_eq];simp;omega
    ·rw[kh,take_snoc (l:=(o.ways.map λ w=>bs.getD w.1 false).map V.bl) (x:=V.bl (bs.getD wv.1 false)) (by rw[ai,ai,ew];rfl)]
   ·rintro H8 rfl;rw[ah,show ((o.ways.map λ w=>bs.getD w.1 false).map V.bl).take ps.length=(o.ways.map λ w=>bs.getD w.1 false).map V.bl from aA (by rw[ah,ah,c4.len];exact au _)];have k8:jF H9 (upd H9 Z (.lst ((o.ways.map λ w=>bs.getD w.1 false).map V.bl))):=jz hZ;refine⟨Z,_,rfl,jO.of ju,_,rfl,?_⟩;have ea:(o.ways.map λ w=>bs.getD w.1 false).all id=Ru bs o:=by unfold Ru;rw[ji];rfl
    cases c:Ru bs o with
    |true=>
     refine t9 (ea.trans c) ?_;refine⟨_,rfl,_,k8 _ _ h9,by rw[ah,sizeLine_eq];omega,as'++[ca],λ b u e=>?_,?_,?_⟩
     ·rw[jA (jB e hD)];exact k8 _ _ (k9 _ _ e)
     ·rw[ju,bh];rfl
     ·intro R hR;rw[tk,if_pos c];obtain⟨a,e1,e2⟩:=hR.at_ i o eo;rw[ec] at e1
      cases e1;exact Ea.snoc (E9 R hR) e2
    |false=>
     refine sP (ea.trans c) ?_;refine⟨as',k9.trans k8,k8 _ _ h9,?_⟩;intro R hR;rw[tk,if_neg (by rw[c];simp),cF];exact E9 R hR
  ·rintro H9 ⟨as',k9,h9,E9⟩;rw[ah,W.len,cX] at E9;exact h D as' H9 k9 hD h9 E9
def xK(r:List Int):List Bool:=r.map λ z=>decide (z≠0)
theorem Jg(r:List Int)(s:Nat):(xK r).getD s false=decide (r.getD s 0≠0):=by
 unfold xK
 rw[aa,ai,aa]
 cases r[s]? <;> rfl
theorem NT(r:List Int):Ru (xK r)=La.stays r:=by
 funext o
 unfold Ru La.stays
 congr 1
 funext w
 exact Jg r w.1
def TR(K:aj)(t:Adr):Sp:=λ vs H Q _=>∃(ml ol:Addr) (m:List Int) (ls:List Addr) (jr:List (List Fq.kZ)),vs=[.ref ml,.ref ol]/\jO K H ml (m.map V.int)/\La.pV m jr.length/\H ol=some (.lst (ls.map V.ref))/\Ea (NL t H) ls jr/\jr.length<=16/\(∀os∈jr,os.length<=8/\∀o∈os,Small o jr.length)/\(∀os∈jr,∀o∈os,o.ways≠[]) /\
 ∀D qs H',jF H H'->H' D=some (.lst (qs.map V.ref))->Ea (NL t H') qs (La.BB jr m jr.length).2->Q (.ref D) H'
theorem TU(T:Txt K mg t):Ok P w K mg base 3 t.wN t.vI ["marks","options"] (TR K t):=by
 refine T.zO.fn.rm kG (λ vs H Q E h=>?_) λ cdv A outer s H vs Q E hr h=>?_
 ·obtain⟨ml,ol,m,ls,jr,rfl,_⟩:=h;rfl
 ·obtain⟨ml,ol,m,ls,jr,rfl,hml,Bm,Wl,W,h16,S,hne,h⟩:=h
  have hr1:=hr.mono (show 1<=2 by decide);refine⟨_,jv (oN nj rfl (ud (by rfl) T.zX (jt (kj jY (by rfl) T.qE nN (jt (pv 0) jw)) jw)) (j8 (i:=2) kG.nd rfl (Or.inl rfl))
    (jv (jV (i:=3) kG.nd rfl (Or.inl rfl) (j6 T.xf (Gq T) hr rfl jU (jt (pv 0)<|jt (pv 1) jw)))<|
      jv (jV (i:=4) kG.nd rfl (Or.inr rfl) (o5 (own:=[("mark",5),("number",6)]) rfl kG.nd (Gz (by rfl) T.Lq (jt (pv 0)<|jt (pv 3) jw)) (ko rfl) (λ _ _ _ _ _=>tQ K (i:=5) (j:=6) rfl kG.nd rfl rfl (Or.inl rfl) (Or.inl rfl)) (λ _ _ _ _ _=>kQ)
       (λ _ _ _ _ _=>KL (nS yb (pv 5) jL (kH _)) (Ju (nS Ul (pv 6) jL (kH _))))))<|
      jy (zm (i:=1) (own:=[("choices",7)]) rfl kG.nd rfl rfl (BY kG.kind rfl rfl rfl) (kL (pv 1)) (ko rfl) (λ _ _ _ _ _=>j8 (i:=7) kG.nd rfl (Or.inl rfl)) (λ _ _ _ _ _=>kQ)
       (λ _ _ _ _ _=>j6 T.sC (KD T) hr1 rfl jU (jt (pv 4)<|jt (pv 7) jw)))))<|
   jy (jP (pv 1)),?_⟩
  have mn:(m.map V.int).length=jr.length:=by rw[ah,Bm.len]
  have hw:∀os∈jr,∀o∈os,∀w∈o.ways,w.1<jr.length:=λ os hos o ho w qY=>(((S os hos).2 o ho).ways.2 w qY).1
  refine⟨_,rfl,ml,_,rfl,.inl hml,_,rfl,by rw[mn];omega,by rw[mn];omega,?_⟩;rw[mn];have en:(jr.length:Int).toNat=jr.length:=by simp
  have SK:∀k,La.uc jr m jr.length (La.iter (La.mZ m jr.length) k (La.ones jr.length,jr)):=λ k=>La.mS (P:=La.uc jr m jr.length) (λ _ b=>(La.uT Bm hne b).1) k _ (La.xV Bm hw)
  refine Ay (n:=(jr.length:Int).toNat) (λ k σ H9=>∃ok v2 v3 v4 qs,σ=[some (.ref ml),some (.ref ok),v2,v3,v4,none,none,none]/\jF H H9/\H9 ok=some (.lst (qs.map V.ref))/\Ea (NL t H9) qs (La.iter (La.mZ m jr.length) k (La.ones jr.length,jr)).2)
   ⟨ol,none,none,none,ls,rfl,jF.refl _,Wl,W⟩ ?_ ?_
  ·rintro k σ H9 hk ⟨ok,v2,v3,v4,qs,rfl,k9,h9,E9⟩;have Sk:=SK k;have nx:La.iter (La.mZ m jr.length) (k+1) (La.ones jr.length,jr)=La.mZ m jr.length (La.iter (La.mZ m jr.length) k (La.ones jr.length,jr)):=La.ph _ _ _;rw[nx];generalize La.iter (La.mZ m jr.length) k (La.ones jr.length,jr)=x at *
   have xl:x.2.length=jr.length:=by rw[Sk.jr,ah]
   have xs:∀os∈x.2,os.length<=8/\∀o∈os,Small o jr.length:=λ os hos=>by
    rw[Sk.jr] at hos;obtain⟨os',ho',rfl⟩:=aB.mp hos;obtain⟨a,b⟩:=S os' ho';exact⟨bf (cK _ _) a,λ o ho=>b o (aH.mp ho).1⟩
   have Tw:=La.DH (jr:=x.2) (n:=jr.length) Bm;have sx:(La.mZ m jr.length x).2=x.2.map λ os=>os.filter (La.stays (La.rE x.2 m jr.length).1):=rfl
   rw[sx];refine⟨_,rfl,_,rfl,ml,ok,m,qs,x.2,rfl,jF.seq k9 hml,by rw[xl];exact Bm,h9,E9,by rw[xl];exact h16,by rw[xl];exact xs,λ pl H8 k8 hpl p8=>?_⟩;rw[xl] at p8;generalize La.rE x.2 m jr.length=y at *
   have K8:=k9.trans k8;have yl:(y.2.map V.int).length=jr.length:=by rw[ah,Tw.len]
   have rl:(xK y.1).length=jr.length:=by unfold xK;rw[ah,Tw.bits.len]
   refine⟨_,rfl,_,rfl,ml,pl,_,_,rfl,jF.seq K8 hml,jO.of p8,λ Z hZ=>JR (K:=K) (a:=ml) (b:=pl) (xs:=m.map V.int) (ys:=y.2.map V.int) (by rw[mn,yl])
    (λ i H7=>jF H8 H7/\H7 Z=some (.lst (((xK y.1).map V.bl).take i))) ⟨jz hZ,ju⟩ (λ i H7 _ ⟨e,_⟩=>⟨jF.seq (K8.trans e) hml,jO.of (e _ _ p8)⟩) ?_ ?_⟩
   ·rintro i v u H7 T7 hi hj hT7 ⟨k7,h7⟩;obtain⟨hi1,rfl⟩:=int_at hi;obtain⟨hj1,rfl⟩:=int_at hj;have hin:i<jr.length:=by rw[<-Bm.len];exact hi1
    have k6:jF H7 (upd H7 T7 (.tup [.int (m.getD i 0),.int (y.2.getD i 0)])):=jz hT7;have h6:=k6 _ _ h7;refine AI.at ju ⟨rfl,?_⟩;generalize upd H7 T7 (.tup [.int (m.getD i 0),.int (y.2.getD i 0)])=H6 at *
    have fin:∀c:Bool,c=decide (y.1.getD i 0≠0)->∃acc,H6 Z=some (.lst acc)/\acc.length<sizeLine/\(jF H8 (upd H6 Z (.lst (acc++[V.bl c])))/\(upd H6 Z (.lst (acc++[V.bl c]))) Z=some (.lst (((xK y.1).map V.bl).take (i+1)))):=λ c hc=>by
     refine⟨_,h6,by rw[aR,ah,rl,sizeLine_eq];omega,λ b u e=>?_,?_⟩
     ·rw[jA (jB e hZ)];exact k6 _ _ (k7 _ _ e)
     ·rw[ju,take_snoc (l:=(xK y.1).map V.bl) (x:=V.bl c) (by
       rw[hc,<-Jg,ai,af (by omega),aa,af (by omega)];rfl)]
    refine⟨_,rfl,rfl,_,rfl,?_⟩
    by_cases c1:m.getD i 0=1
    ·refine t9 (by rw[lD];exact beq_iff_eq.mpr c1) ?_;have q:=Tw.old i (show m.getD i 0≠0 by rw[c1];decide);exact fin true (decide_eq_true (p:=y.1.getD i 0≠0) q).symm
    ·refine sP (by rw[lD];exact beq_eq_false_iff_ne.mpr c1) ?_;have m0:m.getD i 0=0:=(Bm.bit i).resolve_right c1;refine⟨_,rfl,_,_,rfl,rfl,fin _ ?_⟩
     by_cases c2:0<=y.2.getD i 0
     ·rw[decide_eq_true c2];exact (decide_eq_true (p:=y.1.getD i 0≠0) (Tw.at_ i hin c2).2.1).symm
     ·rw[decide_eq_false c2];refine (decide_eq_false (p:=y.1.getD i 0≠0) λ z=>?_).symm
      rcases Tw.from_ i z with q | q
      ·exact q m0
      ·exact c2 q
   rintro H7 ⟨k7,h7⟩;rw[mn,show ((xK y.1).map V.bl).take jr.length=(xK y.1).map V.bl from aA (by rw[ah,rl];exact au _)] at h7;have K7:=K8.trans k7;have E7:=E9.mono λ x a h=>h.same (k8.trans k7)
   have q7:=k7 _ _ (k8 _ _ h9);have fl:(x.2.map λ os=>os.filter (La.stays y.1)).length=jr.length:=by rw[ah,xl]
   refine⟨_,rfl,ok,rfl,⟨_,jO.of q7⟩,λ D hD=>mE (K:=K) (a:=ok) (xs:=qs.map V.ref) (λ i H6=>∃us:List Addr,us.length=i/\jF H7 H6/\H6 D=some (.lst (us.map V.ref))/\Ea (QU t H6 D) us ((x.2.map λ os=>os.filter (La.stays y.1)).take i))
    ⟨[],rfl,jz hD,ju,Ea.nil⟩ (λ i H6 _ ⟨_,_,e,_,_⟩=>jO.of (e _ _ q7)) ?_ ?_⟩
   ·rintro i v H6 hi ⟨us,TV,k6,h6,E6⟩;obtain⟨la,el,rfl⟩:=lC hi;obtain⟨os,eo,as,l1,l2⟩:=E7.get el;obtain⟨o8,So⟩:=xs os (aq eo);have hin:i<jr.length:=by rw[<-xl];exact (ao.mp eo).1
    refine⟨rfl,?_⟩;refine⟨_,rfl,_,rfl,Z,la,xK y.1,as,os,rfl,jO.of (k6 _ _ h7),k6 _ _ l1,l2.mono λ x a h=>h.same k6,o8,by rw[rl];exact So,λ z as' H5 k5 hz h5 E5=>?_⟩;rw[NT] at E5;have h5D:=k5 _ _ h6;have zD:z≠D:=λ e=>by rw[e,h6] at hz;cases hz
    have ke:(x.2.map λ os=>os.filter (La.stays y.1))[i]? = some (os.filter (La.stays y.1)):=by rw[ai,eo];rfl
    have oz:QU t H5 D (os.filter (La.stays y.1)) z:=⟨zD,as',h5,(E5 _ l2).mono λ x a h=>h.new hD (k6.trans k5)⟩
    refine⟨us.map V.ref,h5D,by rw[ah,TV,sizeLine_eq];omega,us++[z],by simp[TV],λ b u e=>?_,by rw[ju,bh];rfl,?_⟩
    ·rw[jA (jB e hD)];exact k5 _ _ (k6 _ _ e)
    ·rw[take_snoc ke];exact Ea.snoc (E6.mono λ x a h=>(QU.same h k5).put h5D) (oz.put h5D)
   ·rintro H6 ⟨us,TV,k6,h6,E6⟩;rw[ah,E9.len,xl,aA (by rw[fl];exact au _)] at E6;exact⟨D,_,_,_,us,rfl,K7.trans k6,h6,E6.mono λ x a h=>h.os⟩
  ·rintro σ H9 ⟨ok,v2,v3,v4,qs,rfl,k9,h9,E9⟩;rw[en] at E9;exact⟨_,rfl,h ok qs H9 k9 h9 E9⟩
theorem len_K{N:Ra61.Net}{g:Nat}(G:Fq.Good N):(La.jN N g).length=N.length:=by
 have e:=(La.A6 (g:=g) G).jr
 have e:La.jN N g=(Fq.sF N g (-1)).map λ os=>os.filter (La.stays (La.rN N g)):=e
 rw[e,ah,Jc]
theorem Cd{N:Ra61.Net}{g:Nat}(G:Fq.Good N):∀os∈La.jN N g,os.length<=8/\∀o∈os,Small o N.length:=λ os hos=>by
 have e:=(La.A6 (g:=g) G).jr
 have e:La.jN N g=(Fq.sF N g (-1)).map λ os=>os.filter (La.stays (La.rN N g)):=e
 rw[e] at hos
 obtain⟨os',ho',rfl⟩:=aB.mp hos
 obtain⟨a,b⟩:=En (g:=g) G (m:=-1) (.inr rfl) os' ho'
 exact⟨bf (cK _ _) a,λ o ho=>b o (aH.mp ho).1⟩
theorem Ww{N:Ra61.Net}{g:Nat}(G:Fq.Good N):IZ (La.jN N g) (La.zeros N.length):=by
 refine⟨by rw[len_K G];exact G.len.1,by rw[len_K G];exact G.len.2,by rw[len_K G,Bc],λ e he=>?_,by rw[len_K G];exact Cd G⟩
 obtain⟨_,_,rfl⟩:=aB.mp he
 decide
theorem TX{N:Ra61.Net}(h:Ep N=false):La.IG N:=λ s c hc=>by
 obtain⟨x,hx,hc'⟩:=Fq.o9 hc
 have a:=gS.mp h x hx
 have a:Jf x=false:=by simpa using a
 have b:=gS.mp a c hc'
 have:¬c.gain<1:=by simpa using b
 omega
theorem or_T{c:Bool}{A B U:Prop}(h:c=true\/(c=false/\(A->U)))(a:A):if c=true then (if true=true then A else B) else U:=by
 rcases h with rfl | ⟨rfl,h⟩
 ·rw[if_pos rfl,if_pos rfl];exact a
 ·rw[if_neg (by simp)];exact h a
theorem Rg(T:Txt K mg t):yf mg "NEVER_WORD" (.ref t.rA):=⟨_,T.GU,rfl⟩
theorem TY(z:Int)(d:Nat):Ra61.frac z d≠[]:=by
 have:∀n,Ra61.decimal n≠[]:=λ n=>by
  by_cases h:n<10
  ·rw[xX h];simp
  ·rw[Cc (by omega)];simp
 unfold Ra61.frac
 intro e
 have:=this (z.natAbs/bx z.natAbs d)
 simp[this] at e
def Rh:List Nat:=[110,101,118,101,114]
def BG(N:Ra61.Net)(g:Nat)(jx:List Int)(d:Nat)(s:Nat):List Nat:=if (Ra61.isGoal g s || !((La.jN N g).getD s []).isEmpty)=true then Ra61.frac (-(jx.getD s 0)) d++yM ((La.jN N g).getD s []) jx (d:Int) s else Rh
def sO(N:Ra61.Net)(g:Nat)(jx:List Int)(d:Nat):List (List Nat):=(ay N.length).map (BG N g jx d)
def xM(N:Ra61.Net)(g:Nat):List Nat:=Ra61.linesOf N λ s=>if Ra61.isGoal g s=true then ([48],none) else if (Ra61.sure N g).contains s=false then (Ra61.ascii "never",none) else (Ra61.toldFr (Ra61.at_ (Ra61.cheapest N g) s),Ra61.firstName N s λ c=>Ra61.staying (Ra61.sure N g) c&&c.whole (Ra61.cheapest N g)==Ra61.at_ (Ra61.cheapest N g) s)
theorem Jh{α β:Type}{f:α->β}{p:β->Bool}{r:α->Bool}:∀{l:List α},(∀x∈l,p (f x)=r x)->(l.map f).find? p=(l.find? r).map f
 |[],_=>rfl
 |x::l,h=>by
  rw[aS,fu,fu,h x (by simp)]
  cases r x
  ·exact Jh λ y hy=>h y (by simp[hy])
  ·rfl
theorem BH{α:Type}{p q r:α->Bool}:∀{l:List α},(∀x∈l,r x=(p x&&q x))->(l.filter p).find? q=l.find? r
 |[],_=>rfl
 |x::l,h=>by
  have i:=BH (p:=p) (q:=q) (r:=r) (l:=l) λ y hy=>h y (by simp[hy])
  have hx:=h x (by simp);rw[fu,hx,cz]
  cases hp:p x
  ·simpa using i
  ·rw[if_pos rfl,fu]
   cases q x
   ·simpa using i
   ·rfl
theorem Ri{N:Ra61.Net}{g:Nat}(G:Fq.Good N)(Dr:La.IG N){π:List Int}(F:La.Hg N g π)(e:La.nextM (La.jN N g) (La.zeros N.length) N.length π = π){jx:List Int}{d:Nat}(hV:La.kK (La.jN N g) (La.zeros N.length) N.length π = (jx,(d:Int))) :
  nu (N.map λ s=>s.name) (sO N g jx d)=xM N g:=by
 obtain⟨hb,hl,R,hz,hc⟩:=La.IL G Dr F e
 rw[hV] at hb hl R hz hc
 dsimp only at hb hl R hz hc
 unfold xM Ra61.linesOf
 rw[Av _ _ (by unfold sO;simp),ah]
 refine Eo λ s hs=>?_
 have hs:=aF.mp hs
 have e1:(N.map λ s=>s.name).getD s []=Ra61.nameOf N s:=by
  rw[aa,ai];rfl
 have e2:(sO N g jx d).getD s []=BG N g jx d s:=by
  unfold sO;rw[aa,ai,aL hs];rfl
 have e3:Ra61.toldFr (Ra61.at_ (Ra61.cheapest N g) s)=Ra61.frac (-(jx.getD s 0)) d:=by
  have:=(R.at (i:=s) (by rw[ah,hl];exact hs)).told;have hn:(jx.map λ z=>-z).getD s 0 = - jx.getD s 0:=by
   rw[aa,ai,af (by omega),aa,af (by omega)];rfl
  rw[hn] at this
  simpa using this
 rw[e1,e2]
 dsimp only
 unfold BG
 cases hg:Ra61.isGoal g s with
 |true=>
  have nk:¬La.Aw N g s:=λ z=>by rw[z.2] at hg;cases hg
  rw[iF,if_pos rfl,if_pos rfl,hz s hs nk,La.DO G hs hg];have f0:Ra61.frac (-0) d=[48]:=by
   unfold Ra61.frac;have:(-0:Int).natAbs.gcd d=d:=by simp
   rw[this];have d1:d/d=1:=Nat.div_self (by omega);simp[d1]
   rfl
  rw[f0];unfold Au Ra61.line yM;simp
 |false=>
  rw[fi,if_neg (show ¬(false=true) by simp)]
  by_cases hk:La.Aw N g s
  ·have ne:=La.DP G hk;have ie:((La.jN N g).getD s []).isEmpty=false:=by
    cases q:(La.jN N g).getD s [] with
    |nil=>exact absurd q ne
    |cons=>rfl
   have ct:(Ra61.sure N g).contains s=true:=by have:=hk.1;simpa using this
   rw[ie,ct,if_pos (show (!false)=true from rfl),if_neg (by simp),e3];have e4:yM ((La.jN N g).getD s []) jx (d:Int) s=match Ra61.firstName N s λ c=>Ra61.staying (Ra61.sure N g) c&&c.whole (Ra61.cheapest N g)==Ra61.at_ (Ra61.cheapest N g) s with
     |some c=>32::c
     |none=>[]:=by
    unfold yM Ra61.firstName;rw[La.xx G hs hg,Jh (r:=λ c=>c.whole (Ra61.cheapest N g)==Ra61.at_ (Ra61.cheapest N g) s) λ c hc'=>(hc s hs c (aH.mp hc').1).symm,
     BH (r:=λ c=>Ra61.staying (Ra61.sure N g) c&&c.whole (Ra61.cheapest N g)==Ra61.at_ (Ra61.cheapest N g) s) λ c hc'=>by rw[La.Cb G hc']]
    cases (Ra61.choicesOf N s).find? λ c=>Ra61.staying (Ra61.sure N g) c&&c.whole (Ra61.cheapest N g)==Ra61.at_ (Ra61.cheapest N g) s<;>rfl
   rw[e4];unfold Au Ra61.line;dsimp only
   cases Ra61.firstName N s (λ c=>Ra61.staying (Ra61.sure N g) c&&c.whole (Ra61.cheapest N g)==Ra61.at_ (Ra61.cheapest N g) s)<;>simp
  ·have ie:(La.jN N g).getD s []=[]:=by
    apply az
    intro z;exact hk (La.zc G hs z)
   have ct:(Ra61.sure N g).contains s=false:=by
    have:s ∉ Ra61.sure N g:=λ z=>hk ⟨z,hg⟩
    simpa using this
   rw[ie,ct,if_neg (by simp),if_pos rfl];have an:Ra61.ascii "never" = Rh:=by decide
   rw[an];unfold Au Ra61.line;simp
def TZ(K:aj)(t:Adr):Sp:=λ vs H Q E=>∃(g room:Int) (l:Addr) (bs:List Nat),vs=[.int g,.int room,.ref l]/\jO K H l (jZ bs)/\(∀c∈bs,c<256) /\
 if (0<=g/\g<=65535)/\bs.length<=65536/\0<=room/\room<=65536 then
  Kn (Rd.kT bs) (∀H',E (.ref t.jM) none H') (λ N=>if 2^N.length<=g.toNat then ∀H',E (.ref t.kg) none H' else
   if Ep N=true then ∀H',E (.ref t.kr) none H' else
   if room<((xM N g.toNat).length:Int) then ∀H',E (.ref t.mJ) none H' else
    ∀D H',jF H H'->H' D=some (.lst (((((xM N g.toNat).length:Nat):Int)::(xM N g.toNat).map λ(b:Nat)=>(b:Int)).map V.int))->Q (.ref D) H')
 else ∀H',E (.ref t.j9) none H'
theorem Hs(T:Txt K mg t)(kb:K.In base)(hN:base.NoSeer)(hP:P.given.tree=none):Ok P w K mg base 38 t.Bp t.zJ ["goals","room","text"] (TZ K t):=by
 refine T.FP.fn.rm lE (λ vs H Q E h=>?_) λ cdv A outer s H vs Q E hr h=>?_
 ·obtain⟨g,room,l,bs,rfl,_⟩:=h;rfl
 ·obtain⟨g,room,l,bs,rfl,hl,hb,h⟩:=h
  have hr1:=hr.mono (show 1<=37 by decide);have hr2:=hr.mono (show 2<=37 by decide);have hr3:=hr.mono (show 3<=37 by decide);have LV:=hr.mono (show 4<=37 by decide);have hr10:=hr.mono (show 10<=37 by decide);refine⟨_,jv (jV (i:=3) lE.nd rfl (Or.inl rfl) (j6 T.uG (ya T kb) hr10 rfl (jT xl_of) (jt (pv 2)<|jt (pv 1)<|jt (pv 0) jw)))<|
   jv (j5 (j6 T.zP (Rf T kb) hr1 rfl (jT xl_of) (jt (pv 3) jw)))<|
   jv (jV (i:=4) lE.nd rfl (Or.inl rfl) (j6 T.C4 (EV T) hr1 rfl jU (jt (pv 0)<|jt (pv 3) jw)))<|
   jv (jV (i:=5) lE.nd rfl (Or.inl rfl) (j6 T.zO (TU T) hr3 rfl jU (jt (pv 4)<|jt (j6 T.zN (BV T) LV rfl jU (jt (pv 4)<|jt (pv 3)<|jt (Cm yR jL) jw)) jw)))<|
   jv (jV (i:=6) lE.nd rfl (Or.inl rfl) (CH T.mT T.C7 (EX T) hr2 rfl jU (jt (pv 5)<|jt
    (o5 (own:=[("state",7)]) rfl lE.nd (kL (pv 3)) (ko rfl) (λ _ _ _ _ _=>j8 (i:=7) lE.nd rfl (Or.inl rfl)) (λ _ _ _ _ _=>kQ) (λ _ _ _ _ _=>jL)) jw)))<|
   jv (jV (i:=8) lE.nd rfl (Or.inl rfl) (rP T.mT T.xo (Ja T) LV jU (pv 6) (jt (j6 T.xf (Gq T) hr2 rfl jU (jt (pv 4)<|jt (pv 5) jw)) jw)))<|
   jv (jV (i:=9) lE.nd rfl (Or.inl rfl) (mV jw))<|
   jv (oN nj rfl (xP (by rfl) T.o7 (jt (mh T.mX T.Bu (TH T hN hP) hr jU (mh T.mX T.vN (Je T) hr3 jU (pv 8))) jw)) (tQ K (i:=10) (j:=11) rfl lE.nd rfl rfl (Or.inl rfl) (Or.inl rfl))
    (jy (qR (PW.pt (Ue (l6 yb (mi (Gj K) (pv 4) (pv 10) (λ _ _=>rfl)) jL (kH _)) (Ob (l6 Uk (kj jY (by rfl) T.qE nN (jt (mi (Gj K) (pv 5) (pv 10) (λ _ _=>rfl)) jw)) jL (kH _)))))
     (jy (j5 (Be bN cg cu rG (pv 9) (jt (kP u5 (pv 11) (rP T.mT T.tH (Em T) hr2 jU (pv 6) (jt (pv 10)<|jt (pv 8) jw))) jw))))
     (jy (j5 (Be bN cg cu rG (pv 9) (jt (pU pC (by rfl) T.AS zY (jt (kO (Rg T) rfl) jw)) jw)))))))<|
   jy (jP (j6 T.tell (TJ T kb) hr1 rfl (jT xl_of) (jt (pv 3)<|jt (pv 9)<|jt (pv 1) jw))),?_⟩
  refine⟨_,rfl,_,rfl,_,rfl,l,bs,room,g,rfl,hl,hb,?_⟩
  by_cases hin:(0<=g/\g<=65535)/\bs.length<=65536/\0<=room/\room<=65536
  case neg=>
   rw[if_neg hin] at h ⊢;exact h
  rw[if_pos hin] at h ⊢
  cases eN:Rd.kT bs with
  |none=>rw[eN] at h;exact h
  |some N=>
   rw[eN] at h;have G:=Rd.Io eN;have Nm:=Rd.Nf eN;have Nc:=Rd.J4 eN;have h:if 2^N.length<=g.toNat then ∀H',E (.ref t.kg) none H' else
     if Ep N=true then ∀H',E (.ref t.kr) none H' else
     if room<((xM N g.toNat).length:Int) then ∀H',E (.ref t.mJ) none H' else
      ∀D H',jF H H'->H' D=some (.lst (((((xM N g.toNat).length:Nat):Int)::(xM N g.toNat).map λ(b:Nat)=>(b:Int)).map V.int))->Q (.ref D) H':=h
   show if 2^N.length<=g.toNat then _ else _
   by_cases hg:2^N.length<=g.toNat
   ·rw[if_pos hg] at h ⊢;exact h
   rw[if_neg hg] at h ⊢;rintro v H0 k0 ⟨sl,nX,rfl,n0,w0⟩;refine⟨_,rfl,sl,nX,N,rfl,n0,w0,G,?_⟩
   by_cases hL:Ep N=true
   ·rw[if_pos hL] at h ⊢;exact h
   rw[if_neg hL] at h ⊢;have Dr:=TX (show Ep N=false by simpa using hL);intro H1 Zf;have n1:=Zf _ _ n0;have n2:=w0.mono λ x a h=>h.same Zf
   have k1:=k0.trans Zf;clear Zf k0 n0 w0;refine⟨_,rfl,_,rfl,g,sl,_,rfl,hin.1.1,jO.of n1,by rw[ah,n2.len];exact G.len.2,λ ml hml=>?_⟩;rw[ah,n2.len];have k2:=jz (o:=.lst ((m7 N.length g.toNat).map V.int)) hml;have m2:(upd H1 ml (.lst ((m7 N.length g.toNat).map V.int))) ml=some (.lst ((m7 N.length g.toNat).map V.int)):=ju;generalize upd H1 ml (.lst ((m7 N.length g.toNat).map V.int))=H2 at *
   have mlen:(m7 N.length g.toNat).length=N.length:=by unfold m7;simp
   refine⟨_,rfl,_,rfl,_,rfl,_,rfl,ml,sl,-1,N,g.toNat,nX,rfl,.inr rfl,jO.of m2,jO.of (k2 _ _ n1),n2.mono λ x a h=>h.same k2,G,λ ol ls H3 k3 hol3 o3 E3=>?_⟩;have T3:=Jc N g.toNat (-1);have ts:=En (g:=g.toNat) G (m:=-1) (.inr rfl);refine⟨ml,ol,Fq.m9 N g.toNat,ls,Fq.sF N g.toNat (-1),rfl,jO.of (k3 _ _ m2),by rw[T3];exact La.qc,o3,E3,by rw[T3];exact G.len.2,by rw[T3];exact ts,(La.vB G).2,λ kl qs H4 k4 o4 E4=>?_⟩;rw[T3] at E4;have E4:Ea (NL t H4) qs (La.jN N g.toNat):=E4;have Zg:=(k2.trans k3).trans k4;have ow:=len_K (g:=g.toNat) G;refine⟨_,rfl,_,rfl,sl,rfl,⟨_,jO.of (Zg _ _ n1)⟩,λ Z hZ=>mE (K:=K) (a:=sl) (xs:=nX.map V.ref) (λ i H9=>H9=upd H4 Z (.lst (((La.zeros N.length).map V.int).take i))) rfl (λ i H9 _ e9=>by rw[e9];exact jO.of (by rw[jA (jB (Zg _ _ n1) hZ)];exact Zg _ _ n1)) ?_ ?_⟩
   ·rintro i x H9 hi rfl;obtain⟨sa,ea,rfl⟩:=lC hi;have hi:i<N.length:=by rw[<-n2.len];exact (ao.mp ea).1
    refine⟨rfl,_,ju,by rw[aR,ah,Bc,sizeLine_eq];have:=G.len.2;omega,?_⟩;rw[kh,take_snoc (l:=(La.zeros N.length).map V.int) (x:=V.int 0) (by unfold La.zeros;rw[ai,ai,aL hi];rfl)]
   rintro H9 rfl;rw[ah,n2.len,show ((La.zeros N.length).map V.int).take N.length=(La.zeros N.length).map V.int from aA (by rw[ah,Bc];exact au _)];have k5:=jz (o:=.lst ((La.zeros N.length).map V.int)) hZ;have z5:(upd H4 Z (.lst ((La.zeros N.length).map V.int))) Z=some (.lst ((La.zeros N.length).map V.int)):=ju;generalize upd H4 Z (.lst ((La.zeros N.length).map V.int))=H5 at *
   intro qa dq hqa hdq hne;refine⟨qa,dq,_,_,rfl,ju,?_⟩;rw[kh];refine⟨rfl,?_⟩;have k6:=qf (u:=.own qa) (v:=.ins t.mF dq (NK (.ref kl) (.ref Z))) hqa hdq;have q6:(upd (upd H5 dq (.own qa)) qa (.ins t.mF dq (NK (.ref kl) (.ref Z)))) qa=some (.ins t.mF dq (NK (.ref kl) (.ref Z))):=ju;generalize upd (upd H5 dq (.own qa)) qa (.ins t.mF dq (NK (.ref kl) (.ref Z)))=H6 at *
   have Zh:=k5.trans k6;have E6:=E4.mono λ x a h=>h.same Zh
   have o6:=Zh _ _ o4;have QE:Ws K t H6 qa (La.jN N g.toNat) (La.zeros N.length):=⟨dq,kl,Z,qs,q6,o6,E6,jO.of (k6 _ _ z5)⟩
   have K16:=Zg.trans Zh;have m6:=Zh _ _ (k4 _ _ (k3 _ _ m2));refine⟨_,rfl,qa,dq,_,rfl,q6,xJ (by decide) (by decide),_,rfl,_,rfl,ml,kl,Fq.m9 N g.toNat,qs,La.jN N g.toNat,rfl,jO.of m6,by rw[ow];exact La.qc,o6,E6,by rw[ow];exact G.len.2,by rw[ow];exact Cd G,λ pl H7 k7 hpl p7=>?_⟩;rw[ow] at p7;have p7:H7 pl=some (.lst ((La.tM N g.toNat).map V.int)):=p7;obtain⟨ks,hks,_⟩:=La.IK (g:=g.toNat) G Dr;refine⟨qa,pl,La.jN N g.toNat,La.zeros N.length,La.tM N g.toNat,La.Hg N g.toNat,rfl,QE.same k7,jO.of p7,Ww G,La.DQ G,λ π Fπ=>by rw[ow];exact⟨Fπ.fit,La.Hh G Fπ,La.Gi G Dr Fπ⟩,by rw[ow];exact⟨ks,hks⟩,λ π va H8 Fπ eπ k8 hva V8 Z8=>?_⟩;rw[ow] at eπ V8 Z8;obtain⟨b0,vl,_⟩:=La.IL G Dr Fπ eπ;have out:=λ {jx d}=>Ri (jx:=jx) (d:=d) G Dr Fπ eπ
   clear eπ hks;generalize La.kK (La.jN N g.toNat) (La.zeros N.length) N.length π = VV at *
   obtain⟨jx,bot⟩:=VV;have b0:0<bot:=b0;have vl:jx.length=N.length:=vl;have V8:NN K t H8 va jx bot:=V8;have Z8:IT jx bot 1000:=Z8;obtain⟨d,rfl⟩:=fE (fO b0);have out:=out (jx:=jx) (d:=d) rfl;obtain⟨dv,tl,v1,v2⟩:=id V8;have K68:=k7.trans k8;have K18:=K16.trans K68;refine⟨(by show 0<=sizeLine;decide),λ wl hwl=>?_⟩;have k9:=jz (o:=.lst []) hwl;have w9:(upd H8 wl (.lst [])) wl=some (.lst []):=ju;show Jv _ _ _ _ (upd H8 wl (.lst []));generalize upd H8 wl (.lst [])=H9 at *
   refine⟨_,rfl,va,dv,_,rfl,k9 _ _ v1,Rb (by decide) (by decide),va,jx,(d:Int),rfl,V8.same k9,by rw[vl];exact G.len.2,λ nv WD k10 hnv V10=>?_⟩;obtain⟨dv',tl',w1,w2⟩:=id V10;have nl:(jx.map λ z=>-z).length=N.length:=by rw[ah,vl]
   have Z10:IT (jx.map λ z=>-z) (d:Int) 1000:=⟨λ x hx=>by
    obtain⟨y,hy,rfl⟩:=aB.mp hx;rw[Int.natAbs_neg];exact Z8.jx y hy,Z8.bot,Z8.B⟩
   refine⟨nv,dv',_,rfl,w1,Rb (by decide) (by decide),nv,jx.map λ z=>-z,d,1000,rfl,V10,by omega,Z10,by decide,by rw[nl];exact G.len.2,λ fl ws Zi k11 hfl h11 W11=>?_⟩;have dl:d<2^1000:=by have:=Z8.bot;simpa using this
   have YI:(sO N g.toNat jx d).length=N.length:=by unfold sO;simp
   have fw:∀s,s<N.length->(Ra61.frac (-(jx.getD s 0)) d).length<=2004:=λ s hs=>QY (B:=1000) (by
    rw[Int.natAbs_neg];refine Z8.jx _ ?_;have:s<jx.length:=by omega
    rw[aa,af this];exact aV this) dl
   have onm:∀os∈La.jN N g.toNat,∀o∈os,o.name.length<=16:=λ os hos o ho=>by
    obtain⟨s,c,hc,rfl⟩:=La.A8 G hos o ho;obtain⟨x,hx,hc'⟩:=Fq.o9 hc;exact Nc x hx c hc'
   have tw:∀s,s<N.length->(yM ((La.jN N g.toNat).getD s []) jx (d:Int) s).length<=17:=λ s hs=>by
    unfold yM
    split
    ·rename_i o ho
     have m:=gQ ho;have:=onm _ (Mb (by rw[ow];exact hs)) o m;rw[aK];omega
    ·simp
   have w11:=k11 _ _ (k10 _ _ w9);have S11:=(k9.trans k10).trans k11;have fwl:fl≠wl:=λ e=>by rw[e,k10 _ _ w9] at hfl;cases hfl
   refine⟨fl,_,rfl,jO.of h11,we (K:=K) (a:=fl) (xs:=ws.map V.ref) (λ i σ Rj=>∃v10 v11 us,σ=[some (.int g),some (.int room),some (.ref l),some (.ref sl),some (.ref ml),some (.ref kl),some (.ref qa),none,some (.ref va),some (.ref wl),v10,v11]/\us.length=i/\jF H8 Rj/\Kp wl Zi Rj/\Rj wl=some (.lst (us.map V.ref))/\Ea (λ bs a=>Rj a=some (.lst (jZ bs))/\a≠wl) us ((sO N g.toNat jx d).take i))
    ⟨none,none,[],rfl,rfl,S11,λ b o _ e=>e,w11,Ea.nil⟩ (λ i σ Rj _ ⟨_,_,_,_,_,_,e,_⟩=>jO.of (e _ _ fwl h11)) ?_ ?_⟩
   ·rintro i x σ Rj T12 hi hT12 ⟨v10,v11,us,rfl,TV,s12,e12,h12,YJ⟩;obtain⟨wa,ea,rfl⟩:=lC hi;obtain⟨wd,ew,Wq⟩:=W11.get ea;have hil:i<N.length:=by
     have:=(ao.mp ew).1;rw[ah,nl] at this;exact this
    have ewd:wd=Ra61.frac (-(jx.getD i 0)) d:=by
     have hi':i<jx.length:=by omega
     rw[ai,ai,af hi'] at ew;rw[aa,af hi']
     cases ew;rfl
    subst ewd;have waw:wa≠wl:=λ e=>by
     have Wq:Zi wa=some (.lst (jZ (Ra61.frac (-(jx.getD i 0)) d))):=Wq;rw[e,w11] at Wq;have z:jZ (Ra61.frac (-(jx.getD i 0)) d)=[]:=by injection Wq with q;injection q with q;exact q.symm
     exact TY _ _ (e7.mp z)
    have Zj:jF Rj (upd Rj T12 (.tup [.int (i:Nat),.ref wa])):=jz hT12;have WV:=Zj _ _ h12;have s13:=s12.trans Zj;have e13:Kp wl Zi (upd Rj T12 (.tup [.int (i:Nat),.ref wa])):=λ b o nb eb=>Zj _ _ (e12 b o nb eb)
    have E13:=YJ.mono λ x a h=>(⟨Zj _ _ h.1,h.2⟩:_/\a≠wl)
    refine AI.at ju ?_;generalize upd Rj T12 (.tup [.int (i:Nat),.ref wa])=H13 at *
    have WW:=K68.trans s13;have wk:(sO N g.toNat jx d)[i]? = some (BG N g.toNat jx d i):=by unfold sO;rw[ai,aL hil];rfl
    obtain⟨os,eo⟩:∃os,(La.jN N g.toNat)[i]? = some os:=⟨_,af (by rw[ow];exact hil)⟩
    obtain⟨la,el,as,l1,l2⟩:=E6.at_ i os eo;have go:(La.jN N g.toNat).getD i []=os:=by rw[aa,eo];rfl
    have lal:as.length=os.length:=l2.len;have o8:=(Cd G os (aq eo)).1;have fin:∀(z:Addr) (UU:Hp),jF H13 UU->UU z=some (.lst (jZ (BG N g.toNat jx d i)))->z≠wl->∃(v10 v11:Option V) (us':List Addr),[some (V.int g),some (.int room),some (.ref l),some (.ref sl),some (.ref ml),some (.ref kl),some (.ref qa),none,some (.ref va),some (.ref wl),some (.int (i:Nat)),some (.ref wa)]=[some (V.int g),some (.int room),some (.ref l),some (.ref sl),some (.ref ml),some (.ref kl),some (.ref qa),none,some (.ref va),some (.ref wl),v10,v11]/\us'.length=i+1/\jF H8 (upd UU wl (.lst (us.map V.ref++[.ref z])))/\Kp wl Zi (upd UU wl (.lst (us.map V.ref++[.ref z])))/\(upd UU wl (.lst (us.map V.ref++[.ref z]))) wl=some (.lst (us'.map V.ref))/\Ea (λ bs a=>(upd UU wl (.lst (us.map V.ref++[.ref z]))) a=some (.lst (jZ bs))/\a≠wl) us' ((sO N g.toNat jx d).take (i+1)):=λ z UU UW hz nz=>by
     refine⟨_,_,us++[z],rfl,by simp[TV],λ b u e=>?_,λ b o nb eb=>?_,by rw[ju,bh];rfl,?_⟩
     ·rw[jA (jB e hwl)];exact UW _ _ (s13 _ _ e)
     ·rw[jA nb];exact UW _ _ (e13 _ _ nb eb)
     ·rw[take_snoc wk];exact Ea.snoc (E13.mono λ bs a h=>⟨by rw[jA h.2];exact UW _ _ h.1,h.2⟩) ⟨by rw[jA nz];exact hz,nz⟩
    have mk:(Fq.m9 N g.toNat).getD i 0=if Ra61.isGoal g.toNat i=true then 1 else 0:=La.xw hil
    have YK:=WW _ _ l1;have lz:(as.map V.ref).length=os.length:=by rw[ah,lal]
    refine⟨_,rfl,_,rfl,ml,_,_,.int ((Fq.m9 N g.toNat).getD i 0),rfl,rfl,jO.of (WW _ _ m6),oB (by show i<(m7 N.length g.toNat).length;rw[mlen];exact hil),rfl,_,rfl,?_⟩
    cases hw:(Ra61.isGoal g.toNat i || !os.isEmpty) with
    |true=>
     refine or_T ?_ ?_
     ·cases hg':Ra61.isGoal g.toNat i with
      |true=>exact .inl (by rw[lD,mk,hg'];rfl)
      |false=>
       refine .inr ⟨by rw[lD,mk,hg'];rfl,λ a=>⟨_,rfl,_,rfl,kl,_,_,.ref la,rfl,rfl,jO.of (WW _ _ o6),qg (by rw[ai,el];rfl),la,_,rfl,.inl (jO.of YK),_,_,rfl,rfl,_,rfl,t9 ?_ a⟩⟩;rw[hg',fi] at hw;rw[lz]
       cases os with
       |nil=>cases hw
       |cons x r=>exact decide_eq_true (by simp)
     ·refine⟨_,rfl,.inl ⟨rfl,_,jO.of WV⟩,_,rfl,_,rfl,qa,dq,_,rfl,WW _ _ q6,xJ (by decide) (by decide),_,rfl,_,rfl,qa,va,i,La.jN N g.toNat,La.zeros N.length,jx,(d:Int),rfl,QE.same WW,V8.same s13,by rw[ow];exact hil,by rw[ow,vl],λ os hos o ho=>⟨by rw[ow];exact (Cd G os hos).2 o ho,bf (onm os hos o ho) (by decide)⟩,λ c UU UW hc h14=>?_⟩;have l1':=fw i hil;have l2':=tw i hil;refine⟨wa,c,_,_,rfl,rfl,UW _ _ (e13 _ _ waw Wq),h14,by rw[ku,ku,sizeLine_eq];omega,λ z hz=>?_⟩;have YL:=jz (o:=.lst (jZ (Ra61.frac (-(jx.getD i 0)) d)++jZ (yM ((La.jN N g.toNat).getD i []) jx (d:Int) i))) hz;have nz:z≠wl:=λ e=>by rw[e,UW _ _ WV] at hz;cases hz
      refine⟨wl,_,_,rfl,rfl,YL _ _ (UW _ _ WV),by rw[ah,TV,sizeLine_eq];have:=G.len.2;omega,?_⟩;exact fin z _ (UW.trans YL) (by rw[ju];unfold BG;rw[if_pos (by rw[go];exact hw)];unfold jZ;rw[bh]) nz
    |false=>
     obtain⟨hg',he⟩:=gg.mp hw;have he:os=[]:=by
      cases os with
      |nil=>rfl
      |cons x r=>cases he
     refine sP (by rw[lD,mk,hg'];rfl) ⟨_,rfl,_,rfl,kl,_,_,.ref la,rfl,rfl,jO.of (WW _ _ o6),qg (by rw[ai,el];rfl),la,_,rfl,.inl (jO.of YK),_,_,rfl,rfl,_,rfl,sP ?_ ?_⟩
     ·rw[lz,he];rfl
     ·refine⟨_,rfl,.inl ⟨rfl,_,jO.of WV⟩,t.rA,_,rfl,.inr (T.GV _),λ z hz=>?_⟩;have nz:z≠wl:=λ e=>by rw[e,WV] at hz;cases hz
      have YL:=jz (o:=.lst (([110,101,118,101,114]:List Int).map V.int)) hz;refine⟨wl,_,_,rfl,rfl,YL _ _ WV,by rw[ah,TV,sizeLine_eq];have:=G.len.2;omega,?_⟩;exact fin z _ YL (by rw[ju];unfold BG;rw[if_neg (by rw[go,hw];simp)];rfl) nz
   ·rintro σ Rj ⟨v10,v11,us,rfl,TV,s12,e12,h12,YJ⟩;rw[ah,W11.len,ah,nl] at TV YJ;rw[aA (by rw[YI];exact au _)] at YJ;have Wx:=K18.trans s12;refine⟨_,rfl,_,rfl,_,rfl,sl,wl,room,N,us,sO N g.toNat jx d,rfl,⟨sl,nX,rfl,Wx _ _ n1,n2.mono λ x a h=>h.same Wx⟩,h12,YJ.mono λ x a h=>h.1,YI.symm,G.len.2,λ s hs=>by have:=Nm s hs;omega,λ b hb'=>?_,?_⟩
    ·obtain⟨s,hs,rfl⟩:=aB.mp hb';have hs:=aF.mp hs;have l1:=fw s hs;have l2:=tw s hs;unfold BG
     split
     ·rw[aG];omega
     ·decide
    ·rw[out]
     by_cases hh:room<((xM N g.toNat).length:Int)
     ·rw[if_pos hh] at h ⊢;exact h
     ·rw[if_neg hh] at h ⊢;exact λ D H' kk _ e=>h D H' ((k1.trans Wx).trans kk) e
def Rk(g room:Int)(bs:List Nat):List Int:=if (0<=g/\g<=65535)/\bs.length<=65536/\0<=room/\room<=65536 then (match Rd.kT bs with
 |none=>[-2]
 |some N=>if 2^N.length<=g.toNat then [-3] else if Ep N=true then [-4] else if room<((xM N g.toNat).length:Int) then [-7] else (((xM N g.toNat).length:Nat):Int)::(xM N g.toNat).map λ(b:Nat)=>(b:Int)) else [-1]
theorem T4{H H2:Hp}{l Tb:Addr}{xs:List V}{ps:Array Value}(h:jO K H l xs)(hT:H Tb=some (.Gr ps))(same:∀b,b≠Tb->H2 b=H b):jO K H2 l xs:=by
 rcases h with (h | ⟨o,h⟩) | h
 ·exact .inl (.inl (by rw[<-h];exact same _ (oZ h hT (by intro z;cases z))))
 ·exact .inl (.inr ⟨o,by rw[<-h];exact same _ (oZ h hT (by intro z;cases z))⟩)
 ·exact .inr h
theorem Rl(T:Txt K mg t)(kb:K.In base)(hN:base.NoSeer)(hP:P.given.tree=none){A:Around}{outer:List Env}{s:Shared}{H:Hp}{l c Tb:Addr}{g room:Int}{tg tr:Tok}{bs:List Nat}{Q:VK}{E:XK}(hr:nT 44 A)(e0:AA P w K mg base A outer s H)(hl:jO K H l (jZ bs))(hb:∀c∈bs,c<256)
  (hcode:∀o fd,base.get? t.AO=some o->o.data=.func fd->fd.code=.ref c) (C:PySem.W.CodeHd base c Tb) (hT:H Tb=some (.Gr #[])) (hB:∀T,base.get? T=none->base.BuiltinsAt mg T)
  (hq:∀p H',H' p=some (.lst ((Rk g room bs).map V.int))->Q (.ref p) H') :
  codeAny (model P w) A (.call (.ref t.AO) ⟨[.int g tg,.int room tr,.ref l],[]⟩) (CR (yT P w) outer P w H s Q E) s:=by
 obtain⟨oc,od,kV,doc,pm,an,cdv,ct,osl,efd,lk,hcd⟩:=T.cost.fn.ex
 have KX:K.In s.heap:=kb.keeps λ b o e=>(e0.bs b o e).1
 have hbd:=T.cost.bd s [.int g tg,.int room tr,.ref l] KX rfl
 rw[efd] at hbd lk
 have hc:=hcode _ _ (kb _ _ lk) rfl
 refine Pf (vs:=[.int g,.int room,.ref l]) (us:=[.int g tg,.int room tr,.ref l]) (E:=E) lk hcd SE rfl hr e0 hbd (.cons ⟨_,rfl⟩ (.cons ⟨_,rfl⟩ (.cons rfl .nil))) λ s1 hr1 I kp=>?_
 refine wpAny_execs_cons (wpAny_Return_some (wpAny_Call_Name_kw (u3 I rfl T.answer.mg ?_)))
 have frees:∀y:Str×NameKind,y∈[(("goals":Str),NameKind.free),("room",.free),("text",.free),("tell_cost",.globalImplicit)]->y.2=.free->y.1∈[("goals":Str),"room","text"]:=by
  intro y hy e;simp only[aC,dH,or_false] at hy
  rcases hy with rfl | rfl | rfl | rfl<;>first | (simp;done) | cases e
 have cells:∀x:Str,x∈[("goals":Str),"room","text"]->∃c,(envOfC "cost" (jD CP) s.heap.objs.size t.AO cdv).cells.lookup x=some c:=λ x hx=>by
  simp only[aC,dH,or_false] at hx
  rcases hx with rfl | rfl | rfl
  ·exact I.ok.has "goals" (.inl rfl)
  ·exact I.ok.has "room" (.inl rfl)
  ·exact I.ok.has "text" (.inl rfl)
 refine fz (h₀:=base) kb T.answer.fn.kp (Ss (Pj I hc C hT hB ?_ rfl λ p c' pm' ctv s2 H2 ho VH ks I2 same grown=>?_))
 ·intro y hy e
  exact cells _ (frees y (by simpa [or_comm,or_left_comm,or_assoc] using hy) e)
 refine⟨I2.Jj,wpAny_call (codeAny_mono (Kv (E:=E0) (Q:=Q) T kb hr1 I2.RO ho rfl λ Wh A1 s3 hrA e3 kp3=>?_) λ r s' h=>?_)⟩
 ·have rec3:s3.heap.CodeRec (.ref c') ((envOfC "cost" (jD CP) s.heap.objs.size t.AO cdv).qual ++ "<lambda>"):=by
   obtain⟨c2,oc,vs,tq,e1,e2,e4,e5⟩:=VH;exact⟨c2,oc,vs,tq,e1,kp3 _ _ e2,e4,e5⟩
  refine Sm (k:=41) (vs:=[.int g,.int room,.ref l]) hrA (XI.of (vs:=[.int g,.int room,.ref l]) I2 rfl ?_ ?_ ?_ ?_ kp3) e3 (kp3 _ _ ho) rfl rec3 rfl rfl rfl (λ hrk=>j6 T.FP (Hs T kb hN hP) (hrk.mono (by decide)) rfl (jT VF) (jt (pv 0)<|jt (pv 1)<|jt (pv 2) jw)) ?_
  ·decide
  ·intro y hy e;exact cells _ (frees y (by simpa [or_comm,or_left_comm,or_assoc] using hy) e)
  ·intro x hx;have hx:x∈[("goals":Str),"room","text"]:=hx;simp only[aC,dH,or_false] at hx
   rcases hx with rfl | rfl | rfl<;>rfl
  ·intro x hx;have hx:x∈[("goals":Str),"room","text"]:=hx;simp only[aC,dH,or_false] at hx
   rcases hx with rfl | rfl | rfl<;>rfl
  ·refine⟨_,rfl,_,rfl,_,rfl,g,room,l,bs,rfl,T4 hl hT same,hb,?_⟩;unfold Rk at hq
   by_cases h1:(0<=g/\g<=65535)/\bs.length<=65536/\0<=room/\room<=65536
   ·rw[if_pos h1] at hq ⊢
    cases e:Rd.kT bs with
    |none=>
     rw[e] at hq;exact λ H'=>⟨-2,.text,λ q hq'=>hq q _ ju⟩
    |some net=>
     rw[e] at hq;dsimp only at hq;show if 2^net.length<=g.toNat then _ else _
     by_cases h2:2^net.length<=g.toNat
     ·rw[if_pos h2] at hq ⊢;exact λ H'=>⟨-3,.goal,λ q hq'=>hq q _ ju⟩
     rw[if_neg h2] at hq ⊢
     by_cases hL:Ep net=true
     ·rw[if_pos hL] at hq ⊢;exact λ H'=>⟨-4,.gain,λ q hq'=>hq q _ ju⟩
     rw[if_neg hL] at hq ⊢
     by_cases h3:room<((xM net g.toNat).length:Int)
     ·rw[if_pos h3] at hq ⊢;exact λ H'=>⟨-7,.room,λ q hq'=>hq q _ ju⟩
     rw[if_neg h3] at hq ⊢;exact λ q H' sm hp=>hq q H' hp
   ·rw[if_neg h1] at hq ⊢;exact λ H'=>⟨-1,.range,λ q hq'=>hq q _ ju⟩
 ·cases r with
  |error e=>
   obtain⟨_,_,_,_,_,_,_,_,_,_,_,_,_,_,z⟩:=h;exact z.elim
  |ok f=>
   cases f with
   |ret u=>
    obtain⟨v,H',J,rv,q⟩:=I2.after h;exact⟨v,H',J.os,J.bare,J.base,J.hok,rv,q⟩
   |next=>exact False.elim h
   |brk=>exact False.elim h
   |cont=>exact False.elim h
end
end Ck
end
noncomputable section
namespace Ck
open PySem PySem.Spec PyProof.Rows L2
open PySem.W (OpenSpec WData)
theorem T5(g room:Int)(ns:List Int)(h:ns.length<=65536):PyRa61.cost g room ns=Rk g room (ns.map eW):=by
 have hn:(ns.map eW).length<=65536:=by rw[ah];exact h
 show (Ra61.answer (.cost (Ra61Neutral.nats ns) (ns.length:Int) g room)).value::Ra61Neutral.ints (Ra61.answer (.cost (Ra61Neutral.nats ns) (ns.length:Int) g room)).out=_
 have e:Ra61.answer (.cost (Ra61Neutral.nats ns) (ns.length:Int) g room)=if (Ra61.inside (ns.length:Int) 0 Ra61.MOST&&(Ra61.inside g 0 65535&&Ra61.inside room 0 Ra61.ROOM))=false then Ra61.only (-1) else
   Ra61.onGoals (Ra61Neutral.nats ns) g λ N=>if (N.any λ s=>s.choices.any λ c=>decide (c.gain<1))=true then Ra61.only (-4) else Ra61.said room (xM N g.toNat):=rfl
 rw[e]
 unfold Rk
 have hin:(Ra61.inside (ns.length:Int) 0 Ra61.MOST&&(Ra61.inside g 0 65535&&Ra61.inside room 0 Ra61.ROOM))=true↔(0<=g/\g<=65535)/\(ns.map eW).length<=65536/\0<=room/\room<=65536:=by
  unfold Ra61.inside Ra61.MOST Ra61.ROOM;simp only[aU,decide_eq_true_eq,ah]
  omega
 by_cases q:(0<=g/\g<=65535)/\(ns.map eW).length<=65536/\0<=room/\room<=65536
 ·rw[if_pos q,if_neg (by rw[hin.mpr q];simp),<-Rd.PF]
  unfold Ra61.onGoals Ra61.onNet;show (match Ra61.net (ns.map eW) with | none=>_ | some N=>_:Ra61.Ans).value::Ra61Neutral.ints (match Ra61.net (ns.map eW) with | none=>_ | some N=>_:Ra61.Ans).out=_
  cases eN:Ra61.net (ns.map eW) with
  |none=>rfl
  |some N=>
   dsimp only;have G:Fq.Good N:=Rd.Io (by rw[<-Rd.PF];exact eN)
   by_cases h2:2^N.length<=g.toNat
   ·rw[if_pos h2,if_pos h2];rfl
   ·rw[if_neg h2,if_neg h2]
    by_cases hL:Ep N=true
    ·have hL':(N.any λ s=>s.choices.any λ c=>decide (c.gain<1))=true:=hL;rw[if_pos hL,if_pos hL'];rfl
    have hL':¬(N.any λ s=>s.choices.any λ c=>decide (c.gain<1))=true:=hL;rw[if_neg hL,if_neg hL'];show (Ra61.said room (xM N g.toNat)).value::Ra61Neutral.ints (Ra61.said room (xM N g.toNat)).out=_;unfold Ra61.said
    by_cases h3:room<((xM N g.toNat).length:Int)
    ·rw[if_pos h3,if_pos h3];rfl
    ·rw[if_neg h3,if_neg h3];rfl
 ·rw[if_neg q,if_pos (by
   cases z:(Ra61.inside (ns.length:Int) 0 Ra61.MOST&&(Ra61.inside g 0 65535&&Ra61.inside room 0 Ra61.ROOM)) with
   |false=>rfl
   |true=>exact absurd (hin.mp z) q)]
  rfl
end Ck
end
noncomputable section
namespace Ck
open PySem PySem.Spec PyProof.Rows L2
open PySem.W (OpenSpec WData)
abbrev row:=cH
theorem Ji:nT 44 callerA:=⟨rfl,by decide,by decide⟩
theorem Wy{K:aj}{h:Heap}{T:Addr}(KX:K.In h)(hT:h.get? T=some (iU #[]))(hn:PySem.W.noTabs K=true):K.lookup T=none:=by
 cases e:K.lookup T with
 |none=>rfl
 |some o=>
  have e2:=KX _ _ e;rw[hT] at e2
  cases e2;have h2:=bz.mp hn (T,iU #[]) (PySem.W.mem_of_lookupK e);exact absurd (show false=true from h2) aP
theorem Rm{ns:List Int}(h:∀x∈ns,0<=x):jZ (ns.map eW)=ns.map V.int:=by
 unfold jZ
 rw[dO]
 refine iX λ x hx=>?_
 have:=h x hx
 show V.int ((x.toNat:Nat):Int)=V.int x
 rw[gv this]
theorem KG(said:row.wellSaid=true){args:List WData}(hpre:row.pre args=true):∃(g room:Int) (ns:List Int),ns.length<=65536/\(∀x:Int,x∈ns->(0:Int)<=x/\x<=(255:Int))/\args=[.int g,.int room,.list (ns.map .int)] /\
  ∀d ds,d=.list ((PyRa61.cost g room ns).map .int)->row.claim.post [.int g,.int room,.list (ns.map .int)] d ds=true:=by
 obtain⟨⟨g,room,ns,u0⟩,hw,_,rfl⟩:=(OpenSpec.pre_iff said args).mp hpre
 have hw1:(fc (-2147483648) 2147483647 g&&(fc (-2147483648) 2147483647 room&&(PySem.W.Codec.inList 0 65536 (fc 0 255) ns&&true)))=true:=hw
 simp only[aU] at hw1
 have hw2:(PySem.W.Codec.inLen 0 65536 ns&&ns.all (fc 0 255))=true:=hw1.2.2.1
 rw[aU] at hw2
 exact⟨g,room,ns,(PySem.W.Codec.inNat_iff.mp hw2.1).2,λ x hx=>PySem.W.Codec.inInt_iff.mp (bz.mp hw2.2 x hx),rfl,λ d ds e=>(OpenSpec.post_iff said hw d ds).mpr e⟩
theorem NU(said:row.wellSaid=true){w:World}{s₀ s₁:Shared}{mg mb:Str->Option Value}{q:Program}{loose:List Str}{mean:ExcName->Option Value}{K:aj}(KX:K.In s₁.heap)(Tp:Top q loose mean mg mb s₁.heap){t:Adr}(T:Txt K mg t)(hi:importsNone q=true)
  (hq:((recsOf q).find? λ d=>d.name==("cost":Str)).isSome=true) (hnt:PySem.W.noTabs K=true) {fa:Addr} (hmg:mg "cost" = some (.ref fa)) (hg:s₁.gens = #[]) {args:List WData} {vals:List Value} (hpre:row.pre args=true) (hwl:PySem.W.WellAll w.params s₁.heap vals args) :
  wpAny (model row.prog w) callerA (PySem.call (.ref fa) vals) (λ v s'=>PySem.W.GoodWG row.claim (classAt s₀.heap) (ExcName.means s₀.heap) args s₁ (.ok (.ret v)) s')
   (λ e s'=>PySem.W.GoodWG row.claim (classAt s₀.heap) (ExcName.means s₀.heap) args s₁ (.error e) s') s₁:=by
 obtain⟨g,room,ns,hlen,hall,rfl,post⟩:=KG said hpre
 obtain⟨tg,tr,l,vs,rfl,hobj,hints⟩:∃tg tr l vs,vals=[Value.int g tg,Value.int room tr,Value.ref l]/\s₁.heap.get? l=some { cls:=.type "list",data:=.seq vs.toArray }/\IntsAre vs ns:=by
  cases hwl with
  |cons w1 w2=>
   cases w2 with
   |cons w3 w4=>
    cases w4 with
    |cons w7 w8=>
     cases w8
     cases w1;cases w3
     cases w7 with
     |list ho hall=>exact⟨_,_,_,_,rfl,ho,Att.BK ns _ hall⟩
 obtain⟨d,hd⟩:=gZ.mp hq
 have hdn:d.name=("cost":Str):=beq_iff_eq.mp (List.find?_some (p:=λ d:DefRec=>d.name==("cost":Str)) hd)
 obtain⟨a,o,fd,c,Tb,h1,h2,h3,h4,h5,h6⟩:=Tp.tab d (gQ hd)
 rw[hdn] at h1
 have efa:a=fa:=by rw[hmg] at h1;cases h1;rfl
 subst efa
 have eft:t.AO=a:=by have:=T.cost.mg;rw[hmg] at this;cases this;rfl
 have hT:s₁.heap.get? Tb=some (iU #[]):=h6.2
 obtain⟨base,H,L⟩:=Z7 (P:=row.prog) (w:=w) KX Tp.g Tp.b Tp.builtins Tp.nolimit hg hobj hints (bf hlen (by decide)) hT (Wy KX hT hnt)
 have UX:∀{b o},s₁.heap.get? b=some o->(∀vs,o.data≠.fields vs)->(∀vs n,o.data≠.seq vs n)->base.get? b=some o:=λ {b o} e n1 n2=>by
  refine L.WJ b o e ?_
  rcases L.only b with z | z | ⟨_,_,_,z⟩
  ·exact z
  ·rw[z,hT] at e;cases e;exact absurd rfl (n1 _)
  ·rw[z,hobj] at e;cases e;exact absurd rfl (n2 _ _)
 have hC:PySem.W.CodeHd base c Tb:=by
  obtain⟨o',vs',file,tf,flags,tg',inF,text,tt,e1,r1,r2,r3,r4,r5,r6,r7,r8,hne⟩:=PySem.W.CodeHd.of h5 h6;refine⟨o',vs',file,tf,flags,tg',inF,text,tt,L.WJ _ _ e1 ?_,r1,r2,r3,r4,r5,r6,r7,r8,hne⟩
  rcases L.only c with z | z | ⟨_,_,_,z⟩
  ·exact z
  ·exact absurd z hne
  ·rw[z,hobj] at e1;cases e1;exact absurd (show Value.type "list" = Value.type "code" from r1) (by decide)
 have Zk:∀{a:Addr} {m:Str->Option Value},s₁.heap.Ns a m->base.Ns a m:=λ {a m} x=>by
  obtain⟨o,es,ep,e,dd,r⟩:=x;exact⟨o,es,ep,UX e (λ vs z=>by rw[dd] at z;cases z) (λ vs n z=>by rw[dd] at z;cases z),dd,r⟩
 obtain⟨bm,ob,b1,b2,b3,b4,b5,b6⟩:=Tp.bmain
 have bmB:=UX b3 (λ vs z=>by rw[b6] at z;cases z) (λ vs n z=>by rw[b6] at z;cases z)
 have hB:∀T,base.get? T=none->base.BuiltinsAt mg T:=λ T hTn=>by
  refine⟨bm,ob,b1,b2,λ z=>?_,λ z=>?_,bmB,b4,b5,b6⟩
  ·obtain⟨o2,es,ep,e2,d2,_⟩:=Tp.g;rw[<-z,b3] at e2
   cases e2;rw[b6] at d2;cases d2
  ·rw[z,hTn] at bmB;cases bmB
 have hN:base.NoSeer:=by
  obtain⟨⟨mc,c1,c2,c3⟩,⟨mm,c4,c5⟩,⟨mb',c6,c7⟩,_⟩:=Tp.seer hi;exact⟨⟨mc,Zk c1,c2,c3⟩,⟨mm,Zk c4,c5⟩,⟨mb',Zk c6,c7⟩,⟨mg,bm,ob,Zk Tp.g,b1,bmB,b4,b5⟩⟩
 refine PySem.W.enter_call ?_
 have run:=Rl (P:=row.prog) (w:=w) T L.Ua hN (by rfl) (tg:=tg) (tr:=tr) (g:=g) (room:=room) (E:=E0) (Q:=λ v H'=>∃p,v=.ref p/\H' p=some (.lst ((Rk g room (ns.map eW)).map V.int))) Ji L.env (bs:=ns.map eW) (by rw[Rm λ x hx=>(hall x hx).1];exact L.txt)
  (λ c hc=>by
   obtain⟨x,hx,rfl⟩:=aB.mp hc;have:=hall x hx;omega) (λ o' fd' e' d'=>by
   have e'':=(L.env.bs _ _ e').1;rw[eft,h2] at e''
   cases e'';rw[h3] at d'
   cases d';exact h4) hC L.tab hB λ p H' hp=>⟨p,rfl,hp⟩
 rw[eft] at run
 refine codeAny_mono run λ r s' hr=>?_
 cases r with
 |error e=>
  obtain⟨_,_,_,_,_,_,_,_,_,_,_,_,_,_,z⟩:=hr;exact z.elim
 |ok f=>
  cases f with
  |ret u=>
   refine M1 L h6 hr (post _ _ ?_);rw[T5 g room ns hlen]
  |next=>exact False.elim hr
  |brk=>exact False.elim hr
  |cont=>exact False.elim hr
end Ck
end
noncomputable section
open PySem PySem.W
theorem Ck.said:cH.wellSaid=true:=by decide +kernel
def Ck.dk:DefRec×List (Str×Expr):=(defOf Ck.z0 "cost").get (by decide +kernel)
theorem Ck.hdef:defOf Ck.z0 cH.name=some (Ck.dk.1,Ck.dk.2):=by kernel_rfl
theorem Ck.hdn:Ck.dk.1.name=("cost":Str):=by kernel_rfl
theorem PySem.Challenge.cw_chancechoices_s05_cost_holds : PySem.Challenge.rw_chancechoices_s05_cost.Holds := by
 refine holds_os (q:=Ck.z0) (loose:=[]) (Xt:=Ck.Xt0) (XP:=XL Ck.z0 []) (Yf:=Ck.Kh.obs) (Ya:=Ck.Kh.val) (YP:=InK Ck.Kt) (d:=Ck.dk.1) (kwd:=Ck.dk.2) Ck.XW Ck.Kh.of Ck.Kh.keeps (λ s e=>xl_of s (bU.mp e).1) XL.keeps Ck.hdef (by kernel_rfl) (by kernel_rfl) (λ s e=>recFacts_of (bU.mp e).2) (os_shapes) Ck.said (by decide +kernel) ⟨rfl,rfl,rfl,rfl,rfl,by decide +kernel⟩ ⟨[.int 0,.int 0,.list []],by decide +kernel,by decide +kernel⟩ ?_
 intro w s₀ s₁ mg mb G Y fa o pm cd doc dV kV ho hd hcd hD hmg hg args vals as hpre hlay hrd hwl hlo
 obtain⟨t,T⟩:=Ck.txt Y G.T.g
 rw[Ck.hdn] at hmg
 exact Ck.NU Ck.said Y G.T T (by decide +kernel) (by decide +kernel) (by kernel_rfl) hmg hg hpre hwl
#print axioms PySem.Challenge.cw_chancechoices_s05_cost_holds
end
